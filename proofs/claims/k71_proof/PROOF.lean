import PyProof.Rows.All
import Wide.All
import OpenK.AllK
import Wide.FinOn
import Lean
import PyProof.EqAt
import PyProof.EqKinds
import PyProof.TupleCall
import PyProof.Rows.SortRunsK
import PyProof.Rows.Walk
import KE.KSortTup
import PyProof.ListRange
import PyProof.Rows.SetFrom
import KE.KDictList
import KE.KRevIter
import PySem.Challenge.RW_restdraw_k71_woods_of_an_order
set_option Elab.async false
set_option linter.all false
set_option maxRecDepth 100000
local macro_rules | `(tactic| omega)=>`(tactic| lia)
noncomputable section
open List renaming getElem?_eq_getElem->aa,getD_eq_getElem?_getD->ai,length_map->aj,getElem?_eq_some_iff->au,getElem?_map->bh,nodup_append->bj,mem_append->bu,mem_append_left->cj,getElem?_append_right->ck,getElem?_append_left->cm,length_append->cq,mem_append_right->cw,mem_cons->cy,range->cz,mem_singleton->de,mem_cons_of_mem->dq,append_assoc->dr,mem_of_getElem?->eA,pairwise_append->eB,length_take->eJ,nodup_cons->eK,map_append->eN,replicate->eQ,size_toArray->eR,mem_cons_self->eV,getElem?_set_ne->eW,map_cons->eX,length_range->eY,getLast?_append->eZ,length_cons->eh,mem_iff_getElem->fc,idxOf_lt_length_of_mem->fe,dropLast_concat_getLast->fh,getLast?_eq_some_getLast->fk,getElem_mem->gh,take_append_drop->gi,not_mem_nil->gj,getElem?_concat_length->gn,mem_range->iB,cons_append->iE,getLastD_eq_getLast?->iF,mem_filter->iG,mem_map->iK,length_drop->iN,length_singleton->iR,length_filter_le->iS,getLast?_eq_getElem?->iU,length->iV,take_length->iW,append_nil->iY,getElem?_eq_none->iZ,pairwise_map->ip,length_eq_zero_iff->iq,take_succ->jf,pairwise_iff_getElem->jl,getElem?_set_self->jm,perm_append_comm->ju,take_of_length_le->ka,getLast?_concat->ke,length_replicate->km,drop_eq_nil_of_le->kr,pairwise_singleton->om,getElem?_zip_eq_some->qk,extract_eq_take_drop->qq,length_nil->qv,getElem?_take_of_lt->rh,filter_cons->sd,nodup_range->sj,filter_cons_of_neg->tz,filter_cons_of_pos->ua,nil_append->ub,map_map->uf,all_eq_true->ug,mem_reverse->uh,filter_append->uj,replicate_succ->uv,foldl_cons->ux,perm_ext_iff_of_nodup->vb,eq_nil_or_concat->vc,drop_eq_getElem_cons->vf,replicate_succ'->vj,mem_of_mem_take->wc,idxOf_cons_self->wj,getElem?_range->wu,range'_succ->wx,getElem_of_mem->wy,concat_eq_append->xb,getElem_inj->xf,append_of_mem->xr,getElem_take->xt,flatMap_singleton->xw,find?_cons->xy,mem_of_mem_tail->yc,mem_iff_getElem?->yh,flatten_cons->yj,reverse_append->yo,length_reverse->yp,mem_of_getLast?->yt,reverse_cons->yu,nodup_nil->yv,cons_ne_nil->yw,any_eq_true->yx,flatMap_append->zd,length_pos_iff->zf,map_congr_left->zg,map_take->AB,take_left'->AD,pairwise_cons->AK,Nodup->AL,getElem?_take->AM,range'->AV,getLast?_cons_cons->AW,eraseIdx_append_of_length_le->AX,forIn_nil->Ac,getElem?_inj->Ad,drop_drop->Af,ext_getElem?->Ag,reverse_perm->Ah,filter_eq_nil_iff->Aj,getElem?_reverse->Ap,pairwise_reverse->Aq,lookup_cons->Av,zipIdx_cons->Aw,mem_flatMap->Az,getElem_map->BA,drop_append->BB,any_cons->BD,take_append_of_le_length->BH,map_drop->BJ,length_set->BL,drop_left'->BN,filterMap_cons->BU,mergeSort_perm->BV,map_eq_nil_iff->BY,of_mem_zip->Bi,forIn_cons->Bm,range_succ->Bo,tail_cons->Br,nodup_iff_pairwise_ne->Bs,getElem_idxOf->Bt,zip_cons_cons->Bv,length_zip->Bx,mem_replicate->By,filter_nil->CC,getLast?_eq_none_iff->CF,getElem_drop->CP,foldl_append->CQ,ext_getElem->Cg,pairwise_mergeSort->Ci,map_snd_zip->Cj,length_tail->Cm,map_fst_zip->Co,map_nil->Cu,pairwise_lt_range->DB,zipIdx_nil->DL,pairwise_flatMap->DU,sum_cons->Dc,reverse_reverse->Dd,take_zero->De,length_flatMap->Dm,filter_eq_self->Dp,all_cons->Ds,mem_filterMap->Dz,ne_nil_of_mem->EI,getElem?_drop->EJ,forIn_toArray->EL,getLast_cons->Ec,perm_middle->FC,getElem_zip->FE,flatMap_def->FF,sum_append->FR,idxOf_cons->FT,all_append->FW,foldl->Fo,drop_take->GB,take_take->GC,drop_zero->GD,all_map->Gz,drop->Hg
open PySem renaming wpAny_bind->ae,Value->ao,Shared->av,Addr->ay,wpAny_pure->az,wpAny->cx,Program->eU,mainGlobals->ed,boot_len->eg,Around->fb,wpAny_holding->fq,World->gk,Expr->iC,Heap->iD,wpAny_field->iJ,wpAny_callSpecial?_slot->iO,wpAny_newObj_type->iQ,wpAny_call_entry->je,wpAny_seqItems->jr,wpAny_typeOf->jz,mem_of_lookup->ko,wpAny_truthy_bool->kq,Stmt->lh,wpAny_comprehension_free->mh,wpAny_attempt->mm,codeAny_builtin->nh,wpAny_setField_rec->oh,wpAny_isInstance->oz,Builtin->ph,IsPair->qj,codeAny_mono->qz,wpAny_newFunctionEnv->se,wpAny_dictEntries->tw,Fin->uo,wpAny_pyIter_tuple->uq,FuncData->ur,NameKind->uu,tupleKind_room_in1->uy,wpAny_rule->uz,builtinLookup_eq_fast->vd,wpAny_passesOwn->vg,codeAny_call_builtin->wg,Scope->wq,wpAny_of_eq->xg,wpAny_mono->xj,wpAny_loadPart'->yb,wpAny_standAt->yd,plainId_quiet->yf,isSubtype_type->yr,Model->yy,wpAny_specialOf->AC,typeLookup_type->AG,sizeLine_eq->AO,wpAny_pyIter_list->AZ,IsZip->An,wpAny_notOrdered_dict->Ar,call_meets->Au,wpAny_forIn_list->Ax,wpAny_onRaise->BE,wpAny_updateSeq_pair->BG,wpAny_execs_nil->BK,wpAny_dictEpoch->BR,wpAny_ite_split->BS,wpAny_dictSet_pairs->BX,call_meetsIn->BZ,sizeLine->Bc,wpAny_Call_Name_kw->Bh,PyData->Bn,Keyword->CJ,arm_eval_DictComp->CO,noFill_tuple_add->Cd,DictEntry->Ce,wpAny_pyIter_zip->Ck,wpAny_pyNext_list_item->Cp,wpAny_call->Cq,IsPart->Cs,wpAny_tests_nil->DJ,codeAny_of_tree->DK,size_of_entries->DM,wpAny_isTrue_Compare1->DQ,wpAny_pyNext_list_end->DR,weight_type_call_type->DV,wpAny_newTuple->Da,wpAny_runValue->Df,isSubtype_stop->Dh,seq_tuple_add->Dr,Comprehension->Dv,wpAny_newList->Dw,wpAny_assign_Name->EN,BindsTo->ET,concat_meets->EU,wpAny_sequenceKey->EV,seqIndex_neg->EW,slot_list_getitem->EX,wpAny_Call_method->EZ,callType_new->Ea,wpAny_pyIter_enum->Eb,atKey_none_of_get->Ej,wpAny_eqBool_int->Es,wpAny_execs_cons->Et,Result->Ew,wpAny_Dict_empty->FB,seqIndex_of->FH,wpAny_throw->FJ,Draws->FK,wpAny_letGo->FM,wpAny_updateSeq->FU,ItemsOf->FX,Paired->FY,wpAny_Name->Fb,wpAny_Compare1->Fd,wpAny_load->Fe,typeIs_int->Fn,fitsIndex_both->Fv,call->Fw,wpAny_setField->Fy,wpAny_tryCatch->GE,CmpOp->Gq,PassesOwn->Gr,Within->Gv,Params->HV,Code->HX,Meets->Hc
open PySem.Heap renaming get?_push_of_some->ar,get?_push_size->cg,lt_size->cn,size_push->jq,SameBut->jx,get?_update_self->lj,get?_update_other->xm,get?_update_ne->ze
open PySem.W renaming Frag->bb,nsIn->gy,kia_one->kg,fnOf->vt,keepIn->Aa,codeIn->Bj,methodObj->CG,cellsFrom_some->Cr,instObj->DG,OpenLaw->DH,lookIn->DY,mg_of->Du,kitx_list->ER,kitx_dict->ES,plainGet->Eu,findIn->Fh,kitOne->Fi,WalkO->Gj
open Nat renaming le_refl->bg,lt_of_lt_of_le->dc,ne_of_lt->df,zero_le->fj,le_trans->fz,lt_of_le_of_lt->gx,lt_or_ge->iA,ne_of_gt->jb,min_eq_left->kh,le_of_lt->kl,lt_irrefl->qw,lt_succ_of_lt->tf,add_assoc->ye,lt_trichotomy->yk,not_lt_zero->AF,le_succ->AR,lt_succ_self->Ay,le_mul_of_pos_left->Cz,strongRecOn->DN,sub_add_cancel->EE,add_sub_cancel->EF,add_comm->EY,zero_add->Ed,add_zero->Ef,sub_self->Eg,mul_mod_right->Eh,sub_zero->El,succ_le_succ->Ez,le_of_eq->Gy,log2_lt->HL,div_one->HQ
open PyProof.Rows renaming Keyed->bp,wpS_bind->cu,pendingOf->dh,arrOf->di,wpS_pure->dj,SortSt->eP,callWith_type1->fu,boot_tuple->ie,slot_tuple_getitem->iz,boot_all->ja,wpS_forRange->jc,SortKind->mj,wpS_modify->ou,boot_isinstance->uc,wpS_mono->vw,failedOf->vy,boot_sorted->wo,wpS_get->AE,args_cons->Ai,args_nil->As,reverseSlice'_eq->BC,get?_update_seq->BP,AllBare->CH,listUpdate_at->CV,subscriptTail_builtinR->Ct,boot_list->DD,boot_dict->DE,boot_repr->DF,boot_max->DW,boot_min->DX,IntsAre->Dk,entry_tuple_getitem->Dl,args_tuple_getitem->EA,firstMet_length_le->EG,Call_->EO,listItems_at->Ei,callWith_builtin1->Ex,seqEpoch_at->FN,IsTup->FZ,boot_range->Fg,slicePart_none->Fj,Subscript_->Fk,boot_divmod->Gn,boot_bool->HA,boot_abs->HE,boot_int->HF,boot_set->HG,wpS_lift->HP,lt_int->HS
open Option.some renaming inj->cc,injEq->Hb
open Option renaming map_eq_some_iff->cv,map_some->ya,isSome_iff_exists->zh,toList_some->CB,isSome_map->CL,getD_none->Ey,none->HK,map->HZ
open Bool renaming false_ne_true->dw,false_eq_true->eO,eq_iff_iff->iL,and_eq_true->iP,not_true->zr,or_eq_true->BO,not_eq_true'->Ee,false_and->Ff,not_false->GA,and_true->Gp
open List.Nodup renaming length_le_of_subset->eI
open PySem.Builtin.SmallTypes renaming ownedTupleIsFree->eo,nextOf->ft,ownedTupleHandOut->zc
open Array renaming length_toList->fw,toList_append->gm,size_push->iX,size_extract->jo,getElem?_toList->md,mem_toList_iff->vk,toList_extract->wa,toList_push->wb,size_append->yl,toList_reverse->yn,toList_setIfInBounds->Bu,getElem?_eq_some_iff->Bz,getElem_mem->CN,size_setIfInBounds->CU,toList_modify->Do,size_reverse->ED,isEmpty_iff->Ek,toList->Gx,getD->HY
open PySem.Str renaming ofString->gw
open Classical renaming byContradiction->iH,choose_spec->qr,choose->wz
open Int renaming toNat_natCast->iI,eq_ofNat_of_zero_le->pd,zero_add->Ak,fdiv_eq_ediv_of_nonneg->Bf,fmod_eq_emod_of_nonneg->Bg,emod_lt_of_pos->CA,emod_nonneg->DO,natAbs_natCast->EM,le_antisymm->FV
open PySem.Value renaming ref->iM,int->uk,none->xh,type->AH,bool->Bd,str->Dj,isStrOf->GV,isInt->HH,float->HI
open PySem.PyData renaming int->ig,shownAll->jd,eqvAll->ji,canLayAll0->kb,depthAll->ni,eqv->og,canLay0->qi,depth->rj,showableAll->AN,hasDictAll->Al,showable->DP,hasDict->GF,shown->HB
open ForInStep renaming yield->ik,done->ym
open PySem.F renaming slot_list_append->iu,type_list_append->iw,slot_list_index->jg,type_list_index->jh,slot_zip_next->jt,kt_called_dict->jv,plainAttrs_tuple->mo,slot_tuple_index->mv,type_tuple_index->mw,slot_tuple_iterator_next->va,args_zip_next_1->we,slot_list_getattribute->wm,entry_zip_next->xa,slot_zip_getattribute->xc,called_set->xx,args_tuple_add_2->zi,entry_tuple_add->AQ,plainAttrs_dict->AU,slot_tuple_add->Ab,slot_dict_get->Am,slot_dict_itemiterator_iter->BI,args_tuple_iterator_next_1->BM,entry_tuple_iterator_next->Ba,slot_dict_update->CW,slot_list_insert->CZ,type_list_insert->Ca,slot_list_remove->Cb,type_list_remove->Cc,args_dict_get_3->Cf,entry_dict_get->Cv,slot_dict_pop->DT,args_object_init_2->DZ,plain_extend_loop->Dq,args_dict_init_2->EK,entry_type_call->Em,entry_dict_init->Eo,slot_dict_items->Ep,plain_list_iadd->Er,slot_int_rmul->FP
open PySem.Heap.SameBut renaming update->jw,refl->CM
open PySem.Builtin.Tuple renaming tupleExact->me,tupleItemsOf->Bl,tupleIsExact->Fz,tupleHashOf->GT
open True renaming intro->nj
open PySem.Builtin.Dict renaming updateFrom->ow,selfAndRest->zv,addKeywords->AA,entriesForEmpty->BQ,mergeDict->DA,pairItems->DC,quietEq->Dg,readDirectly->GU,showsAll->HC,merge->Ha
open Ne renaming symm->qe
open PySem.Obj renaming mapSeq->qh,data_mapDictKeys->yq,isFreed_of_dict->BW,data_mapFields->EB,data_mapDict->FD
open Prod renaming ext->rm,fst->Bp,snd->Bq
open Std.Legacy.Range renaming forIn_eq_forIn_range'->si,size->Ao
open PySem.Around renaming under_plainId->sk,under_plain->EH
open PySem.SeqAt renaming shaped->ud,EqAt->Fm
open PySem.Builtin.List renaming listExtendWith->ue,listTooLong->zq,listLengthHint->Bb,listSameRef->CY
open PySem.Shared renaming TypeIs->ui,heap->FL
open PySem.Builtin.Slice renaming slicePlaces->ve,sliceAdjust->yz,sliceApplied->Bk,slicePartIndex->FO,sliceFields->GS
open List.Perm renaming trans->vh,append_right->xu,append_left->yg,refl->Ae
open PySem.Paired renaming length->wk,snoc->HM
open False renaming elim->xk
open PySem.Calls renaming callWith_builtin->xp,spliced_cons->AI,evalArgs_plain->BF,Name_function_global->Be,spliced_nil->CI
open Or renaming inl->AJ,inr->FA
open Sum renaming inl->AY,inr->Di
open PySem.Code renaming quiet_builtin->Bw
open PySem.Challenge renaming rw_restdraw_k71_woods_of_an_order->CD
open List.Pairwise renaming nil->CK,imp_of_mem->Gk,map->Hd
open PySem.NameKind renaming free->CT
open Iff renaming rfl->Cw
open PyProof.Rows.SortSt renaming mk'->Cy
open PySem.Heap.DictOf renaming new->DI
open PySem.SeqAt.EqAt renaming int_str->Dx,str_int->Dy
open PUnit renaming unit->EC
open Sum.inl renaming inj->FG
open PySem.PassesOwn renaming never->FQ
open PySem.Builtin.Frozenset renaming updateFrom->FS
open PySem.EqNone renaming eq_none_none->GH,eq_none_bool->GI,eq_bool_none->GJ,ne_none_none->GN,ne_none_bool->GO,ne_bool_none->GP,eq_none_int->GX,eq_none_str->GY,eq_int_none->GZ,eq_str_none->Gb,ne_none_int->Gd,ne_none_str->Ge,ne_int_none->Gf,ne_str_none->Gh
open PySem.EqMixed renaming eq_bool_str->GK,eq_str_bool->GM,ne_bool_str->GQ,ne_str_bool->GR,eq_int_str->Ga,eq_str_int->Gc,ne_int_str->Gg,ne_str_int->Gi
open PySem.W.Looks renaming of_pure->Gm
open PySem.Builtin.Range renaming rangeSize->Gs
open And renaming intro->Gu
open PySem.Heap.IsRevIter renaming typeIs->HD
open PySem.IsRange renaming new->HJ
open PySem.MeetsSeq.EqGives renaming int->HN
open PySem.Builtin.Int renaming intBits->HR
open PySem.Heap.IsSliceOf renaming new->HU
open PySem.W.WShape renaming has->HW
open PySem.W.WData renaming int->He
def yS0:0<=Bc:=by decide
def yS1:1<=Bc:=by decide
def yS2:2<=Bc:=by decide
def yS3:3<=Bc:=by decide
namespace L2
open PySem PySem.Spec PyProof.Rows
abbrev Key:=Sum Int Str
def lJ:Key->ao->Bool
 | .inl k,v=>HH k v
 | .inr x,v=>GV x v
def kWH(w:gk):Key->Int
 | .inl k=>hashInt k
 | .inr x=>hashStr w x
def qU:∀{k:Key}{v:ao},lJ k v=true->(∃ i t,k=AY i/\v=uk i t)\/(∃ x t,k=Di x/\v=Dj x t)
 | .inl i,v,h=>by
  obtain⟨t,e⟩:=Value.isInt_shape (k:=i) (v:=v) h;exact .inl ⟨i,t,rfl,e⟩
 | .inr x,v,h=>by
  obtain⟨t,e⟩:=Value.isStrOf_shape (x:=x) (v:=v) h;exact .inr ⟨x,t,rfl,e⟩
def kJB(i:Int)(t:Tok):lJ (.inl i) (.int i t)=true:=by simp[lJ,HH]
def kJA(x:Str)(t:Tok):lJ (.inr x) (.str x t)=true:=by simp[lJ,GV]
def kTF(a b:Int):decide ((AY a:Key)=AY b)=(a == b):=by
 by_cases e:a=b
 ·subst e;simp
 ·have h:¬ (AY a:Key)=AY b:=λ q=>e (FG q)
  rw[decide_eq_false h];exact(beq_eq_false_iff_ne.mpr e).symm
def kTC(a b:Str):decide ((Di a:Key)=Di b)=decide (a=b):=by
 by_cases e:a=b
 ·subst e;simp
 ·have h:¬ (Di a:Key)=Di b:=λ q=>e (Sum.inr.inj q)
  rw[decide_eq_false h,decide_eq_false e]
def kTE(a:Int)(b:Str):decide ((AY a:Key)=Di b)=false:=decide_eq_false (λ q=>nomatch q)
def kTD(a:Str)(b:Int):decide ((Di a:Key)=AY b)=false:=decide_eq_false (λ q=>nomatch q)
def kX(prog:eU)(w:gk):PySem.KeyKind prog w Key where
 is:=lJ
 hash:=kWH w
 inj:=λ v a b f d=>by
  rcases qU f with⟨i,t,rfl,rfl⟩ | ⟨x,t,rfl,rfl⟩
  ·rcases qU d with⟨j,u,rfl,e⟩ | ⟨y,u,rfl,e⟩
   ·injection e with e1 _;rw[e1]
   ·exact nomatch e
  ·rcases qU d with⟨j,u,rfl,e⟩ | ⟨y,u,rfl,e⟩
   ·exact nomatch e
   ·injection e with e1 _;rw[e1]
 byValue:=λ k v h=>by
  rcases qU h with⟨i,t,rfl,rfl⟩ | ⟨x,t,rfl,rfl⟩<;>rfl
 pyHash:=λ c h=>by
  rcases qU c with⟨i,t,rfl,rfl⟩ | ⟨x,t,rfl,rfl⟩
  ·exact wpAny_pyHash_int h
  ·exact wpAny_pyHash_str h
 eqBool:=λ g c h=>by
  rcases qU g with⟨i,t,rfl,rfl⟩ | ⟨x,t,rfl,rfl⟩
  ·rcases qU c with⟨j,u,rfl,rfl⟩ | ⟨y,u,rfl,rfl⟩
   ·rw[kTF]at h;exact Es h
   ·rw[kTE]at h;exact Dx i t y u _ _ _ _ h
  ·rcases qU c with⟨j,u,rfl,rfl⟩ | ⟨y,u,rfl,rfl⟩
   ·rw[kTD]at h;exact Dy x t j u _ _ _ _ h
   ·rw[kTC]at h;exact wpAny_eqBool_str h
 «strs»:=λ k x t v h=>by
  rcases qU h with⟨i,u,rfl,e⟩ | ⟨y,u,rfl,e⟩
  ·exact nomatch e
  ·injection e with e1 _
   subst e1;cases v<;>rfl
def kEA(prog:eU)(w:gk)(k:Key)(v:ao):(kX prog w).is k v=lJ k v:=rfl
def kBI(prog:eU)(w:gk)(i:Int)(t:Tok):(kX prog w).is (.inl i) (.int i t)=true:=kJB i t
def kBH(prog:eU)(w:gk)(x:Str)(t:Tok):(kX prog w).is (.inr x) (.str x t)=true:=kJA x t
inductive V where
 | non | bl (b:Bool) | int (i:Int) | str (x:Str) | byt (b:Array UInt8) | flt (b:UInt64) | ref (a:ay) | ty (n:String)
 deriving DecidableEq
def RelV:V->ao->Prop
 | .non,u=>u=xh
 | .bl b,u=>u=Bd b
 | .int i,u=>∃ t,u=uk i t
 | .str x,u=>∃ t,u=Dj x t
 | .byt b,u=>∃ t,u=Value.bytes b t
 | .flt b,u=>∃ t,u=HI b t
 | .ref a,u=>u=iM a
 | .ty n,u=>u=AH n
abbrev Vals:List V->List ao->Prop:=FY RelV
theorem Vals.length{xs:List V}{a:List ao}(r:Vals xs a):xs.length=a.length:=wk r
theorem Vals.get:∀{xs:List V}{a:List ao}{i:Nat}{x:V},Vals xs a->xs[i]?=some x->∃ u,a[i]?=some u/\RelV x u
 | _,_,_,_,.nil,e=>by simp at e
 | _,_,0,_,.cons r _,e=>by simp at e;subst e;exact⟨_,rfl,r⟩
 | _,_,i+1,x,.cons _ t,e=>by
  obtain⟨u,h1,b⟩:=Vals.get (i:=i) (x:=x) t (by simpa using e);exact⟨u,by simpa using h1,b⟩
theorem Vals.set{x:V}{u:ao}(r:RelV x u):∀{xs:List V}{a:List ao}(i:Nat),Vals xs a->Vals (xs.set i x) (a.set i u)
 | _,_,_,.nil=>.nil
 | _,_,0,.cons _ t=>.cons r t
 | _,_,i+1,.cons q t=>.cons q (Vals.set r i t)
theorem Vals.append:∀{xs ys:List V}{a b:List ao},Vals xs a->Vals ys b->Vals (xs++ys) (a++b)
 | _,_,_,_,.nil,s=>s
 | _,_,_,_,.cons r t,s=>.cons r (Vals.append t s)
theorem Vals.take:∀{xs:List V}{a:List ao}(n:Nat),Vals xs a->Vals (xs.take n) (a.take n)
 | _,_,0,_=>.nil
 | _,_,_+1,.nil=>.nil
 | _,_,n+1,.cons r t=>.cons r (Vals.take n t)
theorem Vals.drop:∀{xs:List V}{a:List ao}(n:Nat),Vals xs a->Vals (xs.drop n) (a.drop n)
 | _,_,0,r=>r
 | _,_,_+1,.nil=>.nil
 | _,_,n+1,.cons _ t=>Vals.drop n t
def RelO:Option V->Option ao->Prop
 | some v,some u=>RelV v u
 | none,none=>True
 | _,_=>False
def KV{a:Type}:List (a×V)->List (a×ao)->Prop:=FY λ(p:a×V) (q:a×ao)=>p.1=q.1/\RelV p.2 q.2
def kV:Key->V
 | .inl i=>.int i
 | .inr x=>.str x
inductive HO where
 | lst (xs:List V)
 | tup (xs:List V)
 | dK (kvs:List (Key×V)) | dT (kvs:List (List Key×V))
 | set (S:Int->Bool) (n:Nat)
 | ins (C dx:ay) (fs:List (Str×V))
 | own (x:ay)
 | xd (fs:List (Str×V))
 | met (f x:ay)
 | rng (lo hi:Int)
 | frz (o:Obj) (u:HO)
 | tbl (ps:Array ao)
 | ext (φ:iD->Prop)
abbrev Hp:=ay->Option HO
def upd(H:Hp)(a:ay)(o:HO):Hp:=λ b=>if b=a then some o else H b
def kB{H:Hp}{a:ay}{o:HO}:upd H a o a=some o:=by unfold upd;rw[if_pos rfl]
def kK{H:Hp}{a b:ay}{o:HO}(h:b≠a):upd H a o b=H b:=by unfold upd;rw[if_neg h]
def wI{H:Hp}{a b:ay}{o u:HO}(h:H a=some o)(h':H b=some u)(d:o≠u):a≠b:=by
 intro e;subst e;rw[h]at h';exact d (cc h')
def kF{H:Hp}{a b:ay}{o:HO}(h:H a=some o)(h':H b=none):a≠b:=by
 intro e;subst e;rw[h]at h';cases h'
section
def IsTupN(h:iD)(a:ay)(items:Array ao):Prop:=∃ o,h.get? a=some o/\o.cls=.type "tuple"/\∃ n,o.data=.seq items n/\o.dict=none
def IsTupN.isTup{h:iD}{a:ay}{items:Array ao}:IsTupN h a items->FZ h a items:=λ⟨o,e,c,n,d,_⟩=>⟨o,e,c,n,d⟩
theorem IsTupN.lt{h:iD}{a:ay}{items:Array ao}(x:IsTupN h a items):a<h.objs.size:=x.isTup.lt
def IsTupN.new(h:iD)(items:Array ao):IsTupN (h.push {cls:=.type "tuple",data:=.seq items}) h.objs.size items:=⟨_,cg _ rfl,rfl,_,rfl,rfl⟩
variable (P:eU) (w:gk)
def ObjOk(H:Hp)(h:iD)(a:ay):HO->Prop
 | .lst c=>c.length<=sizeLine/\∃(b:List ao)(n:Nat),Vals c b/\h.get? a=some {cls:=.type "list",data:=.seq b.toArray n}
 | .tup c=>c.length<=sizeLine/\∃ b:List ao,Vals c b/\IsTupN h a b.toArray
 | .dK kvs=>kvs.length<=sizeLine/\(a == sysModules)=false/\∃ i,KV kvs i/\h.DictOf (kX P w) a i
 | .dT kvs=>kvs.length<=sizeLine/\(a == sysModules)=false/\∃ c:List (List Key×ay×ao),
   FY (λ(p:List Key×V) (q:List Key×ay×ao)=>p.1=q.1/\H q.2.1=some (.tup (p.1.map kV))/\RelV p.2 q.2.2) kvs c /\
   ∃ o g m,h.get? a=some o/\o.ExactDict/\o.data=.dict g m/\g.toList=c.map (entryOfKey (tupleKind (kX P w)))/\(c.map (·.1)).Nodup
 | .set S n=>h.SetOf (intKind P w) a S n
 | .ins C dx fs=>H dx=some (.own a)/\fs.length<=1000/\dx≠a/\h.get? a=some (DG C dx) /\
   ∃ d,h.Ns1 dx d/\(∀ f,RelO (fs.lookup f) (d f))/\Gv d (fs.map (·.1))
 | .own _=>∃ o,h.get? a=some o
 | .xd fs=>∃ d,h.Ns1 a d/\∀ f,RelO (fs.lookup f) (d f)
 | .rng lo hi=>∃ t u v,h.get? a=some {cls:=.type "range",data:=.fields #[.int lo t,.int hi u,.int 1 v]}
 | .frz o u=>h.get? a=some o/\ObjOk H h a u
 | .tbl ps=>h.get? a=some {cls:=.none,data:=.fields ps}
 | .met f x=>h.get? a=some (CG (.ref f) (.ref x))
 | .ext φ=>φ h/\(∃ o,h.get? a=some o)/\∀ h1 l:iD,φ h1->(∀ o,h1.get? a=some o->l.get? a=some o)->φ l
def HOk(H:Hp)(h:iD):Prop:=∀ a o,H a=some o->ObjOk P w H h a o
end
section
variable {P:eU} {w:gk} {H H':Hp} {h h':iD} {a:ay} {o:HO}
theorem ObjOk.lt(x:ObjOk P w H h a o):a<h.objs.size:=by
 cases o with
 | lst xs=>obtain⟨_,_,_,_,e⟩:=x;exact cn e
 | tup xs=>obtain⟨_,_,_,p⟩:=x;exact p.lt
 | dK kvs=>obtain⟨_,_,_,_,o,_,_,e,_⟩:=x;exact cn e
 | dT kvs=>obtain⟨_,_,_,_,o,_,_,e,_⟩:=x;exact cn e
 | set S n=>obtain⟨o,_,_,_,e,_⟩:=x;exact cn e
 | ins C dx fs=>obtain⟨_,_,_,e,_⟩:=x;exact cn e
 | own y=>obtain⟨_,e⟩:=x;exact cn e
 | xd fs=>obtain⟨_,⟨_,_,_,e,_⟩,_⟩:=x;exact cn e
 | rng lo hi=>obtain⟨_,_,_,e⟩:=x;exact cn e
 | frz ob u=>obtain⟨e,_⟩:=x;exact cn e
 | tbl ps=>exact cn (show h.get? a=some _ from x)
 | met f y=>exact cn (show h.get? a=some _ from x)
 | ext φ=>obtain⟨_,⟨_,e⟩,_⟩:=x;exact cn e
theorem Paired.mapP{α c:Type}{F G:α->c->Prop}:∀{l₁:List α}{l₂:List c},FY F l₁ l₂->(∀ a b,F a b->G a b)->FY G l₁ l₂
 | _,_,.nil,_=>.nil
 | _,_,.cons r t,f=>.cons (f _ _ r) (Paired.mapP t f)
def ObjOk.stay(x:ObjOk P w H h a o)(k:∀ b u,(b=a\/H b=some (.own a))->h.get? b=some u->h'.get? b=some u)
  (B:∀ b,H b=some (.own a)->H' b=some (.own a)) (J:∀ b xs,H b=some (.tup xs)->H' b=some (.tup xs)):ObjOk P w H' h' a o:=by
 induction o with
 | lst xs=>obtain⟨z,m,n,r,e⟩:=x;exact⟨z,m,n,r,k _ _ (.inl rfl) e⟩
 | tup xs=>obtain⟨z,m,r,g,e,c⟩:=x;exact⟨z,m,r,g,k _ _ (.inl rfl) e,c⟩
 | dK kvs=>obtain⟨z,y,D,r,g,l,i,e,c⟩:=x;exact⟨z,y,D,r,g,l,i,k _ _ (.inl rfl) e,c⟩
 | dT kvs =>
  obtain⟨z,y,xs,r,g,l,i,e,c⟩:=x;exact⟨z,y,xs,Paired.mapP r λ p q z=>⟨z.1,J _ _ z.2.1,z.2.2⟩,g,l,i,k _ _ (.inl rfl) e,c⟩
 | set S n=>obtain⟨g,l,i,t,e,c⟩:=x;exact⟨g,l,i,t,k _ _ (.inl rfl) e,c⟩
 | ins C dx fs =>
  obtain⟨d,z,G,e,s,⟨A,l,i,I,c⟩,r⟩:=x;exact⟨B _ d,z,G,k _ _ (.inl rfl) e,s,⟨A,l,i,k _ _ (.inr d) I,c⟩,r⟩
 | own y=>obtain⟨g,e⟩:=x;exact⟨g,k _ _ (.inl rfl) e⟩
 | xd fs=>obtain⟨s,⟨A,l,i,e,c⟩,r⟩:=x;exact⟨s,⟨A,l,i,k _ _ (.inl rfl) e,c⟩,r⟩
 | rng lo hi=>obtain⟨t,u,v,e⟩:=x;exact⟨t,u,v,k _ _ (.inl rfl) e⟩
 | frz g u ih=>obtain⟨e,q⟩:=x;exact⟨k _ _ (.inl rfl) e,ih q⟩
 | tbl ps =>
  have e:h.get? a=some {cls:=.none,data:=.fields ps}:=x;show h'.get? a=some {cls:=.none,data:=.fields ps};exact k a _ (.inl rfl) e
 | met f y =>
  have e:h.get? a=some (CG (.ref f) (.ref y)):=x;show h'.get? a=some (CG (.ref f) (.ref y));exact k a _ (.inl rfl) e
 | ext φ=>obtain⟨p,⟨o,e⟩,st⟩:=x;exact⟨st _ _ p λ o q=>k _ _ (.inl rfl) q,⟨o,k _ _ (.inl rfl) e⟩,st⟩
theorem HOk.lt(x:HOk P w H h)(e:H a=some o):a<h.objs.size:=(x a o e).lt
def HOk.fresh(x:HOk P w H h)(e:h.objs.size<=a):H a=none:=by
 cases q:H a with
 | none=>rfl
 | some u=>exact absurd (dc (x.lt q) e) (qw _)
def HOk.kept(x:HOk P w H h)(k:∀ b u,h.get? b=some u->h'.get? b=some u):HOk P w H h':=λ a o e =>
 (x a o e).stay (λ b u _ q=>k b u q) (λ _ q=>q) λ _ _ q=>q
def HOk.laid(x:HOk P w H h)(k:∀ b u,h.get? b=some u->h'.get? b=some u)(hp:h.objs.size<=a)(new:ObjOk P w (upd H a o) h' a o):HOk P w (upd H a o) h':=λ b u e=>by
 have d:=x.fresh hp;by_cases f:b=a
 ·subst f;rw[kB]at e;cases e;exact new
 ·rw[kK f]at e
  exact(x b u e).stay (λ c v _ q=>k c v q) (λ c q=>by rw[kK (kF q d)];exact q) λ c g q=>by rw[kK (kF q d)];exact q
end
def Rd(H:Hp)(a:ay)(u:HO):Prop:=H a=some u\/∃ o,H a=some (.frz o u)
def Rd.ok{P:eU}{w:gk}{H:Hp}{h:iD}{a:ay}{u:HO}(r:Rd H a u)(x:HOk P w H h):ObjOk P w H h a u:=by
 rcases r with r | ⟨o,r⟩
 ·exact x a u r
 ·obtain⟨_,q⟩:=x a _ r
  exact q
def Mut:Option HO->Prop
 | some (.lst _)=>True
 | some (.dK _)=>True
 | some (.dT _)=>True
 | some (.set _ _)=>True
 | some (.ins _ _ _)=>True
 | some (.ext _)=>True
 | _=>False
section
variable {P:eU} {w:gk} {H:Hp} {h h':iD} {x e:ay} {o':HO}
def HOk.write(ok:HOk P w H h)(i:Mut (H x))(o:e=x\/H e=some (.own x))(k:∀ b u,b≠e->h.get? b=some u->h'.get? b=some u)(n:∃ u,h'.get? e=some u)
  (new:ObjOk P w (upd H x o') h' x o'):HOk P w (upd H x o') h':=λ b u q=>by
 have d:∀ c y,H c=some (.own y)->c≠x:=λ c y r z=>by subst z;rw[r]at i;exact i
 have f:∀ c l,H c=some (.tup l)->c≠x:=λ c l r z=>by subst z;rw[r]at i;exact i
 by_cases m:b=x
 ·subst m;rw[kB]at q;cases q;exact new
 ·rw[kK m]at q
  by_cases a:b=e
  ·have p:H b=some (.own x):=by
    rcases o with z | z
    ·exact absurd (a.trans z) m
    ·rw[a];exact z
   rw[q]at p;cases p;obtain⟨v,s⟩:=n;exact⟨v,by rw[a];exact s⟩
  ·refine(ok b u q).stay (λ c v g r=>k c v ?_ r) (λ c r=>by rw[kK (d c b r)];exact r) λ c l r=>by rw[kK (f c l r)];exact r
   rcases g with rfl | g
   ·exact a
   ·rintro rfl
    rcases o with z | z
    ·exact d c b g z
    ·rw[g]at z;cases z;exact m rfl
end
structure Un(fs ex:List ay)(H H':Hp)(h h':iD):Prop where
 keep:∀ b o,h.get? b=some o->H b=none->b∉fs->b∉ex->h'.get? b=some o
 slot:∀ b o,h.get? b=some o->H b=none->b∈fs->b∉ex->∃ sl,h'.get? b=some {o with slots:=sl}
 free:∀ b o,h.get? b=some o->H b=none->b∉ex->H' b=none
 there:∀ b o,h.get? b=some o->b∉ex->∃ o',h'.get? b=some o'
 tups:∀ b xs,H b=some (.tup xs)->H' b=some (.tup xs)
 frzs:∀ b o u,H b=some (.frz o u)->H' b=some (.frz o u)
 tbls:∀ b ps,H b=some (.tbl ps)->∃ more,H' b=some (.tbl (ps++more))
section
variable {fs fs' ex ex':List ay} {H H1 H2:Hp} {h h1 h2 h':iD} {a x e:ay} {o:HO}
def Un.any(u:Un fs ex H H1 h h1){b:ay}{ob:Obj}(q:h.get? b=some ob)(n:H b=none)(a:b∉ex):∃ sl,h1.get? b=some {ob with slots:=sl}:=by
 by_cases c:b∈fs
 ·exact u.slot b ob q n c a
 ·exact⟨ob.slots,u.keep b ob q n c a⟩
def Un.kept(k:∀ b u,h.get? b=some u->h'.get? b=some u):Un fs ex H H h h' :=
 ⟨λ b a q _ _ _=>k b a q,λ b a q _ _ _=>⟨a.slots,k b a q⟩,λ _ _ _ n _=>n,λ b a q _=>⟨a,k b a q⟩,λ _ _ q=>q,λ _ _ _ q=>q,λ _ c q=>⟨#[],by rw[q];simp⟩⟩
def Un.refl:Un fs ex H H h h:=Un.kept λ _ _ q=>q
def Un.laid(k:∀ b u,h.get? b=some u->h'.get? b=some u)(hp:h.objs.size<=a)(c:H a=none):Un fs ex H (upd H a o) h h' where
 keep:=λ b u q _ _ _=>k b u q
 slot:=λ b u q _ _ _=>⟨u.slots,k b u q⟩
 free:=λ b u q n _=>by rw[kK (df (dc (cn q) hp))];exact n
 there:=λ b u q _=>⟨u,k b u q⟩
 tups:=λ b d q=>by rw[kK (kF q c)];exact q
 frzs:=λ b u d q=>by rw[kK (kF q c)];exact q
 tbls:=λ b f q=>⟨#[],by rw[kK (kF q c),q];simp⟩
def Un.write(c:Mut (H x))(p:e=x\/H e=some (.own x))(k:∀ b u,b≠e->h.get? b=some u->h'.get? b=some u)(f:∃ u,h'.get? e=some u):Un fs ex H (upd H x o) h h':=by
 have g:∀ b,H b=none->b≠x:=λ b n z=>by subst z;rw[n]at c;exact c
 have i:∀ b,H b=none->b≠e:=λ b n z=>by
  subst z;rcases p with r | r
  ·exact g b n r
  ·rw[n]at r;cases r
 have d:∀ b u,H b=some u->¬ Mut (some u)->b≠x:=λ b u q l z=>by subst z;rw[q]at c;exact l c
 refine⟨λ b u q n _ _=>k b u (i b n) q,λ b u q n _ _=>⟨u.slots,k b u (i b n) q⟩,λ b u q n _=>by rw[kK (g b n)];exact n,λ b u q _=>?_,
  λ b m q=>by rw[kK (d b _ q λ z=>z)];exact q,λ b u m q=>by rw[kK (d b _ q λ z=>z)];exact q,λ b s q=>⟨#[],by rw[kK (d b _ q λ z=>z),q];simp⟩⟩
 by_cases a:b=e
 ·subst a;exact f
 ·exact⟨u,k b u a q⟩
end
def trk(h:iD)(H:Hp):List ay:=(cz h.objs.size).filter λ a=>(H a).isSome
def sM(h:iD)(H:Hp):iD:=PySem.W.hideAll h (trk h H)
def kJH(h:iD)(H:Hp):(sM h H).objs.size=h.objs.size:=PySem.W.hideAll_size _ _
def kNL{h:iD}{H:Hp}{b:ay}{o:Obj}(e:h.get? b=some o)(n:H b=none):(sM h H).get? b=some o :=
 PySem.W.hideAll_get _ e λ a=>by
  have q:(H b).isSome=true:=(iG.mp a).2;rw[n]at q;simp at q
def kPO{h:iD}{H:Hp}{b:ay}{o:Obj}(e:(sM h H).get? b=some o):h.get? b=some o/\H b=none:=by
 have a:h.get? b=some o:=PySem.W.of_hideAll (trk h H) e;refine⟨a,?_⟩
 cases q:H b with
 | none=>rfl
 | some x =>
  have c:b∈trk h H:=iG.mpr ⟨iB.mpr (cn a),by simp[q]⟩;have z:(sM h H).get? b=none:=PySem.W.hideAll_none (trk h H) c;rw[z]at e;cases e
structure Mod(K:bb)(mg:Str->Option ao)(base:iD):Prop where
 kin:K.In base
 glob:base.Ns ed mg
 blt:∃ mb,base.Ns builtinsNs mb/\∀ x:Str,x≠"__name__"->mb x=bootBuiltins x
 nolimit:base.NoLimit
structure Cx where
 prog:eU
 w:gk
 K:bb
 mg:Str->Option ao
 base:iD
 A:fb
 N:List Str
 s₀:av
 H₀:Hp
 env:Env
 outer:List Env
 stack:List Env
 ex:List ay
 fn:Str->Bool
 calm:Bool
 pn:List (ay×Obj)
 xe:ao->av->Prop
def frs(l:List Env):List ay:=l.filterMap (·.frame)
abbrev Cx.fs(X:Cx):List ay:=frs X.outer
def Vis(a:wq)(x:Str):Prop:=a.names.lookup x=some .local\/a.names.lookup x=some .cell\/a.names.lookup x=some .free
def Loc(a:wq)(x:Str):Prop:=a.names.lookup x=some .local\/a.names.lookup x=some .cell
def kWN(env:Env)(h:iD)(m:Str->Option ao)(x:Str)(u:ao):Prop :=
 (env.kindOf x=some .local/\m x=some u)\/((env.kindOf x=some .cell\/env.kindOf x=some .free)/\∃ c,env.cells.lookup x=some c/\h.IsCell c (some u))
structure Cx.Ok(X:Cx):Prop where
 mod:Mod X.K X.mg X.base
 kind:X.env.scope.kind=.function
 glob:X.env.globals=ed
 blt:X.env.builtins=builtinsNs
 above:X.s₀.heap.objs.size<=X.env.locals
 inj:∀ x y c,X.env.cells.lookup x=some c->X.env.cells.lookup y=some c->x=y
 has:∀ x,(X.env.kindOf x=some .cell\/X.env.kindOf x=some .free)->∃ c,X.env.cells.lookup x=some c
 cab:∀ x c,X.fn x=true->X.env.cells.lookup x=some c->X.s₀.heap.objs.size<=c
 hd:X.calm=true->X.A.handled=none
 frames:X.A.frames=some X.stack
 stk:X.stack=X.outer\/(X.stack=X.env::X.outer/\X.env.frame=some X.env.locals)
 exf:∀ b∈X.ex,b≠X.env.locals/\∀ x c,X.env.cells.lookup x=some c->c≠b
 bs:∀ b o,X.base.get? b=some o->X.s₀.heap.get? b=some o/\X.H₀ b=none
 bsz:X.base.objs.size<=X.s₀.heap.objs.size
 noex:∀ b o,X.base.get? b=some o->b∉X.ex
 exfs:∀ b∈X.ex,b∉X.fs
 funs:X.s₀.heap.FunFrames X.base X.outer
 frf:∀ b∈X.fs,X.H₀ b=none
structure Inv(X:Cx)(pins:List (ay×Obj))(σ:List (Option V))(H:Hp)(s:av):Prop where
 ok:X.Ok
 os:s.os=X.s₀.os
 bare:CH s.gens
 base:Un X.fs X.ex X.H₀ H X.s₀.heap s.heap
 loc:∃ m,s.heap.Ns X.env.locals m/\∀(i:Nat)(x:Str)(v:V),X.N[i]?=some x->σ[i]?=some (some v)->Vis X.env.scope x->∃ u,RelV v u/\kWN X.env s.heap m x u
 cell:∀ x c,X.env.cells.lookup x=some c->∃ v,s.heap.IsCell c v
 free:H X.env.locals=none
 freeC:∀ x c,X.env.cells.lookup x=some c->H c=none
 pin:∀ p∈X.pn++pins,s.heap.get? p.1=some p.2/\H p.1=none/\p.1≠X.env.locals/\p.1∉X.fs/\∀ v,p.2.data≠.cell v
 hok:HOk X.prog X.w H s.heap
 len:σ.length=X.N.length
section
variable {X:Cx} {pins:List (ay×Obj)} {σ:List (Option V)} {H H':Hp} {s:av} {h':iD}
def Cx.Ok.nofr(ok:X.Ok){b:ay}{o:Obj}(e:X.base.get? b=some o):b∉X.fs:=λ a=>by
 have:=(ok.funs.mem a).1;rw[e]at this;cases this
theorem Inv.bs(I:Inv X pins σ H s):∀ b o,X.base.get? b=some o->s.heap.get? b=some o/\H b=none:=λ b o e =>
 ⟨I.base.keep b o (I.ok.bs b o e).1 (I.ok.bs b o e).2 (I.ok.nofr e) (I.ok.noex b o e),I.base.free b o (I.ok.bs b o e).1 (I.ok.bs b o e).2 (I.ok.noex b o e)⟩
def Inv.bk(I:Inv X pins σ H s):∀ b o,X.base.get? b=some o->s.heap.get? b=some o:=λ b o e=>(I.bs b o e).1
theorem Inv.mod(I:Inv X pins σ H s):Mod X.K X.mg X.base:=I.ok.mod
def Inv.kIn(I:Inv X pins σ H s):X.K.In s.heap:=I.ok.mod.kin.keeps I.bk
theorem Inv.lt(I:Inv X pins σ H s):X.env.locals<s.heap.objs.size:=let ⟨_,hn,_⟩:=I.loc;hn.lt
def Inv.sz(I:Inv X pins σ H s):X.s₀.heap.objs.size<=s.heap.objs.size:=fz I.ok.above (kl I.lt)
def Inv.nofs(I:Inv X pins σ H s){a:ay}(h:s.heap.objs.size<=a):a∉X.fs:=λ c=>by
 obtain⟨_,o,b,_⟩:=I.ok.funs.mem c;exact absurd (dc (cn b) (fz I.sz h)) (qw _)
def Inv.cne(I:Inv X pins σ H s):∀ x c,X.env.cells.lookup x=some c->c≠X.env.locals:=λ x c e z=>by
 obtain⟨v,o,d,f⟩:=I.cell x c e;obtain⟨m,⟨i,g,h,b,a,_⟩,_⟩:=I.loc;rw[z,b]at d;cases d;rw[a]at f;cases f
theorem Inv.funs(I:Inv X pins σ H s):s.heap.FunFrames X.base X.outer:=by
 have all:∀(l:List Env),(∀ b∈frs l,b∈X.fs)->X.s₀.heap.FunFrames X.base l->s.heap.FunFrames X.base l:=by
  intro l
  induction l with
  | nil=>intro _ _;trivial
  | cons env r ih =>
   intro f h;obtain⟨m,⟨L,o,a,p,i,n⟩,g⟩:=h;have c:L∈X.fs:=f L (by unfold frs;rw[BU,a];exact eV);obtain⟨q,e⟩:=I.base.slot L o i (I.ok.frf L c) c λ z=>I.ok.exfs L z c;exact⟨m,⟨L,_,a,p,e,n⟩,ih (λ b d=>f b (by unfold frs;rw[BU,a];exact dq _ d)) g⟩
 exact all X.outer (λ _ d=>d) I.ok.funs
theorem Inv.stack(I:Inv X pins σ H s):s.heap.FunFrames X.base X.stack:=by
 rcases I.ok.stk with e | ⟨e,a⟩
 ·rw[e];exact I.funs
 ·rw[e]
  obtain⟨m,b,_⟩:=I.loc;refine .cons (by rw[I.ok.kind];decide) a b ?_ I.funs;exact Heap.get?_none_of_le (fz I.ok.bsz I.ok.above)
def Inv.stkSub(I:Inv X pins σ H s):∀ b∈frs X.stack,b∈X.env.locals::X.fs:=λ b a=>by
 rcases I.ok.stk with e | ⟨e,c⟩
 ·rw[e]at a;exact dq _ a
 ·rw[e]at a
  unfold frs at a;rw[BU,c]at a;exact a
def Inv.stkFree(I:Inv X pins σ H s):∀ b∈frs X.stack,H b=none:=λ b a=>by
 rcases cy.mp (I.stkSub b a) with e | a
 ·rw[e];exact I.free
 ·obtain⟨_,o,c,_⟩:=I.ok.funs.mem a
  exact I.base.free b o c (I.ok.frf b a) λ z=>I.ok.exfs b z a
def Inv.step{g':Array GenState}{t':Nat}{d':Drawn}{ch:List ay}(I:Inv X pins σ H s)
  (g:∀ b∈ch,(b∈X.ex\/X.s₀.heap.objs.size<=b)/\b≠X.env.locals/\(∀ x c,X.env.cells.lookup x=some c->c≠b)/\∀ p∈X.pn++pins,p.1≠b)
  (keep:∀ b o,b≠X.env.locals->b∉X.fs->b∉ch->s.heap.get? b=some o->H b=none->h'.get? b=some o)
  (h:∀ b o,b≠X.env.locals->b∈X.fs->b∉ch->s.heap.get? b=some o->H b=none->∃ sl,h'.get? b=some {o with slots:=sl}) (free:∀ b o,b∉ch->s.heap.get? b=some o->H b=none->H' b=none)
  (there:∀ b o,b∉ch->s.heap.get? b=some o->∃ o',h'.get? b=some o')
  (G:∀ b xs,H b=some (.tup xs)->H' b=some (.tup xs)) (D:∀ b o u,H b=some (.frz o u)->H' b=some (.frz o u)) (C:∀ b ps,H b=some (.tbl ps)->∃ more,H' b=some (.tbl (ps++more)))
  (Z:∀ m,s.heap.Ns X.env.locals m->h'.Ns X.env.locals m) (Q:HOk X.prog X.w H' h') (hg:CH g') :
  Inv X pins σ H' {s with heap:=h',gens:=g',drawn:=d',toks:=t'}:=by
 have M:∀ b o,X.s₀.heap.get? b=some o->b≠X.env.locals:=λ b o e=>df (dc (cn e) I.ok.above)
 have A:∀ b o,X.s₀.heap.get? b=some o->b∉X.ex->b∉ch:=λ b o e a J=>by
  rcases(g b J).1 with z | z
  ·exact a z
  ·exact absurd (dc (cn e) z) (qw _)
 have y:∀ x c,X.env.cells.lookup x=some c->∀ v,s.heap.IsCell c v->h'.IsCell c v:=λ x c e v ⟨o,L,S⟩=>by
  have f:c∉ch:=λ z=>(g c z).2.2.1 x c e rfl;by_cases T:c∈X.fs
  ·obtain⟨sl,q⟩:=h c o (I.cne x c e) T f L (I.freeC x c e)
   exact⟨_,q,S⟩
  ·exact⟨o,keep c o (I.cne x c e) T f L (I.freeC x c e),S⟩
 refine⟨I.ok,I.os,hg,⟨λ b o e n J a=>?_,λ b o e n J a=>?_,λ b o e n a=>?_,λ b o e a=>?_,λ b xs e=>G b xs (I.base.tups b xs e),λ b o xs e=>D b o xs (I.base.frzs b o xs e),λ b ps e=>?_⟩,?_,λ x c e=>?_,?_,λ x c e=>?_,λ p hp=>?_,Q,I.len⟩
 ·exact keep b o (M b o e) J (A b o e a) (I.base.keep b o e n J a) (I.base.free b o e n a)
 ·obtain⟨sl,B⟩:=I.base.slot b o e n J a
  obtain⟨O,N⟩:=h b _ (M b o e) J (A b o e a) B (I.base.free b o e n a);exact⟨O,N⟩
 ·obtain⟨o',B⟩:=I.base.there b o e a
  exact free b o' (A b o e a) B (I.base.free b o e n a)
 ·obtain⟨o',B⟩:=I.base.there b o e a
  exact there b o' (A b o e a) B
 ·obtain⟨m1,B⟩:=I.base.tbls b ps e
  obtain⟨m2,N⟩:=C b _ B;exact⟨m1++m2,by rw[N,Array.append_assoc]⟩
 ·obtain⟨m,hn,hl⟩:=I.loc
  refine⟨m,Z m hn,λ i x v B N Y=>?_⟩;obtain⟨u,r,l⟩:=hl i x v B N Y;refine⟨u,r,?_⟩;rcases l with l | ⟨k,c,e,z⟩
  ·exact .inl l
  ·exact .inr ⟨k,c,e,y x c e _ z⟩
 ·obtain⟨v,z⟩:=I.cell x c e
  exact⟨v,y x c e v z⟩
 ·obtain⟨m,⟨o,_,_,L,_⟩,_⟩:=I.loc
  exact free _ o (λ z=>(g _ z).2.1 rfl) L I.free
 ·obtain⟨v,o,L,S⟩:=I.cell x c e
  exact free c o (λ z=>(g c z).2.2.1 x c e rfl) L (I.freeC x c e)
 ·obtain⟨e,n,U,nf,d⟩:=I.pin p hp
  have f:p.1∉ch:=λ z=>(g p.1 z).2.2.2 p hp rfl;exact⟨keep p.1 p.2 U nf f e n,free p.1 p.2 f e n,U,nf,d⟩
def Inv.un{t':Nat}(I:Inv X pins σ H s)(u:Un X.fs [] H H' s.heap h')(f:HOk X.prog X.w H' h'):Inv X pins σ H' {s with heap:=h',toks:=t'}:=by
 obtain⟨m,⟨o,y,v,h,r⟩,_⟩:=id I.loc;obtain⟨x,p⟩:=u.any h I.free (by simp)
 exact I.step (g':=s.gens) (d':=s.drawn) (ch:=[]) (λ _ z=>nomatch z) (λ b o _ d _ e n=>u.keep b o e n d (by simp)) (λ b o _ d _ e n=>u.slot b o e n d (by simp)) (λ b o _ e n=>u.free b o e n (by simp)) (λ b o _ e=>u.there b o e (by simp)) u.tups u.frzs u.tbls (λ A i=>by
  obtain⟨q,c,g,a,l⟩:=i;rw[h]at a;cases a;exact⟨_,c,g,p,l⟩) f I.bare
def Inv.call{g':Array GenState}{t':Nat}{d':Drawn}{ch:List ay}(I:Inv X pins σ H s)(u:Un (frs X.stack) ch H H' s.heap h')(h:HOk X.prog X.w H' h')(B:CH g')
  (f:∀ b∈ch,(b∈X.ex\/X.s₀.heap.objs.size<=b)/\b≠X.env.locals/\(∀ x c,X.env.cells.lookup x=some c->c≠b)/\∀ p∈X.pn++pins,p.1≠b) :
  Inv X pins σ H' {s with heap:=h',gens:=g',drawn:=d',toks:=t'}:=by
 obtain⟨m,⟨o,J,D,q,r⟩,_⟩:=id I.loc;obtain⟨G,l⟩:=u.any q I.free λ z=>(f _ z).2.1 rfl
 exact I.step (ch:=ch) f (λ b o l v a e n=>u.keep b o e n (λ z=>(cy.mp (I.stkSub b z)).elim l v) a) (λ b o _ _ a e n=>u.any e n a) (λ b o a e n=>u.free b o e n a) (λ b o a e=>u.there b o e a) u.tups u.frzs u.tbls (λ L y=>by
  obtain⟨C,g,i,d,A⟩:=y;rw[q]at d;cases d;exact⟨_,g,i,l,A⟩) h B
def Inv.turned{t':Nat}{it:ay}(I:Inv X pins σ H s)(k:∀ b o,b≠it->s.heap.get? b=some o->h'.get? b=some o)(h:H it=none)(f:it≠X.env.locals)
  (h1:it∈X.ex\/X.s₀.heap.objs.size<=it) (B:∀ x c,X.env.cells.lookup x=some c->c≠it) (A:∀ p∈X.pn++pins,p.1≠it):Inv X pins σ H {s with heap:=h',toks:=t'}:=by
 have d:∀ b u,H b=some u->b≠it:=λ b u e z=>by rw[z,h]at e;cases e
 refine I.step (g':=s.gens) (d':=s.drawn) (ch:=[it]) (λ b C=>?_) (λ b o _ _ a e _=>k b o (λ z=>a (by simp[z])) e) (λ b o _ _ a e _=>⟨o.slots,k b o (λ z=>a (by simp[z])) e⟩) (λ _ _ _ _ n=>n)
  (λ b o a e=>⟨o,k b o (λ z=>a (by simp[z])) e⟩) (λ _ _ e=>e) (λ _ _ _ e=>e) (λ b D e=>⟨#[],by rw[e];simp⟩) (λ m g=>?_) (λ b u e=>?_) I.bare
 ·have e:b=it:=by simpa using C
  subst e;exact⟨h1,f,B,A⟩
 ·obtain⟨o,i,y,l,r⟩:=g
  exact⟨o,i,y,k _ o (qe f) l,r⟩
 ·refine(I.hok b u e).stay (λ c v a q=>k c v ?_ q) (λ _ q=>q) λ _ _ q=>q
  rcases a with z | z
  ·rw[z];exact d b u e
  ·exact d c _ z
def Inv.tok(I:Inv X pins σ H s)(t:Nat):Inv X pins σ H {s with toks:=t}:=I.un (h':=s.heap) (t':=t) Un.refl I.hok
theorem Inv.kept{t':Nat}(I:Inv X pins σ H s)(k:∀ b u,s.heap.get? b=some u->h'.get? b=some u):Inv X pins σ H {s with heap:=h',toks:=t'}:=I.un (Un.kept k) (I.hok.kept k)
theorem Inv.laid{a:ay}{o:HO}{t':Nat}(I:Inv X pins σ H s)(k:∀ b u,s.heap.get? b=some u->h'.get? b=some u)(hp:s.heap.objs.size<=a)(new:ObjOk X.prog X.w (upd H a o) h' a o) :
  Inv X pins σ (upd H a o) {s with heap:=h',toks:=t'}:=I.un (Un.laid k hp (I.hok.fresh hp)) (I.hok.laid k hp new)
theorem Inv.write{x e:ay}{o:HO}{t':Nat}(I:Inv X pins σ H s)(d:Mut (H x))(c:e=x\/H e=some (.own x))(k:∀ b u,b≠e->s.heap.get? b=some u->h'.get? b=some u)(a:∃ u,h'.get? e=some u)
  (new:ObjOk X.prog X.w (upd H x o) h' x o):Inv X pins σ (upd H x o) {s with heap:=h',toks:=t'}:=I.un (Un.write d c k a) (I.hok.write d c k a new)
def Inv.pins_of{a:List (ay×Obj)}(I:Inv X pins σ H s)(h:∀ p∈a,s.heap.get? p.1=some p.2/\H p.1=none/\p.1≠X.env.locals/\p.1∉X.fs/\∀ v,p.2.data≠.cell v):Inv X a σ H s :=
 ⟨I.ok,I.os,I.bare,I.base,I.loc,I.cell,I.free,I.freeC,λ p hp=>(bu.mp hp).elim (λ z=>I.pin p (cj _ z)) (h p),I.hok,I.len⟩
def kBF{N:List Str}(c:N.Nodup){i j:Nat}{x:Str}(a:N[i]?=some x)(b:N[j]?=some x):i=j:=by
 obtain⟨h1,f⟩:=au.mp a;obtain⟨g,d⟩:=au.mp b;exact(xf c).mp (f.trans d.symm)
def nV{M:yy}{A:fb}{E:ao->av->Prop}{i:Nat}{x:Str}{v:V}{u:ao}{Q:Unit->av->Prop}(I:Inv X pins σ H s)(hN:X.N.Nodup)(hi:X.N[i]?=some x)(C:Loc X.env.scope x)(r:RelV v u)
  (h:∀ s',Inv X pins (σ.set i (some v)) H s'->(∃ a,jx a s.heap s'.heap/\(a=X.env.locals\/X.env.cells.lookup x=some a))->Q () s') (hf:X.fn x=true\/X.env.scope.names.lookup x=some .local:=by first | exact .inl rfl | exact .inr rfl | assumption):cx M A (storeName X.env x u) Q E s:=by
 obtain⟨m,hn,hl⟩:=id I.loc;have a2:(X.env.scope.kind == .class || (X.env.scope.kind == .module && X.env.locals != X.env.globals))=false:=by rw[I.ok.kind];rfl
 have J:i<σ.length:=by rw[I.len];exact(au.mp hi).1
 have cne:=I.cne
 have g:∀{a:ay}{U:iD},(∃ o,s.heap.get? a=some o/\H a=none)->jx a s.heap U->HOk X.prog X.w H U:=λ{a U} ha f b ob e=>by
  obtain⟨_,_,D⟩:=ha;refine(I.hok b ob e).stay (λ c w' B q=>(f.2 c ?_).trans q) (λ _ q=>q) λ _ _ q=>q;rintro rfl;rcases B with rfl | B
  ·rw[D]at e;cases e
  ·rw[D]at B;cases B
 rcases C with L | L
 ·refine wpAny_storeName_local L hn (λ U a4 f=>?_) a2
  obtain⟨oL,_,_,a3,_⟩:=id hn;refine h _ ⟨I.ok,I.os,I.bare,⟨λ b o e n S C=>?_,λ b o e n S C=>?_,I.base.free,λ b o e C=>?_,I.base.tups,I.base.frzs,I.base.tbls⟩,⟨_,a4,λ j y v' l G e3=>?_⟩,λ y c e=>?_,I.free,I.freeC,λ p hp=>?_,g ⟨oL,a3,I.free⟩ f,by simpa using I.len⟩ ⟨_,f,.inl rfl⟩
  ·exact(f.2 b (df (dc (cn e) I.ok.above))).trans (I.base.keep b o e n S C)
  ·obtain⟨sl,l⟩:=I.base.slot b o e n S C
   exact⟨sl,(f.2 b (df (dc (cn e) I.ok.above))).trans l⟩
  ·obtain⟨o',l⟩:=I.base.there b o e C
   exact⟨o',(f.2 b (df (dc (cn e) I.ok.above))).trans l⟩
  ·by_cases O:j=i
   ·subst O
    rw[hi]at l;cases l;rw[jm J]at G;cases G
    exact⟨u,r,.inl ⟨L,by simp⟩⟩
   ·rw[eW (qe O)]at G
    obtain⟨u',r',q⟩:=hl j y v' l G e3;refine⟨u',r',?_⟩;rcases q with⟨k,e⟩ | ⟨k,c,e,z⟩
    ·refine .inl ⟨k,?_⟩
     have:y≠x:=λ e=>O (kBF hN l (e ▸ hi));simp[this,e]
    ·exact .inr ⟨k,c,e,z.sameBut f (cne y c e)⟩
  ·obtain⟨w',z⟩:=I.cell y c e
   exact⟨w',z.sameBut f (cne y c e)⟩
  ·obtain⟨e,n,ne,nf,d⟩:=I.pin p hp
   exact⟨(f.2 p.1 ne).trans e,n,ne,nf,d⟩
 ·have T:X.fn x=true:=by
   rcases hf with z | z
   ·exact z
   ·rw[z]at L;cases L
  obtain⟨c,B⟩:=I.ok.has x (.inl L);obtain⟨w',z⟩:=I.cell x c B;refine wpAny_storeName_cell I.ok.kind L B z (λ U Y f=>?_);obtain⟨oc,a0,a1⟩:=id z;refine h {s with heap:=U} ⟨I.ok,I.os,I.bare,⟨λ b o e n S C=>?_,λ b o e n S C=>?_,I.base.free,λ b o e C=>?_,I.base.tups,I.base.frzs,I.base.tbls⟩,⟨m,hn.sameBut f (qe (cne x c B)),λ j y v' l G e3=>?_⟩,λ y c' e=>?_,I.free,I.freeC,λ p hp=>?_,g ⟨oc,a0,I.freeC x c B⟩ f,by simpa using I.len⟩ ⟨c,f,.inr B⟩
  ·exact(f.2 b (df (dc (cn e) (I.ok.cab x c T B)))).trans (I.base.keep b o e n S C)
  ·obtain⟨sl,l⟩:=I.base.slot b o e n S C
   exact⟨sl,(f.2 b (df (dc (cn e) (I.ok.cab x c T B)))).trans l⟩
  ·obtain⟨o',l⟩:=I.base.there b o e C
   exact⟨o',(f.2 b (df (dc (cn e) (I.ok.cab x c T B)))).trans l⟩
  ·by_cases O:j=i
   ·subst O
    rw[hi]at l;cases l;rw[jm J]at G;cases G
    exact⟨u,r,.inr ⟨.inl L,c,B,Y⟩⟩
   ·rw[eW (qe O)]at G
    obtain⟨u',r',q⟩:=hl j y v' l G e3;refine⟨u',r',?_⟩;rcases q with q | ⟨k,c',e,z'⟩
    ·exact .inl q
    ·refine .inr ⟨k,c',e,z'.sameBut f ?_⟩
     rintro rfl;exact O (kBF hN l (I.ok.inj _ _ _ e B ▸ hi))
  ·by_cases Z:c'=c
   ·subst Z;exact⟨_,Y⟩
   ·obtain⟨w2,z2⟩:=I.cell y c' e
    exact⟨w2,z2.sameBut f Z⟩
  ·obtain⟨e,n,ne,nf,d⟩:=I.pin p hp
   refine⟨(f.2 p.1 ?_).trans e,n,ne,nf,d⟩;intro q;rw[q,a0]at e;have q':oc=p.2:=cc e;exact d w' (by rw[<-q'];exact a1)
def tP{M:yy}{A:fb}{E:ao->av->Prop}{i:Nat}{x:Str}{v:V}{u:ao}{Q:Unit->av->Prop}(I:Inv X pins σ H s)(a:X.N.Nodup)(hi:X.N[i]?=some x)(c:Loc X.env.scope x)(r:RelV v u)
  (h:∀ s',Inv X pins (σ.set i (some v)) H s'->Q () s') (b:X.fn x=true\/X.env.scope.names.lookup x=some .local:=by first | exact .inl rfl | exact .inr rfl | assumption):cx M A (storeName X.env x u) Q E s :=
 nV I a hi c r (λ s' d _=>h s' d) b
def Inv.call'{a:av}{ch:List ay}(I:Inv X pins σ H s)(l:a.os=s.os)(u:Un (frs X.stack) ch H H' s.heap a.heap)(d:HOk X.prog X.w H' a.heap)(m:CH a.gens)
  (f:∀ b∈ch,(b∈X.ex\/X.s₀.heap.objs.size<=b)/\b≠X.env.locals/\(∀ x c,X.env.cells.lookup x=some c->c≠b)/\∀ p∈X.pn++pins,p.1≠b):Inv X pins σ H' a:=by
 obtain⟨o,h,i,g,n⟩:=a;have e:n=s.os:=l;subst e;exact I.call (g':=h) (t':=g) (d':=i) u d m f
end
abbrev XK:=ao->Option ay->Hp->Prop
abbrev St:=List (Option V)
abbrev VK:=V->Hp->Prop
abbrev TE:=St->Hp->VK->Prop
abbrev TT:=St->Hp->(Bool->Hp->Prop)->Prop
abbrev TA:=St->Hp->(List V->Hp->Prop)->Prop
structure Ends where
 nx:St->Hp->Prop
 rt:VK
 bk:St->Hp->Prop:=λ _ _=>False
 ct:St->Hp->Prop:=λ _ _=>False
abbrev TS:=Ends->St->Hp->Prop
def EP(X:Cx)(a:List (ay×Obj))(c:St)(Q:VK)(u:ao)(d:av):Prop:=∃ v b,Inv X a c b d/\RelV v u/\Q v b
def TP(X:Cx)(a:List (ay×Obj))(d:St)(Q:Bool->Hp->Prop)(b:Bool)(f:av):Prop:=∃ c,Inv X a d c f/\Q b c
def AP(X:Cx)(a:List (ay×Obj))(f:St)(Q:List V->Hp->Prop)(d:List ao)(g:av):Prop:=∃ b c,Inv X a f c g/\Vals b d/\Q b c
def SP(X:Cx)(b:List (ay×Obj))(D:Ends)(f:Flow)(d:av):Prop :=
 match f with
 | .next=>∃ a c,Inv X b a c d/\D.nx a c
 | .brk=>∃ a c,Inv X b a c d/\D.bk a c
 | .cont=>∃ a c,Inv X b a c d/\D.ct a c
 | .ret u=>∃ v a c,Inv X b a c d/\RelV v u/\D.rt v c
def PE(X:Cx)(e:iC)(t:TE):Prop :=
 ∀(pins:List (ay×Obj))(s:av)(σ:St)(H:Hp)(Q:VK),Inv X pins σ H s->t σ H Q->cx (model X.prog X.w) X.A (eval e X.env) (EP X pins σ Q) X.xe s
def PT(X:Cx)(e:iC)(t:TT):Prop :=
 ∀(pins:List (ay×Obj))(s:av)(σ:St)(H:Hp)(Q:Bool->Hp->Prop),Inv X pins σ H s->t σ H Q->cx (model X.prog X.w) X.A (isTrue e X.env (eval e X.env)) (TP X pins σ Q) X.xe s
def PW(X:Cx)(e:iC)(t:TT):Prop :=
 ∀(vF:Sem ao)(pins:List (ay×Obj))(s:av)(σ:St)(H:Hp)(Q:Bool->Hp->Prop),Inv X pins σ H s->t σ H Q->cx (model X.prog X.w) X.A (isTrue e X.env vF) (TP X pins σ Q) X.xe s
def PW.pt{X:Cx}{e:iC}{t:TT}(h:PW X e t):PT X e t:=h _
def PA(X:Cx)(b:List iC)(t:TA):Prop :=
 ∀(a:Pos)(pins:List (ay×Obj))(s:av)(σ:St)(H:Hp)(Q:List V->Hp->Prop),Inv X pins σ H s->t σ H Q->cx (model X.prog X.w) X.A (spliced (backTo a (starEach b X.env))) (AP X pins σ Q) X.xe s
def PS(X:Cx)(st:lh)(t:TS):Prop :=
 ∀(pins:List (ay×Obj))(s:av)(σ:St)(H:Hp)(D:Ends),Inv X pins σ H s->t D σ H->cx (model X.prog X.w) X.A (exec st X.env) (SP X pins D) X.xe s
def PSs(X:Cx)(st:List lh)(t:TS):Prop :=
 ∀(pins:List (ay×Obj))(s:av)(σ:St)(H:Hp)(D:Ends),Inv X pins σ H s->t D σ H->cx (model X.prog X.w) X.A (execs st X.env) (SP X pins D) X.xe s
def thn{α:Type}{t:Sem α}{Q b:α->av->Prop}{M:yy}{A:fb}{E:ao->av->Prop}{s:av}(h:cx M A t Q E s)(c:∀ a s,Q a s->b a s):cx M A t b E s:=xj h c λ _ _ x=>x
section
variable {X:Cx}
inductive vQ(i:Nat)(σ:St)(H:Hp)(Q:VK):Prop
 | mk:∀ v,(σ[i]?=some (some v))->(Q v H)->vQ i σ H Q
def tC(v:V):TE:=λ _ H Q=>Q v H
def kSI{i:Nat}{x:Str}{n:Pos}(C:X.N[i]?=some x)(B:Vis X.env.scope x)(o:(x == ("__debug__" : Str))=false:=by decide)(g:(x == ("__classdict__" : Str))=false:=by decide):PE X (.Name x n) (vQ i):=by
 intro f s y H Q I h;obtain⟨v,e,h⟩:=h;obtain⟨m,D,A⟩:=I.loc;obtain⟨u,r,l⟩:=A i x v C e B;have b:EP X f y Q u s:=⟨v,H,I,r,h⟩;rcases l with⟨d,q⟩ | ⟨d,c,p,a⟩
 ·exact Fb (wpAny_loadName_local I.ok.kind d D q b) o
 ·rcases d with d | d
  ·exact Fb (wpAny_loadName_cell I.ok.kind d p a b) o
  ·exact Fb (wpAny_loadName_free I.ok.kind d p a b g) o
def kN {i j pos}:PE X (.Constant (.int i) j pos) (tC (.int i)):=λ _ _ _ H _ I h=>wpAny_Constant_int ⟨.int i,H,I.tok _,⟨_,rfl⟩,h⟩
def vJ {b j pos}:PE X (.Constant (.bool b) j pos) (tC (.bl b)):=λ _ _ _ H _ I h=>Constant_bool ⟨.bl b,H,I,rfl,h⟩
def wT {j pos}:PE X (.Constant .none j pos) (tC .non):=λ _ _ _ H _ I h=>Constant_none ⟨.non,H,I,rfl,h⟩
def Gl(X:Cx)(x:Str):Prop:=X.env.kindOf x=some .globalImplicit
def kGO{E:ao->av->Prop}{a:List (ay×Obj)}{s:av}{f:St}{H:Hp}{x:Str}{u:ao}{b:Pos}{Q:ao->av->Prop}(I:Inv X a f H s)(d:Gl X x)(c:X.mg x=some u)(h:Q u s)
  (g:(x == ("__debug__" : Str))=false:=by decide):cx (model X.prog X.w) X.A (eval (.Name x b) X.env) Q E s :=
 Be I.ok.kind d (Calls.loadGlobal_global (by rw[I.ok.glob];exact I.mod.glob.keeps I.bk) c h) g
def yB{E:ao->av->Prop}{a:List (ay×Obj)}{s:av}{f:St}{H:Hp}{x:Str}{u:ao}{b:Pos}{Q:ao->av->Prop}(I:Inv X a f H s)(d:Gl X x)(c:X.mg x=none)(g:bootBuiltins x=some u)(h:Q u s)
  (m:x≠"__name__":=by decide) (l:(x == ("__debug__" : Str))=false:=by decide):cx (model X.prog X.w) X.A (eval (.Name x b) X.env) Q E s:=by
 obtain⟨n,h1,i⟩:=I.mod.blt;exact Be I.ok.kind d (Calls.loadGlobal_builtin (by rw[I.ok.glob];exact I.mod.glob.keeps I.bk) c (by rw[I.ok.blt];exact h1.keeps I.bk) ((i x m).trans g) h) l
def kGE{x:Str}{v:V}{u:ao}{a:Pos}(c:Gl X x)(b:X.mg x=some u)(r:RelV v u)(d:(x == ("__debug__" : Str))=false:=by decide):PE X (.Name x a) (tC v) :=
 λ _ _ _ H _ I h=>kGO I c b ⟨v,H,I,r,h⟩ d
def fJ{x:Str}{v:V}{u:ao}{a:Pos}(c:Gl X x)(b:X.mg x=none)(d:bootBuiltins x=some u)(r:RelV v u)(g:x≠"__name__":=by decide)(f:(x == ("__debug__" : Str))=false:=by decide):PE X (.Name x a) (tC v) :=
 λ _ _ _ H _ I h=>yB I c b d ⟨v,H,I,r,h⟩ g f
variable {a b:iC} {ta tb:TE} {pos:Pos}
def PC(X:Cx)(f:Gq)(a b:iC)(t:TE):Prop :=
 ∀(pins:List (ay×Obj))(s:av)(σ:St)(H:Hp)(Q:VK),Inv X pins σ H s->t σ H Q ->
  cx (model X.prog X.w) X.A (eval a X.env) (λ v d=>cx (model X.prog X.w) X.A (eval b X.env) (λ u c=>cx (model X.prog X.w) X.A (compareOp f v u) (EP X pins σ Q) X.xe c) X.xe d) X.xe s
inductive tBY(Q:Bool->Hp->Prop)(x:V)(H1:Hp):Prop
 | mk:∀ c,(x=.bl c)->(Q c H1)->tBY Q x H1
def tB(t:TE):TT:=λ b H Q=>t b H λ x a=>tBY Q x a
def kSL{d:Gq}{t:TE}(h:PC X d a b t)(h1:behindInMarks d b=false:=by first | exact nobehind _ (by decide) (by decide) | rfl):PE X (.Compare a [d] [b] pos) t:=λ c s g H Q I f=>Fd (h c s g H Q I f) h1
def kDJ{g:Gq}{t:TE}(h:PC X g a b t)(h1:behindInMarks g b=false:=by first | exact nobehind _ (by decide) (by decide) | rfl):PT X (.Compare a [g] [b] pos) (tB t):=by
 intro f s p H Q I n;refine DQ (thn (h f s p H _ I n) λ v y h1=>thn h1 λ u B m=>thn m λ c A ⟨x,l,r,i,o⟩=>?_) h1;obtain⟨d,rfl,q⟩:=o;cases i
 exact kq ⟨l,r,q⟩
def zJ{e:iC}{t:TE}(h:PE X e t)(m:∀ vF,isTrue e X.env vF=(do let v <-vF;standAt e.pos;holding [v] (truthy v)):=by intro _;rfl):PT X e (tB t):=by
 intro a s i H Q I b;refine isTrue_plain (thn (h a s i H _ I b) λ v n ⟨x,g,c,f,l⟩=>?_) (m _);obtain⟨d,rfl,q⟩:=l;cases f
 exact kq ⟨g,c,q⟩
variable {tA tB':TT} {rest:List iC}
def kWC(t u:TT):TT:=λ b H Q=>t b H λ c a=>if c=true then u b a Q else Q false a
def tOr(t u:TT):TT:=λ b H Q=>t b H λ c a=>if c=true then Q true a else u b a Q
def kVX(t:TT):TT:=λ b H Q=>t b H λ c a=>Q (!c) a
def kPB(d:PT X a tA):PW X (.BoolOp .And [a] pos) tA:=by
 intro g b s f H Q I h;refine isTrue_and (thn (d b s f H Q I h) λ c i e=>?_)
 cases c with
 | true=>exact isTrue_and_nil e
 | false=>exact e
def rR(d:PT X a tA):PW X (.BoolOp .Or [a] pos) tA:=by
 intro g b s f H Q I h;refine isTrue_or (thn (d b s f H Q I h) λ c i e=>?_)
 cases c with
 | false=>exact isTrue_or_nil e
 | true=>exact e
def kSD(m:PT X a tA)(p:PW X (.BoolOp .And (b::rest) pos) tB'):PW X (.BoolOp .And (a::b::rest) pos) (kWC tA tB'):=by
 intro n d s i H Q I h;refine isTrue_and (thn (m d s i H _ I h) λ c o ⟨g,f,l⟩=>?_)
 cases c with
 | true=>exact p n d o i g Q f l
 | false=>exact⟨g,f,l⟩
def kGA(m:PT X a tA)(p:PW X (.BoolOp .Or (b::rest) pos) tB'):PW X (.BoolOp .Or (a::b::rest) pos) (tOr tA tB'):=by
 intro n d s i H Q I h;refine isTrue_or (thn (m d s i H _ I h) λ c o ⟨g,f,l⟩=>?_)
 cases c with
 | true=>exact⟨g,f,l⟩
 | false=>exact p n d o i g Q f l
def zZ(d:PT X a tA):PT X (.UnaryOp .Not a pos) (kVX tA):=by
 intro b s g H Q I h;exact isTrue_not (d b s g H (λ c f=>Q (!c) f) I h)
inductive kKX(tb:TE)(σ:St)(Q:VK)(x:V)(H1:Hp):Prop
 | mk:∀ c,(x=.bl c)->(if c=true then tb σ H1 Q else Q (.bl false) H1)->kKX tb σ Q x H1
def kKY(c d:TE):TE:=λ a H Q=>c a H λ x b=>kKX d a Q x b
inductive kKU(tb:TE)(σ:St)(Q:VK)(x:V)(H1:Hp):Prop
 | mk:∀ c,(x=.bl c)->(if c=true then Q (.bl true) H1 else tb σ H1 Q)->kKU tb σ Q x H1
def kVW(c d:TE):TE:=λ a H Q=>c a H λ x b=>kKU d a Q x b
inductive kKV(Q:VK)(x:V)(H1:Hp):Prop
 | mk:∀ c,(x=.bl c)->(Q (.bl (!c)) H1)->kKV Q x H1
def kUC(c:TE):TE:=λ b H Q=>c b H λ x a=>kKV Q x a
def aD {op} {t:TE} (h:PE X a t):PE X (.BoolOp op [a] pos) t:=λ b s d H Q I c=>BoolOp_one (h b s d H Q I c)
def vY(m:PE X a ta)(p:PE X (.BoolOp .And (b::rest) pos) tb):PE X (.BoolOp .And (a::b::rest) pos) (kKY ta tb):=by
 intro d s l H Q I h;refine BoolOp_and (thn (m d s l H _ I h) λ v o ⟨x,i,g,n,f⟩=>?_);obtain⟨c,rfl,f⟩:=f;cases n
 refine kq ?_
 cases c with
 | true=>exact p d o l i Q g f
 | false=>exact⟨.bl false,i,g,rfl,f⟩
def kQZ(m:PE X a ta)(p:PE X (.BoolOp .Or (b::rest) pos) tb):PE X (.BoolOp .Or (a::b::rest) pos) (kVW ta tb):=by
 intro d s l H Q I h;refine BoolOp_or (thn (m d s l H _ I h) λ v o ⟨x,i,g,n,f⟩=>?_);obtain⟨c,rfl,f⟩:=f;cases n
 refine kq ?_
 cases c with
 | false=>exact p d o l i Q g f
 | true=>exact⟨.bl true,i,g,rfl,f⟩
def kSK(f:PE X a ta):PE X (.UnaryOp .Not a pos) (kUC ta):=by
 intro b s m H Q I h;refine UnaryOp_ (thn (f b s m H _ I h) λ v n ⟨x,l,i,g,d⟩=>?_);obtain⟨c,rfl,d⟩:=d;cases g
 exact not_of (kq ⟨.bl (!c),l,i,rfl,d⟩)
def tIf(t:TT)(d f:TE):TE:=λ a H Q=>t a H λ c b=>if c=true then d a b Q else f a b Q
def gX{c:iC}(p:PT X c tA)(o:PE X a ta)(q:PE X b tb):PE X (.IfExp c a b pos) (tIf tA ta tb):=by
 intro f s g H Q I h;refine wpAny_IfExp (thn (p f s g H _ I h) λ d m ⟨l,i,n⟩=>?_)
 cases d with
 | true=>exact o f m g l Q i n
 | false=>exact q f m g l Q i n
end
def SqL(K:bb)(H:Hp)(a:ay)(xs:List V):Prop :=
 Rd H a (.lst xs) \/
  ∃(o:Obj)(b:Array ao)(n:Nat),K.lookup a=some o/\o.cls=.type "list"/\o.dict=none/\o.data=.seq b n/\b.size<=sizeLine/\Vals xs b.toList
def SqT(K:bb)(H:Hp)(a:ay)(xs:List V):Prop :=
 Rd H a (.tup xs) \/
  ∃(o:Obj)(b:Array ao)(n:Nat),K.lookup a=some o/\o.cls=.type "tuple"/\o.data=.seq b n/\b.size<=sizeLine/\Vals xs b.toList
def kOH:ao->Option V
 | .none=>some .non
 | .bool b=>some (.bl b)
 | .int i _=>some (.int i)
 | .str x _=>some (.str x)
 | .bytes b _=>some (.byt b)
 | .float b _=>some (.flt b)
 | .ref a=>some (.ref a)
 | .type n=>some (.ty n)
 | _=>none
def RelV.abs{x:V}{u:ao}(r:RelV x u):kOH u=some x:=by
 cases x with
 | non=>cases r;rfl
 | bl _=>cases r;rfl
 | int _=>obtain⟨t,rfl⟩:=r;rfl
 | str _=>obtain⟨t,rfl⟩:=r;rfl
 | byt _=>obtain⟨t,rfl⟩:=r;rfl
 | flt _=>obtain⟨t,rfl⟩:=r;rfl
 | ref _=>cases r;rfl
 | ty _=>cases r;rfl
def RelV.inj{x y:V}{u:ao}(r:RelV x u)(q:RelV y u):x=y:=cc (r.abs.symm.trans q.abs)
theorem Vals.inj:∀{xs ys:List V}{a:List ao},Vals xs a->Vals ys a->xs=ys
 | _,_,_,.nil,.nil=>rfl
 | _,_,_,.cons r t,.cons r' t'=>by rw[r.inj r',Vals.inj t t']
section
variable {X:Cx} {pins:List (ay×Obj)} {σ:St} {H:Hp} {s:av} {a:ay} {xs ys:List V}
def SqL.of{K:bb}(h:H a=some (.lst xs)):SqL K H a xs:=.inl (.inl h)
def SqT.of{K:bb}(h:H a=some (.tup xs)):SqT K H a xs:=.inl (.inl h)
def Inv.list(I:Inv X pins σ H s)(h:SqL X.K H a xs):∃ its:List ao,Vals xs its/\PlainL s.heap a its.toArray/\xs.length<=sizeLine:=by
 rcases h with h | ⟨o,its,n,d,c,f,b,g,r⟩
 ·obtain⟨z,its,n,r,e⟩:=h.ok I.hok
  exact⟨its,r,⟨_,n,e,rfl,rfl,rfl⟩,z⟩
 ·refine⟨its.toList,r,⟨o,n,I.kIn a o d,c,f,by simpa using b⟩,?_⟩
  have e:=r.length;simp only[fw]at e;omega
def Inv.tuple(I:Inv X pins σ H s)(h:SqT X.K H a xs):∃ its:List ao,Vals xs its/\FZ s.heap a its.toArray/\xs.length<=sizeLine:=by
 rcases h with h | ⟨o,its,n,d,c,b,f,r⟩
 ·obtain⟨z,its,r,p⟩:=h.ok I.hok
  exact⟨its,r,p.isTup,z⟩
 ·refine⟨its.toList,r,⟨o,I.kIn a o d,c,n,by simpa using b⟩,?_⟩
  have e:=r.length;simp only[fw]at e;omega
def Inv.list_inj(I:Inv X pins σ H s)(h:SqL X.K H a xs)(h':SqL X.K H a ys):xs=ys:=by
 obtain⟨c,r,⟨o,n,e,_,_,d⟩,_⟩:=I.list h;obtain⟨b,i,⟨m,l,f,_,_,g⟩,_⟩:=I.list h';rw[e]at f;cases f;rw[d]at g;injection g with d1 _
 have:c=b:=by simpa using congrArg Gx d1
 subst this;exact r.inj i
def Inv.tuple_inj(I:Inv X pins σ H s)(h:SqT X.K H a xs)(h':SqT X.K H a ys):xs=ys:=by
 obtain⟨c,r,⟨o,e,_,n,d⟩,_⟩:=I.tuple h;obtain⟨b,i,⟨m,f,_,l,g⟩,_⟩:=I.tuple h';rw[e]at f;cases f;rw[d]at g;injection g with d1 _
 have:c=b:=by simpa using congrArg Gx d1
 subst this;exact r.inj i
end
abbrev Cx.wish(X:Cx)(E:ao->av->Prop):Cx:={X with xe:=E}
abbrev Cx.nox(X:Cx):Cx:=X.wish λ _ _=>False
theorem Cx.Ok.wish{X:Cx}(ok:X.Ok)(E:ao->av->Prop):(X.wish E).Ok :=
 ⟨ok.mod,ok.kind,ok.glob,ok.blt,ok.above,ok.inj,ok.has,ok.cab,ok.hd,ok.frames,ok.stk,ok.exf,ok.bs,ok.bsz,ok.noex,ok.exfs,ok.funs,ok.frf⟩
def Cx.Ok.unwish{X:Cx}{E:ao->av->Prop}(ok:(X.wish E).Ok):X.Ok :=
 ⟨ok.mod,ok.kind,ok.glob,ok.blt,ok.above,ok.inj,ok.has,ok.cab,ok.hd,ok.frames,ok.stk,ok.exf,ok.bs,ok.bsz,ok.noex,ok.exfs,ok.funs,ok.frf⟩
section
variable {X:Cx} {pins:List (ay×Obj)} {σ:St} {H:Hp} {s:av} {E:ao->av->Prop}
theorem Inv.wish(I:Inv X pins σ H s)(E:ao->av->Prop):Inv (X.wish E) pins σ H s:=⟨I.ok.wish E,I.os,I.bare,I.base,I.loc,I.cell,I.free,I.freeC,I.pin,I.hok,I.len⟩
theorem Inv.unwish(I:Inv (X.wish E) pins σ H s):Inv X pins σ H s:=⟨I.ok.unwish,I.os,I.bare,I.base,I.loc,I.cell,I.free,I.freeC,I.pin,I.hok,I.len⟩
theorem SP.unwish{D:Ends}{f:Flow}{c:av}(h:SP (X.wish E) pins D f c):SP X pins D f c:=by
 cases f with
 | next=>obtain⟨a,b,I,q⟩:=h;exact⟨a,b,I.unwish,q⟩
 | brk=>obtain⟨a,b,I,q⟩:=h;exact⟨a,b,I.unwish,q⟩
 | cont=>obtain⟨a,b,I,q⟩:=h;exact⟨a,b,I.unwish,q⟩
 | ret u=>obtain⟨v,a,b,I,r,q⟩:=h;exact⟨v,a,b,I.unwish,r,q⟩
theorem PSs.nox{st:List lh}{t:TS}(h:PSs X.nox st t):PSs X st t:=λ a s c H D I b =>
 xj (h a s c H D (I.wish _) b) (λ _ _ q=>q.unwish) λ _ _ z=>xk z
end
section
variable {X:Cx} {st:lh} {rest:List lh} {t u:TS} {e:iC} {te:TE} {pos:Pos}
def kUD:TS:=λ D a H=>D.nx a H
def kVT(t u:TS):TS:=λ D a H=>t {D with nx:=u D} a H
def qM:PSs X [] kUD:=λ _ _ a H _ I h=>BK ⟨a,H,I,h⟩
def kD(h1:PS X st t)(l:PSs X rest u):PSs X (st::rest) (kVT t u):=by
 intro a s d H D I h;refine Et (thn (h1 a s d H {D with nx:=u D} I h) λ f c q=>?_)
 cases f with
 | next =>
  obtain⟨b,i,g,q⟩:=q;exact l a c b i D g q
 | ret v=>exact q
 | brk=>exact q
 | cont=>exact q
def kJ(h1:PS X st t):PSs X [st] t:=by
 intro a s b H D I h;refine Et (thn (h1 a s b H D I h) λ f c q=>?_)
 cases f with
 | next=>exact BK q
 | ret v=>exact q
 | brk=>exact q
 | cont=>exact q
def Inv.quiet{a:List (ay×Obj)}{b:St}{H:Hp}{s:av}(I:Inv X a b H s):interactive X.env=false:=by simp[interactive,I.ok.kind]
def kUF(c:TE):TS:=λ D a H=>c a H λ _ b=>D.nx a b
def qK(i:PE X e te)(c:swapsWith e none pos.line X.env=pure false:=by rfl):PS X (.Expr e pos) (kUF te):=by
 intro a s b H D I h;exact wpAny_Expr_any (thn (i a s b H _ I h) λ v m ⟨x,f,d,l,g⟩=>⟨b,f,d,g⟩) I.quiet c
def kUA(b:TE):TS:=λ D a H=>b a H D.rt
def kS(i:PE X e te):PS X (.Return (some e) pos) (kUA te):=by
 intro a s b H D I h;exact wpAny_Return_some (thn (i a s b H _ I h) λ v l ⟨x,f,c,d,g⟩=>⟨x,b,f,c,d,g⟩)
def kVZ(c:TT)(t u:TS):TS:=λ D a H=>c a H λ b d=>if b=true then t D a d else u D a d
def xH{c:iC}{a b:List lh}{l:TT}(p:PT X c l)(q:PSs X a t)(r:PSs X b u):PS X (.If c a b pos) (kVZ l t u):=by
 intro f s g H D I h;refine wpAny_If (thn (p f s g H _ I h) λ d n ⟨m,i,o⟩=>?_)
 cases d with
 | true=>exact q f n g m D i o
 | false=>exact r f n g m D i o
end
abbrev TG:=V->St->Hp->(St->Hp->Prop)->Prop
abbrev TGs:=List V->St->Hp->(St->Hp->Prop)->Prop
def PG(X:Cx)(a:iC)(t:TG):Prop :=
 ∀(pins:List (ay×Obj))(s:av)(σ:St)(H:Hp)(v:V)(u:ao)(Q:St->Hp->Prop),Inv X pins σ H s->RelV v u->t v σ H Q ->
  cx (model X.prog X.w) X.A (assign a X.env u) (λ _ d=>∃ b c,Inv X pins b c d/\Q b c) X.xe s
def PGs(X:Cx)(c:List iC)(t:TGs):Prop :=
 ∀(pins:List (ay×Obj))(s:av)(σ:St)(H:Hp)(vs:List V)(us:List ao)(Q:St->Hp->Prop),Inv X pins σ H s->Vals vs us->t vs σ H Q ->
  cx (model X.prog X.w) X.A (assignInOrder ((assignEach c X.env).map (·.2)) us) (λ _ d=>∃ a b,Inv X pins a b d/\Q a b) X.xe s
abbrev kTV:=V->V->V->Hp->(Hp->Prop)->Prop
def kVP(X:Cx)(t:kTV):Prop :=
 ∀(pins:List (ay×Obj))(s:av)(σ:St)(H:Hp)(o i v:V)(ov iv u:ao)(Q:Hp->Prop),Inv X pins σ H s->RelV o ov->RelV i iv->RelV v u->t o i v H Q ->
  cx (model X.prog X.w) X.A (setItem ov iv u) (λ _ b=>∃ a,Inv X pins σ a b/\Q a) X.xe s
section
variable {X:Cx} {pos:Pos}
def lV(i:Nat):TG:=λ v a H Q=>Q (a.set i (some v)) H
def yW{i:Nat}{x:Str}(d:X.N.Nodup)(hi:X.N[i]?=some x)(c:Loc X.env.scope x)(b:X.fn x=true\/X.env.scope.names.lookup x=some .local:=by first | exact .inl rfl | exact .inr rfl | assumption):PG X (.Name x pos) (lV i):=by
 intro a s g H v u Q I r h;exact EN (tP I d hi c r (λ l f=>⟨_,H,f,h⟩) b)
inductive kVE(vs:List V)(σ:St)(H:Hp)(Q:St->Hp->Prop):Prop
 | mk:(vs=[])->(Q σ H)->kVE vs σ H Q
inductive kRE(t:TG)(u:TGs)(vs:List V)(σ:St)(H:Hp)(Q:St->Hp->Prop):Prop
 | mk:∀ v r,(vs=v::r)->(t v σ H λ σ' H'=>u r σ' H' Q)->kRE t u vs σ H Q
def qY:PGs X [] kVE:=by
 intro a s b H d c Q I r h;obtain⟨e,h⟩:=h;subst e;cases r
 exact assignInOrder_nil ⟨b,H,I,h⟩
def kR{e:iC}{b:List iC}{t:TG}{u:TGs}(h1:PG X e t)(g:PGs X b u)
  (n:(assignEach (e::b) X.env).map (·.2)=assign e X.env::(assignEach b X.env).map (·.2):=by rfl):PGs X (e::b) (kRE t u):=by
 intro a s l H x q Q I r h;obtain⟨v,p,m,h⟩:=h;subst m
 cases r with
 | cons r rr =>
  rw[n];refine assignInOrder_cons (thn (h1 a s l H _ _ _ I r h) λ _ f ⟨c,d,o,i⟩=>?_);exact g a f c d _ _ Q o rr i
inductive kBS(K:bb)(n:Nat)(t:TGs)(v:V)(σ:St)(H:Hp)(Q:St->Hp->Prop):Prop
 | mk:∀ a xs,(v=.ref a)->(SqT K H a xs)->(xs.length=n)->(t xs σ H Q)->kBS K n t v σ H Q
def jU{d:List iC}{k:Nat}{t:TGs}{n:Nat}(m:X.calm=true)(h:PGs X d t)
  (J:(assignEach d X.env).length=n:=by rfl) (g:(assignEach d X.env).findIdx? (·.1)=none:=by rfl):PG X (.Tuple d k pos) (kBS X.K n t):=by
 intro c s l H v u Q I r f;obtain⟨a,y,x,B,q,f⟩:=f;subst x;cases r
 obtain⟨D,i,G,L⟩:=I.tuple B;refine assign_Tuple_tuple (I.ok.hd m) G (by simp[J,<-q,i.length]) g λ p A=>?_;have C:Inv X c l H {s with heap:=p}:=I.kept (t':=s.toks) λ b o e=>A b o (df (cn e)) e
 exact h c _ l H y _ Q C (by simpa using i) f
def kWI(to f:TE)(t:kTV):TG:=λ v a H Q=>to a H λ o d=>f a d λ i b=>t o i v b λ c=>Q a c
def kDM{o i:iC}{to c:TE}{t:kTV}(l:PE X o to)(hi:PE X i c)(J:kVP X t)
  (q:∀ v,assign (.Subscript o i pos) X.env v=(do
   let ov <-holding [v] (eval o X.env)
   let iv <-holding [v,ov] (eval i X.env)
   standAt pos
   holding [v,ov,iv] (setItem ov iv v)
   release [v,ov,iv] []):=by intro _;rfl):PG X (.Subscript o i pos) (kWI to c t):=by
 intro a s b H v u Q I r h;rw[q];refine ae (fq (thn (l a s b H _ I h) λ ov m ⟨x,g,L,f,B⟩=>?_));refine ae (fq (thn (hi a m b g _ L B) λ iv n ⟨y,p,A,G,D⟩=>?_));refine ae (yd (ae (fq (thn (J a n b p x y v ov iv u _ A f G r D) λ _ N ⟨d,M,C⟩=>?_))));exact wpAny_release ⟨b,d,M,C⟩
def kOP(c:TE)(g:TG):TS:=λ D a H=>c a H λ x b=>g x a b D.nx
def yO{b e:iC}{d:TE}{g:TG}(o:PE X e d)(u:PG X b g)(p:swapsWithSole [b] e pos.line X.env=pure false:=by rfl)(m:swappedStores [b] e X.env=pure none:=by rfl)
  (h1:(assignEach [b] X.env).map (·.2)=[assign b X.env]:=by rfl):PS X (.Assign [b] e pos) (kOP d g):=by
 intro a s c H D I h;refine wpAny_Assign_stores (thn (o a s c H _ I h) λ v l ⟨x,i,r,f,n⟩=>?_) p m;rw[h1];exact thn (u a l c i x v _ r f n) λ _ y q=>q
def kSE{i:Nat}{x:Str}{e:iC}{c:TE}{a:Pos}(u:X.N.Nodup)(hi:X.N[i]?=some x)(q:Loc X.env.scope x)(n:PE X e c)(p:swapsWith e (some (.Name x a)) pos.line X.env=pure false:=by rfl)(o:X.fn x=true\/X.env.scope.names.lookup x=some .local:=by first | exact .inl rfl | exact .inr rfl | assumption) :
  PS X (.Assign [.Name x a] e pos) (kOP c (lV i)):=by
 intro b s m H D I h;refine wpAny_Assign_Name (thn (n b s m H _ I h) λ v A ⟨y,f,r,d,l⟩=>?_) p;exact tP r u hi q d (λ B g=>⟨_,f,g,l⟩) o
def kKR(c:TT)(i:TS):TS:=λ D a H=>∃ W:Nat->St->Hp->Prop,(∃ m,W m a H)/\∀ m a H,W m a H ->
 c a H λ b f=>if b=true then ∃ N:St->Hp->Prop,(∀ d h,N d h->∃ g,g<m/\W g d h)/\i {D with nx:=N,ct:=N,bk:=D.nx} a f else D.nx a f
def kME{c:iC}{body:List lh}{G:TT}{M:TS}(hp:Gr (model X.prog X.w) X.A X.env X.xe)(Q:PT X c G)(hb:PSs X body M):PS X (.While c body [] pos) (kKR G M):=by
 intro d s Y H D I h;obtain⟨W,⟨O,w0⟩,turn⟩:=h;refine wpAny_While (codeAny_whileLoop (λ n Z=>∃ l B,Inv X d l B Z/\W n l B) ?_ O ⟨Y,H,I,w0⟩);rintro n S ⟨g,y,I1,U⟩;refine vg hp (thn (Q d S g y _ I1 (turn n g y U)) λ b T ⟨C,J,o⟩=>?_)
 cases b with
 | true =>
  obtain⟨N,L,o⟩:=o;rw[if_pos rfl];refine vg hp (thn (hb d T g C _ J o) λ f s3 m=>?_)
  cases f with
  | next =>
   obtain⟨a,i,x,r⟩:=m;obtain⟨u,q,p⟩:=L a i r;exact⟨u,q,a,i,x,p⟩
  | cont =>
   obtain⟨a,i,x,r⟩:=m;obtain⟨u,q,p⟩:=L a i r;exact⟨u,q,a,i,x,p⟩
  | brk=>exact m
  | ret v=>exact m
 | false =>
  rw[if_neg dw];exact BK ⟨g,C,J,o⟩
end
structure It where
 go:Nat->Hp->Prop
 yld:Nat->Hp->V->Hp->Prop
 stop:Nat->Hp->Prop
def yN(X:Cx)(a:List (ay×Obj))(H:Hp)(b:ay):Prop :=
 H b=none/\b≠X.env.locals/\b∉X.fs/\(b∈X.ex\/X.s₀.heap.objs.size<=b)/\(∀ x c,X.env.cells.lookup x=some c->c≠b)/\∀ p∈X.pn++a,p.1≠b
def Inv.fpOk{X:Cx}{a:List (ay×Obj)}{f:St}{H H':Hp}{s:av}{b:ay}(I:Inv X a f H s)(d:s.heap.objs.size<=b)(g:H' b=none):yN X a H' b:=by
 refine⟨g,jb (dc I.lt d),I.nofs d,.inr (fz I.sz d),λ x c e z=>?_,λ p hp z=>?_⟩
 ·obtain⟨v,q⟩:=I.cell x c e
  exact absurd (dc q.lt (by rw[z];exact d)) (qw _)
 ·exact absurd (dc (cn (I.pin p hp).1) (by rw[z];exact d)) (qw _)
structure Turn(P:eU)(w:gk)(K:bb)(tg:iC)(J:It)(fp:List ay)(it:ay)(tn:Nat->iD->Prop):Prop where
 mem:it∈fp
 obj:∀ i h,tn i h->∀ b∈fp,∃ o,h.get? b=some o/\∀ v,o.data≠.cell v
 keep:∀ i h h',tn i h->(∀ b∈fp,∀ o,h.get? b=some o->h'.get? b=some o)->tn i h'
 item:∀(X:Cx),X.prog=P->X.w=w->X.K=K->X.calm=true->∀(i:Nat)(pins:List (ay×Obj))(s:av)(σ:St)(H:Hp)(E:ao->av->Prop),Inv X pins σ H s->(∀ b∈fp,yN X pins H b)->tn i s.heap->J.go i H ->
  cx (model P w) X.A (pyNext (.ref it)) (λ r s1=>∃ u,r=some u /\
   cx (model P w) X.A (letOwnedTupleGo tg (.ref it) u) (λ _ s2=>∃ x H',Inv X pins σ H' s2/\RelV x u/\J.yld i H x H'/\tn (i+1) s2.heap/\∀ b∈fp,H' b=none) E s1) E s
 done:∀(X:Cx),X.prog=P->X.w=w->X.K=K->X.calm=true->∀(i:Nat)(pins:List (ay×Obj))(s:av)(σ:St)(H:Hp)(E:ao->av->Prop),Inv X pins σ H s->(∀ b∈fp,yN X pins H b)->tn i s.heap->J.stop i H ->
  cx (model P w) X.A (pyNext (.ref it)) (λ r s1=>r=none/\Inv X pins σ H s1) E s
 self:∀(A:fb)(i:Nat)(s:av)(Q:ao->av->Prop)(E:ao->av->Prop),tn i s.heap->Q (.ref it) s->cx (model P w) A (pyIter (.ref it)) Q E s
abbrev TI:=St->Hp->(It->Hp->Prop)->Prop
def PIE(X:Cx)(a:List (ay×Obj))(l:St)(i:iC)(R:It->Hp->Prop)(c:ao)(f:av):Prop :=
 ∃(it:ay)(h:List ay)(g:Nat->iD->Prop)(J:It)(d:Hp),c=.ref it/\Inv X a l d f/\Turn X.prog X.w X.K i J h it g/\g 0 f.heap/\(∀ b∈h,yN X a d b)/\R J d
def PI(X:Cx)(c iter:iC)(b:TI):Prop :=
 ∀(pins:List (ay×Obj))(s:av)(σ:St)(H:Hp)(R:It->Hp->Prop),Inv X pins σ H s->b σ H R ->
  cx (model X.prog X.w) X.A (eval iter X.env) (λ v a=>cx (model X.prog X.w) X.A (pyIter v) (PIE X pins σ c R) X.xe a) X.xe s
def kNN{M : yy}{A : fb}{E : ao -> av -> Prop}{s : av}{c : iC}{it : ay}{u : ao}{o : Obj}{n : String}{b : Array ao}{Q : Unit -> av -> Prop}(f : s.heap.get? it = some o)(d : o.cls = .type n)(g : o.data = .fields b)
    (i : ["enumerate", "zip", "dict_itemiterator", "dict_reverseitemiterator", "odict_iterator", "itertools.zip_longest", "itertools.pairwise"].contains n = false) (a : Q () s) : cx M A (letOwnedTupleGo c (.ref it) u) Q E s := by
  unfold letOwnedTupleGo
  cases c <;> first
    | exact az a
    | (cases u <;> first
        | exact az a
        | (refine ae (Fe f ?_)
           rw[d, g];show cx M A (if(["enumerate", "zip", "dict_itemiterator", "dict_reverseitemiterator", "odict_iterator", "itertools.zip_longest", "itertools.pairwise"].contains n && b[0]? == some (rawInt _)) = true then _ else _) Q E s;rw[if_neg (by intro h; rw[i, Ff]at h; cases h)];exact az a))
def Itl(K:bb)(a:ay):It :=
 ⟨λ i H=>∃ b x,SqL K H a b/\b[i]?=some x,λ i H x c=>c=H/\∀ b,SqL K H a b->b[i]?=some x,λ i H=>∃ b,SqL K H a b/\b.length<=i⟩
def Itt(K:bb)(a:ay):It :=
 ⟨λ i H=>∃ b x,SqT K H a b/\b[i]?=some x,λ i H x c=>c=H/\∀ b,SqT K H a b->b[i]?=some x,λ i H=>∃ b,SqT K H a b/\b.length<=i⟩
def Itr(lo:Int)(n:Nat):It:=⟨λ i _=>i<n,λ i H x a=>a=H/\x=.int (lo+i),λ i _=>n<=i⟩
def kHX{P:eU}{w:gk}{K:bb}{tg:iC}(a it:ay):Turn P w K tg (Itl K a) [it] it (λ i h=>h.IsListIter it a i) where
 mem:=by simp
 obj:=λ i h st b g=>by
  have e:b=it:=by simpa using g
  subst e;obtain⟨o,e,c,d⟩:=st;exact⟨o,e,λ v z=>by rw[d]at z;cases z⟩
 keep:=λ i h m st k=>st.at λ o e=>k it (by simp) o e
 item:=by
  intro X L B y Q i f s S H E I n st N;subst L B y;obtain⟨xs,x,q,M⟩:=N;obtain⟨O,C,p,T⟩:=I.list q;obtain⟨u,hu,U⟩:=C.get M;obtain⟨G,r,f2,A,J,D⟩:=n it (by simp);refine Cp st p.isList (x:=u) (by simpa using hu) λ m l Z=>?_;have I1:Inv X f S H {s with heap:=m}:=I.turned (t':=s.toks) (λ b o g e=>(Z.2 b g).trans e) G r A J D
  obtain⟨o,e,c,d⟩:=id l;exact⟨u,rfl,kNN (s:={s with heap:=m}) e c d (by decide) ⟨x,H,I1,U,⟨rfl,λ ys Y=>by rw[I.list_inj Y q];exact M⟩,l,λ b g=>(n b g).1⟩⟩
 done:=by
  intro X L B y Q i f s S H E I n st N;subst L B y;obtain⟨xs,q,M⟩:=N;obtain⟨O,C,p,T⟩:=I.list q;obtain⟨G,r,f2,A,J,D⟩:=n it (by simp);have hl:=C.length;exact DR (I.ok.hd Q) st p.isList (by simp;omega) λ m eb=>⟨rfl,I.turned (t':=s.toks) (λ b o g e=>eb b o g e) G r A J D⟩
 self:=λ _ _ _ _ _ st h=>wpAny_pyIter_listiter st h
def kCP{P:eU}{w:gk}{K:bb}{tg:iC}(a it:ay):Turn P w K tg (Itt K a) [it] it (λ i h=>h.IsTupleIter it a i) where
 mem:=by simp
 obj:=λ i h st b g=>by
  have e:b=it:=by simpa using g
  subst e;obtain⟨o,e,c,d⟩:=st;exact⟨o,e,λ v z=>by rw[d]at z;cases z⟩
 keep:=λ i h n st k=>st.at λ o e=>k it (by simp) o e
 item:=by
  intro X M C A Q i f s S H E I q st O;subst M C A;obtain⟨xs,x,r,N⟩:=O;obtain⟨l,D,p,T⟩:=I.tuple r;obtain⟨u,hu,U⟩:=D.get N;obtain⟨J,y,f2,B,L,G⟩:=q it (by simp);refine wpAny_pyNext_tuple_item st (show s.heap.IsTuple a l.toArray from p) (x:=u) (by simpa using hu) λ n m Z=>?_;have I1:Inv X f S H {s with heap:=n}:=I.turned (t':=s.toks) (λ b o g e=>(Z.2 b g).trans e) J y B L G
  obtain⟨o,e,c,d⟩:=id m;exact⟨u,rfl,kNN (s:={s with heap:=n}) e c d (by decide) ⟨x,H,I1,U,⟨rfl,λ ys Y=>by rw[I.tuple_inj Y r];exact N⟩,m,λ b g=>(q b g).1⟩⟩
 done:=by
  intro X M C A Q i f s S H E I q st O;subst M C A;obtain⟨xs,r,N⟩:=O;obtain⟨l,D,p,T⟩:=I.tuple r;obtain⟨J,y,f2,B,L,G⟩:=q it (by simp);have hl:=D.length;exact wpAny_pyNext_tuple_end (I.ok.hd Q) st (show s.heap.IsTuple a l.toArray from p) (by simp;omega) λ n eb=>⟨rfl,I.turned (t':=s.toks) (λ b o g e=>eb b o g e) J y B L G⟩
 self:=λ _ _ _ _ _ st h=>wpAny_pyIter_tupleiter st h
def kCQ{P:eU}{w:gk}{K:bb}{G:iC}(it:ay)(lo:Int)(n:Nat):Turn P w K G (Itr lo n) [it] it (λ i h=>IsRangeIter h it (lo+(i:Nat)*1) ((n:Int)-(i:Nat)) 1) where
 mem:=by simp
 obj:=λ i h st b c=>by
  have e:b=it:=by simpa using c
  subst e
  exact⟨_,st,λ v z=>by
   have J:Data.fields _=Data.cell v:=z
   cases J⟩
 keep:=λ i h f st k=>k it (by simp) _ st
 item:=by
  intro X A r p m i a s C H E I g st B;subst A r p;obtain⟨x,l,O,q,y,u⟩:=g it (by simp);have W:=Walks.range (prog:=X.prog) (w:=X.w) (I.ok.hd m) it lo 1 n;refine W.item i s _ _ B st λ v f D M d kk=>?_;obtain⟨t,rfl⟩:=M;have L:Inv X a C H {s with heap:=f,toks:=D}:=I.turned (λ b o c e=>kk b o (by simpa using c) e) x l q y u
  refine⟨_,rfl,kNN (s:={s with heap:=f,toks:=D}) (n:="range_iterator") d rfl rfl (by decide) ⟨.int (lo+i),H,L,⟨t,?_⟩,⟨rfl,rfl⟩,d,λ b c=>(g b c).1⟩⟩
  rw[Int.mul_one]
 done:=by
  intro X A r p m i a s C H E I g st B;subst A r p;obtain⟨x,l,O,q,y,u⟩:=g it (by simp);exact wpAny_pyNext_range_end (I.ok.hd m) st (by have:n<=i:=B;omega) λ f N=>⟨rfl,I.turned (t':=s.toks) (λ b o c e=>N b o c e) x l q y u⟩
 self:=λ _ _ _ _ _ st h=>wpAny_pyIter_rangeiter st h
section
variable {X:Cx} {tg:iC}
inductive kNJ(K:bb)(R:It->Hp->Prop)(x:V)(H1:Hp):Prop
 | mk:∀ a,(x=.ref a)->((∃ xs,SqL K H1 a xs))->(R (Itl K a) H1)->kNJ K R x H1
def kRC(K:bb)(a:TE):TI:=λ c H R=>a c H λ x b=>kNJ K R x b
inductive kRB(K:bb)(R:It->Hp->Prop)(x:V)(H1:Hp):Prop
 | mk:∀ a,(x=.ref a)->((∃ xs,SqT K H1 a xs))->(R (Itt K a) H1)->kRB K R x H1
def kTJ(K:bb)(a:TE):TI:=λ c H R=>a c H λ x b=>kRB K R x b
def xC{l:iC}{g:TE}(u:PE X l g):PI X tg l (kRC X.K g):=by
 intro c s r H R I h;refine thn (u c s r H _ I h) λ v d ⟨x,m,f,i,n⟩=>?_;obtain⟨a,e,⟨G,y⟩,q⟩:=n;subst e;cases i
 obtain⟨A,D,p,C⟩:=f.list y;refine AZ p.isList ?_;refine⟨d.heap.objs.size,[d.heap.objs.size],_,_,m,rfl,f.kept (t':=d.toks) λ b o e=>ar _ e,kHX a _,⟨_,cg _ rfl,rfl,rfl⟩,λ b B=>?_,q⟩;have e:b=d.heap.objs.size:=by simpa using B
 subst e;exact f.fpOk (bg _) (f.hok.fresh (bg _))
def vW{l:iC}{i:TE}(y:PE X l i):PI X tg l (kTJ X.K i):=by
 intro d s u H R I h;refine thn (y d s u H _ I h) λ v c ⟨x,n,f,m,r⟩=>?_;obtain⟨a,e,⟨G,A⟩,q⟩:=r;subst e;cases m
 obtain⟨g,D,p,C⟩:=f.tuple A;refine uq (show c.heap.IsTuple a g.toArray from p) ?_;refine⟨c.heap.objs.size,[c.heap.objs.size],_,_,n,rfl,f.kept (t':=c.toks) λ b o e=>ar _ e,kCP a _,⟨_,cg _ rfl,rfl,rfl⟩,λ b B=>?_,q⟩;have e:b=c.heap.objs.size:=by simpa using B
 subst e;exact f.fpOk (bg _) (f.hok.fresh (bg _))
def kAQ{a:List (ay×Obj)}{d:St}{H:Hp}{s:av}{R:It->Hp->Prop}{E:ao->av->Prop}{lo hi:Int}{t u v:Tok}{tk:Nat}(I:Inv X a d H s)(h1 : -(2 ^ 62)<=lo)(l:lo<2 ^ 62)(i : -(2 ^ 62)<=hi)(h:hi<2 ^ 62)
  (q:R (Itr lo (hi-lo).toNat) H):cx (model X.prog X.w) X.A (pyIter (.ref s.heap.objs.size)) (PIE X a d tg R) E {s with heap:=s.heap.push {cls:=.type "range",data:=.fields #[.int lo t,.int hi u,.int 1 v]},toks:=tk}:=by
 refine wpAny_pyIter_range (HJ ..) (small_one h1 l i h) ?_;have c:Inv X a d H {s with heap:=s.heap.push {cls:=.type "range",data:=.fields #[.int lo t,.int hi u,.int 1 v]},toks:=tk}:=I.kept λ b o e=>ar _ e
 refine⟨(s.heap.push {cls:=.type "range",data:=.fields #[.int lo t,.int hi u,.int 1 v]}).objs.size,[(s.heap.push {cls:=.type "range",data:=.fields #[.int lo t,.int hi u,.int 1 v]}).objs.size],_,_,H,rfl,
  c.kept (t':=tk) λ b o e=>ar _ e,kCQ _ lo (hi-lo).toNat,?_,λ b m=>?_,q⟩
 ·have f:lo+((0:Nat):Int)*1=lo:=by simp
  have g:(((hi-lo).toNat:Nat):Int)-((0:Nat):Int)=Gs lo hi 1:=by rw[rangeSize_one];split<;>omega
  show IsRangeIter _ _ (lo+((0:Nat):Int)*1) ((((hi-lo).toNat:Nat):Int)-((0:Nat):Int)) 1;rw[f,g];exact cg _ rfl
 ·have e:b=(s.heap.push {cls:=.type "range",data:=.fields #[.int lo t,.int hi u,.int 1 v]}).objs.size:=by simpa using m
  subst e;exact c.fpOk (bg _) (c.hok.fresh (bg _))
inductive kNI(R:It->Hp->Prop)(vs:List V)(H1:Hp):Prop
 | mk:∀(j:Int),(vs=[.int j])->(-(2 ^ 62)<=j)->(j<2 ^ 62)->(R (Itr 0 j.toNat) H1)->kNI R vs H1
def kVC(d:TA):TI:=λ c H R=>d c H λ b a=>kNI R b a
inductive kNH(R:It->Hp->Prop)(vs:List V)(H1:Hp):Prop
 | mk:∀(i j:Int),(vs=[.int i,.int j])->((-(2 ^ 62)<=i/\i<2 ^ 62/\-(2 ^ 62)<=j/\j<2 ^ 62))->(R (Itr i (j-i).toNat) H1)->kNH R vs H1
def kVB(d:TA):TI:=λ c H R=>d c H λ b a=>kNH R b a
def jT{a:iC}{f:TA}{p c:Pos}(v:Gl X "range")(i:X.mg "range" = none)(l:PA X [a] f)(o:starEach [a] X.env=[(false,eval a X.env)]:=by rfl):PI X tg (.Call (.Name "range" p) [a] [] c) (kVC f):=by
 intro b s m H R I h;refine EO (yB I v i Fg (fu (thn (l c b s m H _ I h) λ A y ⟨B,x,u,g,d⟩=>?_) o rfl));obtain⟨j,e,d,n,q⟩:=d;subst e
 cases g with
 | cons r rr =>
  cases rr
  obtain⟨t,rfl⟩:=r;exact call_range_1 (kAQ u (by omega) (by omega) d n (by simpa using q))
def oM{a b:iC}{l:TA}{p f:Pos}(C:Gl X "range")(o:X.mg "range" = none)(u:PA X [a,b] l)(A:starEach [a,b] X.env=[(false,eval a X.env),(false,eval b X.env)]:=by rfl)(c:starEach [b] X.env=[(false,eval b X.env)]:=by rfl) :
  PI X tg (.Call (.Name "range" p) [a,b] [] f) (kVB l):=by
 intro d s v H R I h;refine EO (yB I C o Fg (fu (thn (u f d s v H _ I h) λ J G ⟨L,D,B,m,g⟩=>?_) (by rw[A,c]) (by rw[c];rfl)));obtain⟨i,j,e,⟨g,y,x,n⟩,q⟩:=g;subst e
 cases m with
 | cons r rr =>
  cases rr with
  | cons r' rr =>
   cases rr
   obtain⟨t,rfl⟩:=r;obtain⟨M,rfl⟩:=r';exact call_range_2 (kAQ B g y x n q)
def kUE(l:TI)(g:TG)(o:TS):TS:=λ D a H=>l a H λ J n=>∃ W:Nat->Nat->St->Hp->Prop,(∃ m,W 0 m a n)/\∀ i m a H,W i m a H ->
 (J.stop i H/\D.nx a H)\/(J.go i H/\∃ N:St->Hp->Prop,(∀ b c,N b c->∃ f,f<m/\W (i+1) f b c)/\∀ x c,J.yld i H x c->g x a c λ d h=>o {D with nx:=N,ct:=N,bk:=D.nx} d h)
def rW(a:List ay)(h:iD):List (ay×Obj):=a.filterMap λ b=>(h.get? b).map λ o=>(b,o)
def wY{a:List ay}{h:iD}{b:ay}{o:Obj}(c:b∈a)(e:h.get? b=some o):(b,o)∈rW a h:=Dz.mpr ⟨b,c,by rw[e];rfl⟩
def kIR{a:List ay}{h:iD}{p:ay×Obj}(hp:p∈rW a h):p.1∈a/\h.get? p.1=some p.2:=by
 obtain⟨b,c,e⟩:=Dz.mp hp
 cases q:h.get? b with
 | none=>rw[q]at e;cases e
 | some o =>
  rw[q]at e;have d:(b,o)=p:=cc e;subst d;exact⟨c,q⟩
def Inv.pinned{a:List (ay×Obj)}{h:St}{H:Hp}{s:av}{c:List ay}(I:Inv X a h H s)(i:∀ b∈c,yN X a H b)(m:∀ b∈c,∃ o,s.heap.get? b=some o/\∀ v,o.data≠.cell v):Inv X (a++rW c s.heap) h H s :=
 I.pins_of λ p hp=>(bu.mp hp).elim (λ z=>I.pin p (cw _ z)) λ z=>by
  obtain⟨g,e⟩:=kIR z;obtain⟨n,l,q,_⟩:=i p.1 g;obtain⟨o,f,d⟩:=m p.1 g;rw[e]at f;cases f;exact⟨e,n,l,q,d⟩
def Inv.unpinned{a c:List (ay×Obj)}{b:St}{H:Hp}{s:av}(I:Inv X (a++c) b H s):Inv X a b H s:=I.pins_of λ p hp=>I.pin p (cw _ (cj _ hp))
def kSF{iter:iC}{body:List lh}{wi:TI}{g:TG}{tb:TS}{a2:Pos}(hp:Gr (model X.prog X.w) X.A X.env X.xe)(hc:X.calm=true)(hi:PI X tg iter wi)(hg:PG X tg g)(p:PSs X body tb)
  (hs:∀ x,foldedSetIterable iter X.env x=pure x:=by intro _;rfl):PS X (.For tg iter body [] a2) (kUE wi g tb):=by
 intro a s σ H D I h;refine wpAny_For (thn (hi a s σ H _ I h) λ v s1 h1=>thn h1 λ a4 s2 h2=>?_) hs;obtain⟨it,O,tn,J,H2,e,I2,T,a3,f2,W,⟨m0,w0⟩,turn⟩:=h2
 subst e
 have B:∀{G:Hp},(∀ b∈O,G b=none)->∀ b∈O,yN X a G b:=λ hn b p=>⟨hn b p,(f2 b p).2⟩;refine codeAny_forLoop_any (λ n s'=>∃ i y G,Inv X a y G s'/\tn i s'.heap/\(∀ b∈O,G b=none)/\W i n y G) ?_ m0 ⟨0,σ,H2,I2,a3,λ b p=>(f2 b p).1,w0⟩;rintro n s3 ⟨i,l,Y,I3,U,Q,w3⟩;rcases turn i n l Y w3 with⟨stop,qn⟩ | ⟨go,N,hN,step⟩
 ·refine vg hp (thn (T.done X rfl rfl rfl hc i a s3 l Y X.xe I3 (B Q) U stop) λ r s4 ⟨hr,I4⟩=>?_)
  subst hr;exact BK ⟨l,Y,I4,qn⟩
 ·refine vg hp (thn (T.item X rfl rfl rfl hc i a s3 l Y X.xe I3 (B Q) U go) λ r s4 ⟨u,hr,h4⟩=>?_)
  subst hr;refine vg hp (thn h4 λ _ s5 ⟨x,H5,I5,r5,y5,M,a0⟩=>?_);have a1:=I5.pinned (B a0) (T.obj _ _ M);refine vg hp (thn (hg _ s5 l H5 x u _ a1 r5 (step x H5 y5)) λ _ s6 ⟨Z,H6,I6,q6⟩=>?_);refine vg hp (thn (p _ s6 Z H6 _ I6 q6) λ f s7 L=>?_)
  have again:∀{c:St}{C:Hp},Inv X (a++rW O s5.heap) c C s7->N c C->∃ m,m<n/\∃ i y G,Inv X a y G s7/\tn i s7.heap/\(∀ b∈O,G b=none)/\W i m y G:=λ{c C} q S=>by
   obtain⟨m',hm,w7⟩:=hN c C S;refine⟨m',hm,i+1,c,C,q.unpinned,T.keep _ _ _ M λ b p o e=>(q.pin (b,o) (cw _ (cw _ (wY p e)))).1,λ b p=>?_,w7⟩;obtain⟨o,e,d⟩:=T.obj _ _ M b p;exact(q.pin (b,o) (cw _ (cw _ (wY p e)))).2.1
  cases f with
  | next=>obtain⟨c,C,q,S⟩:=L;exact again q S
  | cont=>obtain⟨c,C,q,S⟩:=L;exact again q S
  | brk=>obtain⟨c,C,q,L⟩:=L;exact⟨c,C,q.unpinned,L⟩
  | ret v=>obtain⟨x7,c,C,q,r7,L⟩:=L;exact⟨x7,c,C,q.unpinned,r7,L⟩
end
def kBT{K:bb}{a:ay}{xs:List V}{g:TG}{d:TS}{D:Ends}{b:St}{H:Hp}(Pv:Nat->St->Hp->Prop)(h0:Pv 0 b H)(h:∀ i b H,i<=xs.length->Pv i b H->SqL K H a xs)
  (f:∀ i x b H,xs[i]?=some x->Pv i b H->g x b H λ σ2 H2=>d {D with nx:=Pv (i+1),ct:=Pv (i+1),bk:=D.nx} σ2 H2) (o:∀ b H,Pv xs.length b H->D.nx b H) :
  ∃ W:Nat->Nat->St->Hp->Prop,(∃ m,W 0 m b H)/\∀ i m b H,W i m b H ->
   ((Itl K a).stop i H/\D.nx b H)\/((Itl K a).go i H/\∃ N:St->Hp->Prop,(∀ σ' H',N σ' H'->∃ m',m'<m/\W (i+1) m' σ' H')/\∀ x H',(Itl K a).yld i H x H'->g x b H' λ σ2 H2=>d {D with nx:=N,ct:=N,bk:=D.nx} σ2 H2):=by
 refine⟨λ i m b H=>m=xs.length-i/\i<=xs.length/\Pv i b H,⟨xs.length,by simp,fj _,h0⟩,?_⟩;rintro i m b H ⟨rfl,l,p⟩;have q:=h i b H l p;by_cases c:i<xs.length
 ·refine .inr ⟨⟨xs,xs[i],q,by simp[c]⟩,Pv (i+1),λ σ' H' n=>⟨xs.length-(i+1),by omega,rfl,c,n⟩,λ x H' y=>?_⟩
  obtain⟨e,y⟩:=y;subst e;exact f i x b _ (y xs q) p
 ·have e:i=xs.length:=by omega
  subst e;exact .inl ⟨⟨xs,q,bg _⟩,o b H p⟩
def xP{lo:Int}{n:Nat}{g:TG}{c:TS}{D:Ends}{a:St}{H:Hp}(Pv:Nat->St->Hp->Prop)(h0:Pv 0 a H)
  (d:∀ i a H,i<n->Pv i a H->g (.int (lo+i)) a H λ σ2 H2=>c {D with nx:=Pv (i+1),ct:=Pv (i+1),bk:=D.nx} σ2 H2) (h:∀ a H,Pv n a H->D.nx a H) :
  ∃ W:Nat->Nat->St->Hp->Prop,(∃ m,W 0 m a H)/\∀ i m a H,W i m a H ->
   ((Itr lo n).stop i H/\D.nx a H)\/((Itr lo n).go i H/\∃ N:St->Hp->Prop,(∀ σ' H',N σ' H'->∃ m',m'<m/\W (i+1) m' σ' H')/\∀ x H',(Itr lo n).yld i H x H'->g x a H' λ σ2 H2=>c {D with nx:=N,ct:=N,bk:=D.nx} σ2 H2):=by
 refine⟨λ i m a H=>m=n-i/\i<=n/\Pv i a H,⟨n,by simp,fj _,h0⟩,?_⟩;rintro i m a H ⟨rfl,l,p⟩;by_cases b:i<n
 ·refine .inr ⟨b,Pv (i+1),λ σ' H' f=>⟨n-(i+1),by omega,rfl,b,f⟩,λ x H' y=>?_⟩
  obtain⟨e,y⟩:=y;subst e y;exact d i a _ b p
 ·have e:i=n:=by omega
  subst e;exact .inl ⟨bg _,h a H p⟩
def kKE{c:TT}{f:TS}{D:Ends}{a:St}{H:Hp}(Pv:St->Hp->Prop)(d:St->Hp->Nat)(h0:Pv a H)
  (g:∀ a H,Pv a H->c a H λ b H1=>if b=true then f {D with nx:=λ σ' H'=>Pv σ' H'/\d σ' H'<d a H,ct:=λ σ' H'=>Pv σ' H'/\d σ' H'<d a H,bk:=D.nx} a H1 else D.nx a H1)
  (mono:∀ a H Q Q',(∀ b H1,Q b H1->Q' b H1)->c a H Q->c a H Q'):kKR c f D a H:=by
 refine⟨λ m a H=>m=d a H/\Pv a H,⟨_,rfl,h0⟩,?_⟩;rintro m a H ⟨rfl,p⟩;refine mono a H _ _ (λ b H1 q=>?_) (g a H p)
 cases b with
 | true=>exact⟨_,λ σ' H' ⟨h,l⟩=>⟨_,l,rfl,h⟩,q⟩
 | false=>exact q
abbrev R2:=V->V->Hp->VK->Prop
def OpR(X:Cx)(f:ao->ao->Sem ao)(r:R2):Prop :=
 ∀(pins:List (ay×Obj))(s:av)(σ:St)(H:Hp)(x y:V)(v u:ao)(Q:VK),Inv X pins σ H s->RelV x v->RelV y u->r x y H Q ->
  cx (model X.prog X.w) X.A (f v u) (EP X pins σ Q) X.xe s
def UnR(X:Cx)(f:ao->Sem ao)(r:V->Hp->VK->Prop):Prop :=
 ∀(pins:List (ay×Obj))(s:av)(σ:St)(H:Hp)(x:V)(v:ao)(Q:VK),Inv X pins σ H s->RelV x v->r x H Q ->
  cx (model X.prog X.w) X.A (f v) (EP X pins σ Q) X.xe s
def xR(X:Cx)(f:ao)(r:List V->Hp->VK->Prop):Prop :=
 ∀(pins:List (ay×Obj))(s:av)(σ:St)(H:Hp)(xs:List V)(us:List ao)(Q:VK),Inv X pins σ H s->Vals xs us->r xs H Q ->
  cx (model X.prog X.w) X.A (call f us) (EP X pins σ Q) X.xe s
def kWM(X:Cx)(r:V->Hp->(Bool->Hp->Prop)->Prop):Prop :=
 ∀(pins:List (ay×Obj))(s:av)(σ:St)(H:Hp)(x:V)(v:ao)(Q:Bool->Hp->Prop),Inv X pins σ H s->RelV x v->r x H Q ->
  cx (model X.prog X.w) X.A (truthy v) (TP X pins σ Q) X.xe s
def tOp(r:R2)(d f:TE):TE:=λ a H Q=>d a H λ x c=>f a c λ y b=>r x y b Q
def tUn(r:V->Hp->VK->Prop)(c:TE):TE:=λ b H Q=>c b H λ x a=>r x a Q
inductive rI(C:Int->Int->Prop)(g:Int->Int->V)(x:V)(y:V)(H:Hp)(Q:VK):Prop
 | mk:∀ i j,(x=.int i)->(y=.int j)->(C i j)->(Q (g i j) H)->rI C g x y H Q
inductive rI0(g:Int->Int->V)(x:V)(y:V)(H:Hp)(Q:VK):Prop
 | mk:∀ i j,(x=.int i)->(y=.int j)->(Q (g i j) H)->rI0 g x y H Q
inductive rU(g:Int->V)(x:V)(H:Hp)(Q:VK):Prop
 | mk:∀ i,(x=.int i)->(Q (g i) H)->rU g x H Q
section
variable {X:Cx} {a b c:iC} {ta tb tc:TE} {pos:Pos}
def kTT(i:PE X a ta)(B:PE X b tb){c:List (ay×Obj)}{s:av}{d:St}{H:Hp}{R:V->V->Hp->Prop}(I:Inv X c d H s)
  (h:ta d H λ x H1=>tb d H1 λ y H2=>R x y H2) {Q:ao->av->Prop} {f:ao->ao->Sem ao}
  (g:∀ v u s2 x y H2,Inv X c d H2 s2->RelV x v->RelV y u->R x y H2->cx (model X.prog X.w) X.A (f v u) Q X.xe s2) :
  cx (model X.prog X.w) X.A (eval a X.env) (λ v s₁=>cx (model X.prog X.w) X.A (eval b X.env) (λ u s₂=>cx (model X.prog X.w) X.A (f v u) Q X.xe s₂) X.xe s₁) X.xe s:=by
 refine thn (i c s d H _ I h) λ v p ⟨x,H1,l,m,q⟩=>?_;refine thn (B c p d H1 _ l q) λ u s2 ⟨y,H2,o,r,n⟩=>?_;exact g v u s2 x y H2 o m r n
def qB{d:Operator}{r:R2}(f:OpR X (binaryOp d) r)(l:PE X a ta)(A:PE X b tb):PE X (.BinOp a d b pos) (tOp r ta tb):=by
 intro c s n H Q I h;exact wpAny_BinOp (kTT l A I h λ v u g x y i m p o q=>f c g n i x y v u Q m p o q)
def dC{c:UnaryOp}{r:V->Hp->VK->Prop}(m:UnR X (unaryOp c) r)(f:PE X a ta):PE X (.UnaryOp c a pos) (tUn r ta):=by
 intro b s d H Q I h;exact UnaryOp_ (thn (f b s d H _ I h) λ v n ⟨x,l,g,i,o⟩=>m b n d l x v Q g i o)
def opI{f:ao->ao->Sem ao}{C:Int->Int->Prop}{g:Int->Int->Int}
  (rule:∀(i j:Int)(t u:Tok)(s:av)(Q:ao->av->Prop)(E:ao->av->Prop),C i j->Q (.int (g i j) s.toks) {s with toks:=s.toks+1}->cx (model X.prog X.w) X.A (f (.int i t) (.int j u)) Q E s) :
  OpR X f (rI C λ i j=>.int (g i j)):=by
 intro a s m H x y v u Q I d l h;obtain⟨i,j,rfl,rfl,b,q⟩:=h;obtain⟨t,rfl⟩:=d;obtain⟨c,rfl⟩:=l;exact rule i j t c s _ _ b ⟨.int (g i j),H,I.tok _,⟨_,rfl⟩,q⟩
def kUS{f:ao->ao->Sem ao}{g:Int->Int->Int}
  (rule:∀(i j:Int)(t u:Tok)(s:av)(Q:ao->av->Prop)(E:ao->av->Prop),Q (.int (g i j) s.toks) {s with toks:=s.toks+1}->cx (model X.prog X.w) X.A (f (.int i t) (.int j u)) Q E s) :
  OpR X f (rI0 λ i j=>.int (g i j)):=by
 intro a s l H x y v u Q I c d h;obtain⟨i,j,rfl,rfl,q⟩:=h;obtain⟨t,rfl⟩:=c;obtain⟨b,rfl⟩:=d;exact rule i j t b s _ _ ⟨.int (g i j),H,I.tok _,⟨_,rfl⟩,q⟩
def kSP{f:ao->ao->Sem ao}{g:Int->Int->Bool}
  (rule:∀(i j:Int)(t u:Tok)(s:av)(Q:ao->av->Prop)(E:ao->av->Prop),Q (.bool (g i j)) s->cx (model X.prog X.w) X.A (f (.int i t) (.int j u)) Q E s) :
  OpR X f (rI0 λ i j=>.bl (g i j)):=by
 intro a s l H x y v u Q I c d h;obtain⟨i,j,rfl,rfl,q⟩:=h;obtain⟨t,rfl⟩:=c;obtain⟨b,rfl⟩:=d;exact rule i j t b s _ _ ⟨.bl (g i j),H,I,rfl,q⟩
def kWP(i j:Int):Prop:=0<j/\j<1073741824
def kWO(i j:Int):Prop:=0<=j/\j<=1000000/\i.natAbs<2 ^ 64
def CMul(i j:Int):Prop:=(-(2 ^ 64)<i/\i<2 ^ 64)\/(-(2 ^ 64)<j/\j<2 ^ 64)
def CMul.ok{i j:Int}(h:CMul i j):IntMulOk i j:=by
 rcases h with⟨h1,a⟩ | ⟨h1,a⟩
 ·exact .of_left (intBits_le_64 h1 a)
 ·exact .of_right (intBits_le_64 h1 a)
def xU:OpR X (binaryOp .Add) (rI0 λ i j=>.int (i+j)):=kUS λ _ _ _ _ _ _ _ q=>add_int q
def wA:OpR X (binaryOp .Sub) (rI0 λ i j=>.int (i-j)):=kUS λ _ _ _ _ _ _ _ q=>sub_int q
def kDQ:OpR X (binaryOp .Mult) (rI CMul λ i j=>.int (i*j)):=opI λ _ _ _ _ _ _ _ a q=>mul_int q a.ok
def kPL:OpR X (binaryOp .FloorDiv) (rI kWP λ i j=>.int (i / j)):=opI λ i j _ _ _ _ _ a q=>by
 have h1:(0:Int)<j:=a.1;have b:j<1073741824:=a.2;exact floordiv_int (by omega) (by rw[Bf i (by omega)];exact q) (.inl (PyProof.noPylong_small (by omega)))
def sA:OpR X (binaryOp .Mod) (rI (λ _ j=>0<j) λ i j=>.int (i % j)):=opI λ i j _ _ _ _ _ a q=>by
 have h1:(0:Int)<j:=a;exact mod_int' (by omega) (by rw[Bg i (by omega)];exact q)
def kSO:OpR X (binaryOp .Pow) (rI kWO λ i j=>.int (i ^ j.toNat)):=opI λ _ _ _ _ _ _ _ a q=>pow_int_small a.1 a.2.1 a.2.2 q
def unI{f:ao->Sem ao}{g:Int->Int}
  (rule:∀(i:Int)(t:Tok)(s:av)(Q:ao->av->Prop)(E:ao->av->Prop),Q (.int (g i) s.toks) {s with toks:=s.toks+1}->cx (model X.prog X.w) X.A (f (.int i t)) Q E s) :
  UnR X f (rU λ i=>.int (g i)):=by
 intro a s c H x v Q I b h;obtain⟨i,rfl,q⟩:=h;obtain⟨t,rfl⟩:=b;exact rule i t s _ _ ⟨.int (g i),H,I.tok _,⟨_,rfl⟩,q⟩
def vO:UnR X (unaryOp .USub) (rU λ i=>.int (-i)):=unI λ _ _ _ _ _ q=>neg_int q
end
def kUI:V->V->Bool
 | .non,.non=>true | .non,.int _=>true | .int _,.non=>true | .non,.bl _=>true | .bl _,.non=>true | .non,.str _=>true | .str _,.non=>true
 | .int _,.int _=>true | .bl _,.bl _=>true | .str _,.str _=>true | .byt _,.byt _=>true
 | .int _,.str _=>true | .str _,.int _=>true | .bl _,.str _=>true | .str _,.bl _=>true
 | _,_=>false
inductive rEq(x:V)(y:V)(H:Hp)(Q:VK):Prop
 | mk:(kUI x y=true)->(Q (.bl (decide (x=y))) H)->rEq x y H Q
inductive rNe(x:V)(y:V)(H:Hp)(Q:VK):Prop
 | mk:(kUI x y=true)->(Q (.bl (!decide (x=y))) H)->rNe x y H Q
def kHC{i j:Int}:decide (V.int i=V.int j)=(i == j):=by
 rw[iL];simp
def kNZ{i j:Bool}:decide (V.bl i=V.bl j)=(i == j):=by
 rw[iL];simp
def kHB{i j:Str}:decide (V.str i=V.str j)=(i == j):=by
 rw[iL];simp
def kHD{i j:Array UInt8}:decide (V.byt i=V.byt j)=(i.toList == j.toList):=by
 rw[iL];cases i
 cases j
 simp
section
variable {X:Cx} {a b c:iC} {ta tb tc:TE} {pos:Pos}
def qD{a:List (ay×Obj)}{b:St}{H:Hp}{s:av}{Q:VK}{k c:Bool}(I:Inv X a b H s)(q:Q (.bl k) H)(e:k=c):EP X a b Q (.bool c) s:=by
 subst e;exact⟨.bl k,H,I,rfl,q⟩
def kGG:OpR X (compareOp .Eq) rEq:=by
 intro f s g H x y v u Q I d a h;obtain⟨c,q⟩:=h
 cases x with
 | non =>
  cases d
  cases y with
  | non=>cases a;exact GH (qD I q (by simp))
  | bl j=>cases a;exact GI (qD I q (by simp))
  | int j=>obtain⟨b,rfl⟩:=a;exact GX (qD I q (by simp))
  | str j=>obtain⟨b,rfl⟩:=a;exact GY (qD I q (by simp))
  | _=>exact absurd (show false=true from c) dw
 | bl i =>
  cases d
  cases y with
  | non=>cases a;exact GJ (qD I q (by simp))
  | bl j=>cases a;exact eq_bool (qD I q kNZ)
  | str j=>obtain⟨b,rfl⟩:=a;exact GK (qD I q (by simp))
  | _=>exact absurd (show false=true from c) dw
 | int i =>
  obtain⟨t,rfl⟩:=d
  cases y with
  | non=>cases a;exact GZ (qD I q (by simp))
  | int j=>obtain⟨b,rfl⟩:=a;exact eq_int (qD I q kHC)
  | str j=>obtain⟨b,rfl⟩:=a;exact Ga (qD I q (by simp))
  | _=>exact absurd (show false=true from c) dw
 | str i =>
  obtain⟨t,rfl⟩:=d
  cases y with
  | non=>cases a;exact Gb (qD I q (by simp))
  | bl j=>cases a;exact GM (qD I q (by simp))
  | int j=>obtain⟨b,rfl⟩:=a;exact Gc (qD I q (by simp))
  | str j=>obtain⟨b,rfl⟩:=a;exact eq_str (qD I q kHB)
  | _=>exact absurd (show false=true from c) dw
 | byt i =>
  obtain⟨t,rfl⟩:=d
  cases y with
  | byt j=>obtain⟨b,rfl⟩:=a;exact PySem.W.eq_bytes (qD I q kHD)
  | _=>exact absurd (show false=true from c) dw
 | _=>cases y<;>exact absurd (show false=true from c) dw
def oP:OpR X (compareOp .NotEq) rNe:=by
 intro f s g H x y v u Q I d a h;obtain⟨c,q⟩:=h
 cases x with
 | non =>
  cases d
  cases y with
  | non=>cases a;exact GN (qD I q (by simp))
  | bl j=>cases a;exact GO (qD I q (by simp))
  | int j=>obtain⟨b,rfl⟩:=a;exact Gd (qD I q (by simp))
  | str j=>obtain⟨b,rfl⟩:=a;exact Ge (qD I q (by simp))
  | _=>exact absurd (show false=true from c) dw
 | bl i =>
  cases d
  cases y with
  | non=>cases a;exact GP (qD I q (by simp))
  | bl j=>cases a;exact ne_bool (qD I q (congrArg not kNZ))
  | str j=>obtain⟨b,rfl⟩:=a;exact GQ (qD I q (by simp))
  | _=>exact absurd (show false=true from c) dw
 | int i =>
  obtain⟨t,rfl⟩:=d
  cases y with
  | non=>cases a;exact Gf (qD I q (by simp))
  | int j=>obtain⟨b,rfl⟩:=a;exact ne_int (qD I q (congrArg not kHC))
  | str j=>obtain⟨b,rfl⟩:=a;exact Gg (qD I q (by simp))
  | _=>exact absurd (show false=true from c) dw
 | str i =>
  obtain⟨t,rfl⟩:=d
  cases y with
  | non=>cases a;exact Gh (qD I q (by simp))
  | bl j=>cases a;exact GR (qD I q (by simp))
  | int j=>obtain⟨b,rfl⟩:=a;exact Gi (qD I q (by simp))
  | str j=>obtain⟨b,rfl⟩:=a;exact ne_str (qD I q (congrArg not kHB))
  | _=>exact absurd (show false=true from c) dw
 | byt i =>
  obtain⟨t,rfl⟩:=d
  cases y with
  | byt j=>obtain⟨b,rfl⟩:=a;exact PySem.W.ne_bytes (qD I q (congrArg not kHD))
  | _=>exact absurd (show false=true from c) dw
 | _=>cases y<;>exact absurd (show false=true from c) dw
def kMO:OpR X (compareOp .Lt) (rI0 λ i j=>.bl (decide (i<j))):=kSP λ _ _ _ _ _ _ _ q=>lt_int q
def kUR:OpR X (compareOp .LtE) (rI0 λ i j=>.bl (decide (i<=j))):=kSP λ _ _ _ _ _ _ _ q=>le_int q
def kRA:OpR X (compareOp .Gt) (rI0 λ i j=>.bl (decide (j<i))):=kSP λ _ _ _ _ _ _ _ q=>gt_int q
inductive kGF(x:V)(y:V)(H:Hp)(Q:VK):Prop
 | mk:(y=.non)->(Q (.bl (decide (x=.non))) H)->kGF x y H Q
def kMP:OpR X (compareOp .Is) kGF:=by
 intro a s d H x y v u Q I b c h;obtain⟨rfl,q⟩:=h;cases c
 refine is_none_gen (qD I q ?_)
 cases x<;>first
  | (cases b;rfl)
  | (obtain⟨t,rfl⟩:=b;rfl)
inductive kAU(x:V)(y:V)(H:Hp)(Q:VK):Prop
 | mk:(y=.non)->(Q (.bl (!decide (x=.non))) H)->kAU x y H Q
def kPK:OpR X (compareOp .IsNot) kAU:=by
 intro a s d H x y v u Q I b c h;obtain⟨rfl,q⟩:=h;cases c
 refine isnot_none_gen (qD I q ?_)
 cases x<;>first
  | (cases b;rfl)
  | (obtain⟨t,rfl⟩:=b;rfl)
def qS(b:iC){a:Gq}(h:a≠.In:=by decide)(f:a≠.NotIn:=by decide):behindInMarks a b=false:=by
 have c:(a == CmpOp.In)=false:=by cases a<;>first | rfl | exact absurd rfl h
 have d:(a == CmpOp.NotIn)=false:=by cases a<;>first | rfl | exact absurd rfl f
 cases b<;>simp[behindInMarks,c,d]
def jR{d:Gq}{r:R2}(f:OpR X (compareOp d) r)(m:PE X a ta)(B:PE X b tb)(l:behindInMarks d b=false):PE X (.Compare a [d] [b] pos) (tOp r ta tb):=by
 intro c s o H Q I h;exact Fd (kTT m B I h λ v u g x y i n A p q=>f c g o i x y v u Q n A p q) l
inductive kKS(Q:Bool->Hp->Prop)(x:V)(H':Hp):Prop
 | mk:∀ k,(x=.bl k)->(Q k H')->kKS Q x H'
def kTZ(t:TE):TT:=λ a H Q=>t a H λ x b=>kKS Q x b
def qJ{f:Gq}{r:R2}(n:OpR X (compareOp f) r)(C:PE X a ta)(S:PE X b tb)(B:behindInMarks f b=false):PT X (.Compare a [f] [b] pos) (kTZ (tOp r ta tb)):=by
 intro d s g H Q I h
 refine DQ (thn (C d s g H _ I h) λ v o ⟨x,m,N,l,G⟩=>thn (S d o g m _ N G) λ u q ⟨y,A,D,M,L⟩ =>
  thn (n d q g A x y v u _ D l M L) λ c T ⟨z,i,O,p,k,e,J⟩=>?_) B
 subst e;cases p
 exact kq ⟨i,O,J⟩
inductive kFC(r':R2)(tc:TE)(σ:St)(Q:VK)(y:V)(z:V)(H3:Hp):Prop
 | mk:∀ k,(z=.bl k)->((if k=true then tc σ H3 λ w' H4=>r' y w' H4 Q else Q (.bl false) H3))->kFC r' tc σ Q y z H3
def kRU(r i:R2)(g h d:TE):TE:=λ a H Q=>g a H λ x f=>h a f λ y b=>r x y b λ z c=>kFC i d a Q y z c
def kML{m g:Gq}{r q:R2}(J:OpR X (compareOp m) r)(l:OpR X (compareOp g) q)(Z:PE X a ta)(hb:PE X b tb)(B:PE X c tc)
  (Y:lastMarks [m,g] [b,c]=false:=by with_unfolding_all rfl):PE X (.Compare a [m,g] [b,c] pos) (kRU r q ta tb tc):=by
 intro f s i H Q I h
 refine Compare_chain (thn (Z f s i H _ I h) λ v L ⟨x,G,I1,C,q1⟩=>chain_link (thn (hb f L i G _ I1 q1) λ u T ⟨y,U,I2,p,q2⟩ =>
  thn (J f T i U x y v u _ I2 C p q2) λ d S ⟨z,n,A,M,k,e,o⟩=>?_)) Y
 subst e;cases M
 refine kq ?_
 cases k with
 | false=>exact ite_ff ⟨.bl false,n,A,rfl,o⟩
 | true=>exact ite_tt (chain_last (thn (B f S i n _ A o) λ D s4 ⟨z',H4,I4,O,N⟩=>l f s4 i H4 y z' u D Q I4 p O N))
def kVO(K:bb)(x:V)(H:Hp)(k:Bool):Prop :=
 match x with
 | .non=>k=false
 | .bl b=>k=b
 | .int i=>k=(i != 0)
 | .str y=>y.length<=sizeLine/\k=((y.length:Int) != 0)
 | .byt y=>y.size<=sizeLine/\k=((y.size:Int) != 0)
 | .ref p=>(∃ a,SqL K H p a/\k = !a.isEmpty)\/(∃ a,SqT K H p a/\k = !a.isEmpty)\/∃ c,H p=some (.dK c)/\k = !c.isEmpty
 | _=>False
def kEG{b:Type}{kvs:List (b×V)}{a:List (b×ao)}(r:KV kvs a):(!a.isEmpty) = !kvs.isEmpty:=by
 cases r<;>rfl
def lK{xs:List V}{a:List ao}(r:Vals xs a):(!a.toArray.isEmpty) = !xs.isEmpty:=by
 cases r<;>simp
def cI:(sizeLine:Nat)<2 ^ 63:=by rw[AO];decide
def kRO:kWM X (λ x H Q=>∃ k,kVO X.K x H k/\Q k H):=by
 intro B s J H x v Q I g h;obtain⟨k,e,q⟩:=h;have L:=cI;have M:sizeLine=16777216:=AO
 cases x with
 | non =>
  cases g
  have a:k=false:=e;subst a;exact truthy_none ⟨H,I,q⟩
 | bl b =>
  cases g
  have a:k=b:=e;subst a;exact kq ⟨H,I,q⟩
 | int i =>
  obtain⟨t,rfl⟩:=g;have a:k=(i != 0):=e;subst a;exact PySem.P.truthy_int ⟨H,I,q⟩
 | str y =>
  obtain⟨t,rfl⟩:=g;obtain⟨D,a⟩ : y.length<=sizeLine/\k=((y.length:Int) != 0):=e;subst a;exact PySem.P.truthy_str (by omega) ⟨H,I.tok _,q⟩
 | byt y =>
  obtain⟨t,rfl⟩:=g;obtain⟨D,a⟩ : y.size<=sizeLine/\k=((y.size:Int) != 0):=e;subst a;exact PySem.W.truthy_bytes (by omega) ⟨H,I.tok _,q⟩
 | ref p =>
  cases g
  have a:(∃ f,SqL X.K H p f/\k = !f.isEmpty)\/(∃ f,SqT X.K H p f/\k = !f.isEmpty)\/∃ c,H p=some (.dK c)/\k = !c.isEmpty:=e;rcases a with⟨f,l,a⟩ | ⟨f,l,a⟩ | ⟨c,l,a⟩
  ·subst a
   obtain⟨u,r,o,A⟩:=I.list l;have d:=r.length;exact wpAny_truthy_list o.isList (by simp only[eR];omega) ⟨H,I.tok _,by rw[lK r];exact q⟩
  ·subst a
   obtain⟨u,r,o,A⟩:=I.tuple l;have d:=r.length;exact truthy_tuple o (by simp only[eR];omega) ⟨H,I.tok _,by rw[lK r];exact q⟩
  ·subst a
   obtain⟨A,G,n,r,m⟩ : c.length<=sizeLine/\(p == sysModules)=false/\∃ n,KV c n/\s.heap.DictOf (kX X.prog X.w) p n:=I.hok p _ l;have d:c.length=n.length:=wk r;exact wpAny_truthy_dict G m (by omega) ⟨H,I.tok _,by rw[kEG r];exact q⟩
 | _=>exact(show False from e).elim
def kMC(c:PE X a ta)(m:∀ vF,isTrue a X.env vF=(do let v <-vF;standAt a.pos;holding [v] (truthy v))) :
  PT X a (λ σ H Q=>ta σ H λ x H'=>∃ k,kVO X.K x H' k/\Q k H'):=by
 intro b s σ H Q I h;exact isTrue_plain (thn (c b s σ H _ I h) λ v i ⟨x,g,f,d,l⟩=>kRO b i σ g x v Q f d l) (m _)
def zD{x:V}{a:List ao}(r:Vals [x] a):∃ u,a=[u]/\RelV x u:=by
 cases r with
 | cons r1 r2=>cases r2;exact⟨_,rfl,r1⟩
def nJ{x y:V}{a:List ao}(r:Vals [x,y] a):∃ u w',a=[u,w']/\RelV x u/\RelV y w':=by
 cases r with
 | cons r1 r2 =>
  cases r2 with
  | cons r3 r4=>cases r4;exact⟨_,_,rfl,r1,r3⟩
inductive pN(xs:List V)(H:Hp)(Q:VK):Prop
 | mk:∀ i,(xs=[.int i])->(Q (.int (if i<0 then -i else i)) H)->pN xs H Q
def kOD:xR X (.builtin "abs") pN:=by
 intro a s f H c b Q I r h;obtain⟨i,rfl,q⟩:=h;obtain⟨u,rfl,t,rfl⟩:=zD r;exact call_abs_int λ u d=>⟨.int (if i<0 then -i else i),H,I.tok _,⟨_,rfl⟩,q⟩
inductive mN(xs:List V)(H:Hp)(Q:VK):Prop
 | mk:∀ i j,(xs=[.int i,.int j])->(Q (.int (if j>i then j else i)) H)->mN xs H Q
def pK(c:X.calm=true):xR X (.builtin "max") mN:=by
 intro b s l H m f Q I r h;obtain⟨i,j,rfl,q⟩:=h;obtain⟨u,o,rfl,⟨t,rfl⟩,⟨g,rfl⟩⟩:=nJ r;refine max_two_ints (I.ok.hd c) λ d n k=>⟨_,H,I.kept k,?_,q⟩;by_cases a:j>i
 ·rw[if_pos a,if_pos a];exact⟨_,rfl⟩
 ·rw[if_neg a,if_neg a];exact⟨_,rfl⟩
inductive mL(xs:List V)(H:Hp)(Q:VK):Prop
 | mk:∀ i j,(xs=[.int i,.int j])->(Q (.int (if j<i then j else i)) H)->mL xs H Q
def kJV(c:X.calm=true):xR X (.builtin "min") mL:=by
 intro b s l H m f Q I r h;obtain⟨i,j,rfl,q⟩:=h;obtain⟨u,o,rfl,⟨t,rfl⟩,⟨g,rfl⟩⟩:=nJ r;refine min_two_ints (I.ok.hd c) λ d n k=>⟨_,H,I.kept k,?_,q⟩;by_cases a:j<i
 ·rw[if_pos a,if_pos a];exact⟨_,rfl⟩
 ·rw[if_neg a,if_neg a];exact⟨_,rfl⟩
end
structure ObjM(h:iD)(x dx C:ay)(mA:Str->Option ao):Prop where
 obj:h.get? x=some (DG C dx)
 ns:h.Ns1 dx mA
 ne:dx≠x
def kIY{h:iD}{f:ay}{c:Str->Option ao}(n:h.Ns1 f c):∃ od,h.get? f=some od/\∀ name,DY name od=some (c name):=by
 obtain⟨o,d,s,l,r,m,_,g⟩:=n;refine⟨o,l,λ name=>?_⟩;have e:=g name;unfold nsFind findBy at e;rw[<-Array.find?_toList]at e;unfold DY;rw[r];dsimp only
 split
 ·rename_i y q
  rw[q]at e;exact congrArg some e
 ·rename_i q
  rw[q]at e
  have a:d.toList.any (·.refKey)=false:=by
   rw[List.any_eq_false];intro y p;obtain⟨z,t,b⟩:=m y (vk.mp p);simp[DictEntry.refKey,b]
  have i:¬ d.toList.any (·.refKey)=true:=by rw[a];exact dw
  rw[if_neg i];exact congrArg some e
def ObjM.look{h:iD}{x b C:ay}{a:Str->Option ao}(I:ObjM h x b C a):∃ od,PySem.W.InstAt h x (DG C b) C (some od)/\∀ name,DY name od=some (a name) :=
 let ⟨od,ho,hl⟩:=kIY I.ns
 ⟨od,⟨I.obj,rfl,rfl,ho⟩,hl⟩
section
variable {prog:eU} {w:gk} {A:fb} {E:ao->av->Prop} {s:av} {K:bb} {x dx C f:ay} {mA:Str->Option ao} {name:Str} {v:ao}
end
def RelO.some_of{v:V}{o:Option ao}(r:RelO (some v) o):∃ u,o=some u/\RelV v u:=by
 cases o with
 | none=>exact(show False from r).elim
 | some u=>exact⟨u,rfl,r⟩
section
variable {P:eU} {w:gk} {H H':Hp} {h h':iD} {a C dx:ay} {fs fs':List (Str×V)}
def kQB(b:HOk P w H h)(e:H a=some (.ins C dx fs)):∃ mA,ObjM h a dx C mA/\(∀ f,RelO (fs.lookup f) (mA f))/\Gv mA (fs.map (·.1))/\fs.length<=1000/\H dx=some (.own a):=by
 obtain⟨d,z,g,c,mA,n,r,q⟩:=(show ObjOk P w H h a (.ins C dx fs) from b a _ e);exact⟨mA,⟨c,n,g⟩,r,q,z,d⟩
end
structure Cls(K:bb)(C:ay):Prop where
 pg:Eu K C Str.empty=true
 hd:PySem.W.hasDictIn K C=true
 po:PySem.W.plainOver K C=true
 sa:Fh K (.ref C) "__setattr__" = some (some (.builtin "object.__setattr__"))
def Cls.get{K:bb}{C:ay}(c:Cls K C)(f:Str):Eu K C f=true:=c.pg
section
variable {X:Cx} {pins:List (ay×Obj)} {σ:St} {H:Hp} {s:av} {a C dx:ay} {fs:List (Str×V)} {f:Str} {v:V} {A:fb} {E:ao->av->Prop}
end
section
variable {X:Cx} {o e value:iC} {f:Str} {pos pos' tpos:Pos} {ta tv:TE}
end
section
variable {X:Cx} {pins:List (ay×Obj)} {σ:St} {H:Hp} {s:av} {A:fb} {E:ao->av->Prop} {Q:ao->av->Prop} {c:ao} {b:Bool}
inductive cQ(K:bb)(H:Hp):V->ao->Prop where
 | non:cQ K H .non (.type "NoneType")
 | bl (x:Bool):cQ K H (.bl x) (.type "bool")
 | int (i:Int):cQ K H (.int i) (.type "int")
 | str (x:Str):cQ K H (.str x) (.type "str")
 | flt (x:UInt64):cQ K H (.flt x) (.type "float")
 | lst {a:ay} {xs:List V} (e:H a=some (.lst xs)):cQ K H (.ref a) (.type "list")
 | frz {a:ay} {o:Obj} {xs:List V} (e:H a=some (.frz o (.lst xs))):cQ K H (.ref a) (.type "list")
 | tup {a:ay} {xs:List V} (e:H a=some (.tup xs)):cQ K H (.ref a) (.type "tuple")
 | dK {a:ay} {kvs:List (Key×V)} (e:H a=some (.dK kvs)):cQ K H (.ref a) (.type "dict")
 | dT {a:ay} {kvs:List (List Key×V)} (e:H a=some (.dT kvs)):cQ K H (.ref a) (.type "dict")
 | ins {a C dx:ay} {fs:List (Str×V)} (e:H a=some (.ins C dx fs)) (cl:Cls K C) (ha:Fh K (.ref C) "__class__" = some (some (.builtin "object.__class__")))
   (hn:PySem.W.specialIn K (.builtin "object.__class__") "__get__" = some (some (.builtin "getset_descriptor.__get__"))) (htk:PySem.W.takesIn K (.builtin "object.__class__")=some true)
   (hm:PySem.W.mroIn K C (.type "object")=some true):cQ K H (.ref a) (.ref C)
def kJD{x:V}{u t:ao}(I:Inv X pins σ H s)(d:RelV x u)(m:cQ X.K H x t)(e:Fi X.K t c=some b)(h:∀ tk,Q (.bool b) {s with toks:=tk}) :
  cx (model X.prog X.w) A (call (.builtin "isinstance") [u,c]) Q E s:=by
 cases m with
 | non=>cases(show u=xh from d);exact kg PySem.W.kitx_none I.kIn nj e (λ z=>nomatch z) h
 | bl y=>cases(show u=Bd y from d);exact kg PySem.W.kitx_bool I.kIn nj e (λ z=>nomatch z) h
 | int i=>obtain⟨t,q⟩:=(show ∃ t,u=uk i t from d);cases q;exact kg PySem.W.kitx_int I.kIn nj e (λ z=>nomatch z) h
 | str y=>obtain⟨t,q⟩:=(show ∃ t,u=Dj y t from d);cases q;exact kg PySem.W.kitx_str I.kIn nj e (λ z=>nomatch z) h
 | flt y=>obtain⟨t,q⟩:=(show ∃ t,u=HI y t from d);cases q;exact kg PySem.W.kitx_float I.kIn nj e (λ z=>nomatch z) h
 | @lst a f ea =>
  cases(show u=iM a from d)
  obtain⟨_,_,n,_,h1⟩:=(show ObjOk X.prog X.w H s.heap a (.lst f) from I.hok a _ ea);exact kg ER I.kIn ⟨_,h1,rfl⟩ e (λ z=>nomatch z) h
 | @frz a ob f ea =>
  cases(show u=iM a from d)
  obtain⟨_,_,_,n,_,h1⟩:=(show ObjOk X.prog X.w H s.heap a (.frz ob (.lst f)) from I.hok a _ ea);exact kg ER I.kIn ⟨_,h1,rfl⟩ e (λ z=>nomatch z) h
 | @tup a f ea =>
  cases(show u=iM a from d)
  obtain⟨_,_,_,p⟩:=(show ObjOk X.prog X.w H s.heap a (.tup f) from I.hok a _ ea);obtain⟨o,h1,g,_⟩:=p;exact kg PySem.W.kitx_tuple I.kIn ⟨o,h1,g⟩ e (λ z=>nomatch z) h
 | @dK a kvs ea =>
  cases(show u=iM a from d)
  obtain⟨_,_,D,_,p⟩:=(show ObjOk X.prog X.w H s.heap a (.dK kvs) from I.hok a _ ea);obtain⟨o,l,r,h1,g,_⟩:=p;exact kg ES I.kIn ⟨o,h1,g.1⟩ e (λ z=>nomatch z) h
 | @dT a kvs ea =>
  cases(show u=iM a from d)
  obtain⟨_,_,f,_,o,l,r,h1,g,_⟩:=(show ObjOk X.prog X.w H s.heap a (.dT kvs) from I.hok a _ ea);exact kg ES I.kIn ⟨o,h1,g.1⟩ e (λ z=>nomatch z) h
 | @ins a C dx fs ea cl ha hn htk hm =>
  cases(show u=iM a from d)
  obtain⟨v,O,_⟩:=kQB I.hok ea;obtain⟨B,J,_⟩:=O.look;exact kg (PySem.W.kitx_own (cl.get _) cl.hd ha hn htk hm) I.kIn J e (λ z=>nomatch z) h
end
structure Room(k:Nat)(A:fb):Prop where
 hd:A.handled=none
 dp:A.depth+3*k+5<recursionLimit
 un:A.units+16*k+200<cLine
 gd:A.guards=some []
def Room.mono{j k:Nat}{A:fb}(r:Room k A)(h:j<=k):Room j A:=⟨r.hd,by have:=r.dp;omega,by have:=r.un;omega,r.gd⟩
theorem Room.deeper{k:Nat}{A:fb}(r:Room (k+1) A)(env:Env):Room k (A.deeper env) :=
 ⟨r.hd,by have:=r.dp;show A.depth+1+3*k+5<_;omega,by have:=r.un;show A.units+3+16*k+200<_;omega,r.gd⟩
theorem Room.depth{k:Nat}{A:fb}(r:Room k A):A.depth<recursionLimit:=by have:=r.dp;omega
theorem Room.units{k:Nat}{A:fb}(r:Room k A):A.units+64<cLine:=by have:=r.un;omega
def kCT:TA:=λ _ H Q=>Q [] H
def aR(g:TE)(c:TA):TA:=λ a H Q=>g a H λ x d=>c a d λ f b=>Q (x::f) b
section
variable {X:Cx} {e:iC} {es:List iC} {te:TE} {t:TA} {pos:Pos}
def kU:PA X [] kCT:=λ _ _ _ _ H Q I h=>CI ⟨[],H,I,.nil,h⟩
def kE(l:PE X e te)(o:PA X es t)(v:starEach (e::es) X.env=(false,eval e X.env)::starEach es X.env:=by rfl):PA X (e::es) (aR te t):=by
 intro b a s c H Q I h;rw[v];show cx _ _ (spliced ((false,eval e X.env)::backTo b (starEach es X.env))) _ _ s;refine AI (thn (l a s c H _ I h) λ u g ⟨x,f,y,d,n⟩=>?_);exact thn (o b a g c f _ y n) λ B A ⟨q,i,m,r,p⟩=>⟨x::q,i,m,.cons d r,p⟩
inductive kQM(Q:VK)(xs:List V)(H1:Hp):Prop
 | mk:(xs.length<=sizeLine)->(∀ p,H1 p=none->Q (.ref p) (upd H1 p (.tup xs)))->kQM Q xs H1
def kVS(t:TA):TE:=λ c H Q=>t c H λ b a=>kQM Q b a
inductive kQP(Q:VK)(xs:List V)(H1:Hp):Prop
 | mk:(xs.length<=sizeLine)->(∀ p,H1 p=none->Q (.ref p) (upd H1 p (.lst xs)))->kQP Q xs H1
def kVY(t:TA):TE:=λ c H Q=>t c H λ b a=>kQP Q b a
def jJ {x1} (h:PA X es t):PE X (.Tuple es x1 pos) (kVS t):=by
 intro a s n H Q I i;refine wpAny_Tuple_spliced (thn (h pos a s n H _ I i) λ l c ⟨m,f,d,r,z,q⟩=>⟨by rw[<-r.length];exact z,?_⟩);have g:f c.heap.objs.size=none:=d.hok.fresh (bg _);refine⟨.ref c.heap.objs.size,upd f c.heap.objs.size (.tup m),d.laid (t':=c.toks) (λ b u e=>ar _ e) (bg _) ?_,rfl,q _ g⟩;exact⟨z,l,r,⟨_,cg _ rfl,rfl,_,rfl,rfl⟩⟩
def jQ(h:PA X es t):PE X (.List es pos) (kVY t):=by
 intro a s n H Q I i;refine wpAny_List_spliced (thn (h pos a s n H _ I i) λ l c ⟨m,f,d,r,z,q⟩=>⟨by rw[<-r.length];exact z,?_⟩);have g:f c.heap.objs.size=none:=d.hok.fresh (bg _);refine⟨.ref c.heap.objs.size,upd f c.heap.objs.size (.lst m),d.laid (t':=c.toks) (λ b u e=>ar _ e) (bg _) ?_,rfl,q _ g⟩;exact⟨z,l,0,r,cg _ rfl⟩
end
abbrev Sp:=List V->Hp->VK->XK->Prop
abbrev CXT:=List Env->Hp->av->XK->ao->av->Prop
structure Env0(P:eU)(w:gk)(K:bb)(mg:Str->Option ao)(base:iD)(A:fb)(outer:List Env)(s:av)(H:Hp):Prop where
 frames:A.frames=some outer
 mod:Mod K mg base
 bs:∀ b o,base.get? b=some o->s.heap.get? b=some o/\H b=none
 bsz:base.objs.size<=s.heap.objs.size
 funs:s.heap.FunFrames base outer
 frf:∀ b∈frs outer,H b=none
 hok:HOk P w H s.heap
 bare:CH s.gens
def CE(outer:List Env)(P:eU)(w:gk)(H:Hp)(s:av)(Q:VK)(u:ao)(a:av):Prop :=
 ∃ v b,a.os=s.os/\CH a.gens/\Un (frs outer) [] H b s.heap a.heap/\HOk P w b a.heap/\RelV v u/\Q v b
def CR(CX:CXT)(outer:List Env)(P:eU)(w:gk)(H:Hp)(s:av)(Q:VK)(E:XK)(r:Ew)(a:av):Prop :=
 match r with
 | .ok (.ret u)=>CE outer P w H s Q u a
 | .ok _=>False
 | .error e=>CX outer H s E e a
structure FnOk(P:eU)(w:gk)(K:bb)(mg:Str->Option ao)(base:iD)(CX:CXT)(k:Nat)(f:ay)(fd:ur)(ps:List Str)(sp:Sp):Prop where
 len:∀ vs H Q E,sp vs H Q E->vs.length=ps.length
 run:∀(A:fb)(outer:List Env)(s:av)(H:Hp)(args:Args)(us:List ao)(vs:List V)(Q:VK)(E:XK),Room k A->Env0 P w K mg base A outer s H->ET s fd args (ps.zip us)->Vals vs us->sp vs H Q E ->
  codeAny (model P w) A (.call (.ref f) args) (CR CX outer P w H s Q E) s
section
variable {X:Cx} {pins:List (ay×Obj)} {σ:St} {H:Hp} {s s':av}
def Inv.env0(I:Inv X pins σ H s):Env0 X.prog X.w X.K X.mg X.base X.A X.stack s H :=
 ⟨I.ok.frames,I.ok.mod,I.bs,fz I.ok.bsz I.sz,I.stack,I.stkFree,I.hok,I.bare⟩
def Inv.after{Q:VK}{u:ao}(I:Inv X pins σ H s)(h:CE X.stack X.prog X.w H s Q u s'):EP X pins σ Q u s':=by
 obtain⟨v,l,os,a,un,c,r,q⟩:=h;obtain⟨i,g,d,t,f⟩:=s';obtain rfl:f=s.os:=os;exact⟨v,l,I.call (h':=i) (g':=g) (d':=d) (t':=t) (ch:=[]) un c a (λ b z=>absurd z (by simp)),r,q⟩
end
def kFD(sp:Sp)(a:List V)(E:XK)(t:TA):TE:=λ d H Q=>t d H λ c b=>sp (c++a) b Q E
def Binds(K:bb)(d:ur)(c:List Str)(b:List ao):Prop :=
 ∀(s:av)(a:List ao),K.In s.heap->(a++b).length=c.length->ET s d ⟨a,[]⟩ (c.zip (a++b))
def Binds.all{K:bb}{c:ur}{a:List Str}(h:∀ us:List ao,us.length=a.length->bindArgs c ⟨us,[]⟩=pure (a.zip us)):Binds K c a []:=λ s us _ b=>by
 rw[iY]at b ⊢;exact .of_eq (h us b)
def kER(CX:CXT)(X:Cx)(E:XK):Prop:=∀(pins:List (ay×Obj))(σ:St)(H:Hp)(s:av)(e:ao)(s':av),Inv X pins σ H s->CX X.stack H s E e s'->X.xe e s'
section
variable {X:Cx} {CX:CXT} {k:Nat} {f C:ay} {fd:ur} {ps:List Str} {sp:Sp} {dvs:List V} {ds:List ao} {E:XK} {x m:Str} {p pos apos:Pos} {e o:iC} {es:List iC} {ta:TE} {t:TA}
def kRX{a:List (ay×Obj)}{g:St}{H:Hp}{s:av}{Q:VK}{b:List ao}{d:List V}(F:FnOk X.prog X.w X.K X.mg X.base CX k f fd ps sp)(l:Room k X.A)(q:Binds X.K fd ps ds)(p:Vals dvs ds)(n:kER CX X E)
  (I:Inv X a g H s) (r:Vals d b) (h:sp (d++dvs) H Q E):cx (model X.prog X.w) X.A (call (.ref f) b) (EP X a g Q) X.xe s:=by
 have i:Vals (d++dvs) (b++ds):=r.append p;have m:(b++ds).length=ps.length:=by rw[<-i.length];exact F.len _ _ _ _ h
 refine Cq (qz (F.run X.A X.stack s H ⟨b,[]⟩ (b++ds) (d++dvs) Q E l I.env0 (q s b I.kIn m) i h) λ r o c=>?_)
 cases r with
 | error e=>exact n a g H s e o I c
 | ok fl =>
  cases fl with
  | ret u=>exact I.after c
  | next=>exact xk c
  | brk=>exact xk c
  | cont=>exact xk c
def kPJ(F:FnOk X.prog X.w X.K X.mg X.base CX k f fd ps sp)(o:Room k X.A)(v:Gl X x)(i:X.mg x=some (.ref f))(g:Aa X.K (.ref f)=true)(B:Binds X.K fd ps ds)(y:Vals dvs ds)(u:kER CX X E)
  (l:PA X (e::es) t) (b:(x == ("__debug__" : Str))=false:=by decide) (n:starEach (e::es) X.env=(false,eval e X.env)::starEach es X.env:=by rfl) (c:(backTo pos (starEach es X.env)).any (·.1)=false:=by rfl) :
  PE X (.Call (.Name x p) (e::es) [] pos) (kFD sp dvs E t):=by
 intro a s m H Q I h;refine Bh (kGO I v i ?_ b);refine PySem.W.callWith_K (h₀:=X.base) I.ok.mod.kin g (thn (l pos a s m H _ I h) λ G D ⟨J,C,d,r,q⟩=>⟨d.kIn,?_⟩) n c;exact kRX F o B y u d r q
end
section
variable {X:Cx} {CX:CXT} {k:Nat} {f C:ay} {fd:ur} {ps ks:List Str} {sp:Sp} {E:XK} {x m:Str} {p pos apos kpos:Pos} {e o:iC} {es:List iC} {kws:List CJ} {te ta:TE} {t tk:TA} {nm:Option Str}
variable {g:List ao->List ao->List ao} {gV:List V->List V->List V}
end
structure FnScope(N P:List Str)(sc:wq):Prop where
 kind:sc.kind=.function
 co:sc.isCoroutine=false
 gen:sc.isGenerator=false
 nd:N.Nodup
 pre:N.take P.length=P
 par:∀ x∈P,sc.names.lookup x=some .local\/sc.names.lookup x=some .cell
 nofree:∀ y∈sc.names,y.2≠.free
theorem pO{kindOf:Str->Option uu}{x:Str}:∀{binds:List (Str×ao)}{m:Str->Option ao},(∀ v,(x,v)∉binds)->bindL kindOf binds m x=m x
 | [],_,_=>rfl
 | (n,v)::r,m,h=>by
  unfold bindL;rw[pO λ w a=>h w (dq _ a)]
  split
  ·have:x≠n:=by rintro rfl;exact h v eV
   simp[this]
  ·rfl
theorem pQ{kindOf:Str->Option uu}{x:Str}:∀{binds:List (Str×ao)}{m:Str->Option ao},(∀ v,(x,v)∉binds)->bindC kindOf binds m x=m x
 | [],_,_=>rfl
 | (n,v)::r,m,h=>by
  unfold bindC;rw[pQ λ w a=>h w (dq _ a)]
  split
  ·rfl
  ·have:x≠n:=by rintro rfl;exact h v eV
   simp[this]
theorem pP{kindOf:Str->Option uu}{x:Str}{v:ao}:∀{P:List Str}{a:List ao}{i:Nat}{m:Str->Option ao},P.Nodup->P[i]?=some x->a[i]?=some v->kindOf x=some .local ->
  bindL kindOf (P.zip a) m x=some v
 | [],_,_,_,_,h,_,_=>by simp at h
 | _::_,[],_,_,_,_,h,_=>by simp at h
 | p::P,w::a,0,m,nd,h1,h2,hk=>by
  simp at h1 h2;subst h1;subst h2;show bindL kindOf ((p,w)::P.zip a) m p=_;unfold bindL;rw[pO λ v b=>(eK.mp nd).1 (Bi b).1,if_pos hk];simp
 | p::P,w::a,i+1,m,nd,h1,h2,hk=>by
  show bindL kindOf ((p,w)::P.zip a) m x=_;unfold bindL;exact pP (i:=i) (eK.mp nd).2 (by simpa using h1) (by simpa using h2) hk
theorem pR{kindOf:Str->Option uu}{x:Str}{v:ao}:∀{P:List Str}{a:List ao}{i:Nat}{m:Str->Option ao},P.Nodup->P[i]?=some x->a[i]?=some v->kindOf x≠some .local ->
  bindC kindOf (P.zip a) m x=some v
 | [],_,_,_,_,h,_,_=>by simp at h
 | _::_,[],_,_,_,_,h,_=>by simp at h
 | p::P,w::a,0,m,nd,h1,h2,hk=>by
  simp at h1 h2;subst h1;subst h2;show bindC kindOf ((p,w)::P.zip a) m p=_;unfold bindC;rw[pQ λ v b=>(eK.mp nd).1 (Bi b).1,if_neg hk];simp
 | p::P,w::a,i+1,m,nd,h1,h2,hk=>by
  show bindC kindOf ((p,w)::P.zip a) m x=_;unfold bindC;exact pR (i:=i) (eK.mp nd).2 (by simpa using h1) (by simpa using h2) hk
def start(N:List Str)(a:List V):St:=a.map some++eQ (N.length-a.length) none
def qQ(CX:CXT)(P:eU)(w:gk)(K:bb)(mg:Str->Option ao)(base:iD)(N:List Str)(b:Str)(a:wq)(f:ay)(d:ao)(A:fb)(outer:List Env)(s:av)(H:Hp)(E:XK):Cx where
 prog:=P
 w:=w
 K:=K
 mg:=mg
 base:=base
 A:=A.deeper (envOfC b a s.heap.objs.size f d)
 N:=N
 s₀:=s
 H₀:=H
 env:=envOfC b a s.heap.objs.size f d
 outer:=outer
 stack:=envOfC b a s.heap.objs.size f d::outer
 ex:=[]
 calm:=true
 fn:=λ _=>true
 pn:=[]
 xe:=λ e h=>cx (model P w) (A.deeper (envOfC b a s.heap.objs.size f d)) (leaving (envOfC b a s.heap.objs.size f d) e) (λ _ c=>CX outer H s E e c) (λ g c=>CX outer H s E g c) h
def kCE{a:wq}{n:Nat}{x:Str}(h:a.names.lookup x=some .cell):∃ c,(cellsFrom n a.names []).lookup x=some c:=by
 have q:=Cr a.names n [] (.inl h);exact zh.mp q
def kJE{CX:CXT}{P:eU}{w:gk}{K:bb}{mg:Str->Option ao}{base:iD}{N B:List Str}{g:Str}{d:wq}{f:ay}{J:ao}{A:fb}{outer:List Env}{s M:av}{H:Hp}{E:XK}{L:List ao}{C:List V}
  (S:FnScope N B d) (Y:A.handled=none) (m:Env0 P w K mg base A outer s H) (Z:C.length=B.length) (r:Vals C L)
  (x:InCallC s s.heap.objs.size (bindL (envOfC g d s.heap.objs.size f J).kindOf (B.zip L) λ _=>none) (cellsFrom (s.heap.objs.size+1) d.names []) (bindC (envOfC g d s.heap.objs.size f J).kindOf (B.zip L) λ _=>none) M) :
  Inv (qQ CX P w K mg base N g d f J A outer s H E) [] (start N C) H M:=by
 have X:B.length<=N.length:=by have:=congrArg iV S.pre;rw[eJ]at this;omega
 obtain⟨h1,tk,rfl,O⟩:=x.done;have D:∀ b:ay,b∉(qQ CX P w K mg base N g d f J A outer s H E).ex:=λ b z=>absurd (show b∈([]:List ay) from z) (by simp)
 refine⟨⟨m.mod,S.kind,rfl,rfl,bg _,λ y z c h1 l=>?_,λ y o=>?_,λ y c _ h=>?_,λ _=>Y,Around.frames_deeper m.frames,.inr ⟨rfl,rfl⟩,λ b z=>absurd z (D b),m.bs,m.bsz,λ b _ _=>D b,λ b z=>absurd z (D b),m.funs,m.frf⟩,
  rfl,m.bare,Un.kept O,⟨_,x.toInCall.ns,λ i y v h1 l h3=>?_⟩,λ y c h=>⟨_,x.cell y c h⟩,m.hok.fresh (bg _),λ y c h=>?_,λ p hp=>absurd (show p∈([]:List (ay×Obj)) from hp) (by simp),m.hok.kept O,?_⟩
 ·exact name_of_addr x.apart (ko h1) (ko l)
 ·have o:d.names.lookup y=some .cell\/d.names.lookup y=some .free:=o
  rcases o with o | o
  ·exact kCE o
  ·exact absurd rfl (S.nofree _ (ko o))
 ·exact kl (x.above y c (ko h))
 ·have I:i<C.length:=by
   unfold start at l;by_cases I:i<C.length
   ·exact I
   ·rw[ck (by simpa using I)]at l
    rw[List.getElem?_replicate]at l
    split at l<;>cases l
  have T:C[i]?=some v:=by
   unfold start at l;rw[cm (by simpa using I),bh]at l
   cases e:C[i]? with
   | none=>rw[e]at l;cases l
   | some a=>rw[e]at l;cases l;rfl
  obtain⟨u,Q,U⟩:=r.get T
  have hp:B[i]?=some y:=by
   rw[<-S.pre,rh (by omega)];exact h1
  have G:B.Nodup:=by rw[<-S.pre];exact S.nd.sublist (List.take_sublist _ _)
  refine⟨u,U,?_⟩;rcases S.par y (eA hp) with k | k
  ·exact .inl ⟨k,pP G hp Q k⟩
  ·obtain⟨c,e⟩:=kCE (n:=s.heap.objs.size+1) k
   refine .inr ⟨.inl k,c,e,?_⟩;have q:=x.cell y c e;rw[pR G hp Q (by show d.names.lookup y≠_;rw[k];decide)]at q;exact q
 ·exact m.hok.fresh (kl (x.above y c (ko h)))
 ·unfold start
  show _=N.length;rw[cq,aj,km];omega
def kVF{CX:CXT}{P:eU}{w:gk}{K:bb}{mg:Str->Option ao}{base:iD}{k:Nat}{f:ay}{name c:Str}{g:Arguments}{body:List lh}{a:wq}{dV kV B pm d ct oc:ao}{an od:Option ay}
  {M:Array (Option ao)} {N L:List Str} {sp:Sp} (lk:K.lookup f=some ⟨oc,od,.func (vt name c g body a dV kV B pm an d ct),M⟩) (T:Bj K d c=true) (S:FnScope N L a)
  (len:∀ i H Q E,sp i H Q E->i.length=L.length)
  (l:∀(A:fb)(outer:List Env)(s:av)(H:Hp)(i:List V)(Q:VK)(E:XK),Room k (A.deeper (envOfC c a s.heap.objs.size f d))->sp i H Q E ->
   ∃ t,PSs (qQ CX P w K mg base N c a f d A outer s H E) body t/\t {nx:=λ _ H'=>Q .non H',rt:=Q} (start N i) H) :
  FnOk P w K mg base CX (k+1) f (vt name c g body a dV kV B pm an d ct) L sp:=by
 refine⟨len,λ A outer s H a0 us i Q E Y D hb r G=>?_⟩;have hl:=len _ _ _ _ G;have KX:K.In s.heap:=D.mod.kin.keeps λ b o e=>(D.bs b o e).1;have O:s.heap.NoLimit:=D.mod.nolimit.keeps λ b o e=>(D.bs b o e).1
 have m:∀ y∈L.zip us,a.names.lookup y.1=some .local\/(a.names.lookup y.1=some .cell/\((cellsFrom (s.heap.objs.size+1) a.names []).lookup y.1).isSome=true):=λ⟨n,v⟩ hy=>by
  rcases S.par n (Bi hy).1 with q | q
  ·exact .inl q
  ·exact .inr ⟨q,Cr _ _ _ (.inl q)⟩
 refine codeAny_call_function Y.depth (KX _ _ lk) rfl S.co S.gen rfl (PySem.W.codeRec_of KX T) (hb _ _ _ _ ?_);refine wpAny_newFunctionEnv_cells S.kind m λ a1 he Z x=>?_;subst he;refine⟨O.keeps x.toInCall.keep,codeAny_func ?_⟩;obtain⟨t,ht,hq⟩:=l A outer s H i Q E (Y.deeper _) G;have I:Inv (qQ CX P w K mg base N c a f d A outer s H E) [] (start N i) H Z:=kJE S Y.hd D hl r x;refine xj (ht [] Z (start N i) H _ I hq) (λ fl X p=>?_) λ e X p=>p
 have C:∀{h:St}{H':Hp}{v:V}{u:ao},Inv (qQ CX P w K mg base N c a f d A outer s H E) [] h H' X->RelV v u->Q v H'->CE outer P w H s Q u X :=
  λ{h H' v u} J U q=>⟨v,H',J.os,J.bare,J.base,J.hok,U,q⟩
 cases fl with
 | ret u =>
  obtain⟨v,h,H',J,U,q⟩:=p;exact C J U q
 | next =>
  obtain⟨h,H',J,q⟩:=p;exact C (v:=V.non) (u:=xh) J rfl q
 | brk =>
  obtain⟨_,_,_,q⟩:=p;exact xk q
 | cont =>
  obtain⟨_,_,_,q⟩:=p;exact xk q
section
variable {X:Cx} {x:Str} {p pos:Pos} {e:iC} {es:List iC} {t:TA} {id T:String} {r:List V->Hp->VK->Prop}
def tCB(r:List V->Hp->VK->Prop)(t:TA):TE:=λ c H Q=>t c H λ b a=>r b a Q
def kM(f:xR X (.builtin id) r)(A:Gl X x)(m:X.mg x=none)(B:bootBuiltins x=some (.builtin id))(n:PA X (e::es) t)(C:x≠"__name__":=by decide)(b:(x == ("__debug__" : Str))=false:=by decide)
  (v:starEach (e::es) X.env=(false,eval e X.env)::starEach es X.env:=by rfl) (c:(backTo pos (starEach es X.env)).any (·.1)=false:=by rfl):PE X (.Call (.Name x p) (e::es) [] pos) (tCB r t):=by
 intro a s d H Q I h;refine Bh (yB I A m B ?_ C b);exact Ex (thn (n pos a s d H _ I h) λ o l ⟨q,i,y,g,u⟩=>f a l d i q o Q y g u) v c
def jC(f:xR X (.type T) r)(A:Gl X x)(m:X.mg x=none)(B:bootBuiltins x=some (.type T))(n:PA X (e::es) t)(C:x≠"__name__":=by decide)(b:(x == ("__debug__" : Str))=false:=by decide)
  (v:starEach (e::es) X.env=(false,eval e X.env)::starEach es X.env:=by rfl) (c:(backTo pos (starEach es X.env)).any (·.1)=false:=by rfl):PE X (.Call (.Name x p) (e::es) [] pos) (tCB r t):=by
 intro a s d H Q I h;refine Bh (yB I A m B ?_ C b);exact fu (thn (n pos a s d H _ I h) λ o l ⟨q,i,y,g,u⟩=>f a l d i q o Q y g u) v c
end
end L2
namespace HT
open PySem PyProof.Rows
section
open PySem.SeqAt
open PySem.AutoSeq1 (wpAny_loadPart')
open PySem.MeetsSeq PySem.MeetsSeq2 PySem.MeetsSeq3
end
section
variable {prog:eU} {w:gk} {A:fb} {E:ao->av->Prop} {s:av}
def cat_tup{t b:ay}{d a:List ao}{Q:ao->av->Prop}(B:FZ s.heap t d.toArray)(C:FZ s.heap b a.toArray)(v:d≠[])
  (h1:a=[]->Q (.ref t) s) (y:a≠[]->Q (.ref s.heap.objs.size) {s with heap:=s.heap.push {cls:=.type "tuple",data:=.seq (d++a).toArray}})
  (hsz:d.length+a.length<=sizeLine):cx (model prog w) A (binaryOp .Add (.ref t) (.ref b)) Q E s:=by
 obtain⟨⟨cls,r,data,p⟩,l,o,n,x⟩:=id B;obtain⟨⟨q,f,data2,i⟩,c,g,u,h⟩:=id C;simp only at o x g h;subst o x g h;have e:d.toArray++a.toArray=(d++a).toArray:=by simp
 by_cases m:a=[]
 ·exact EU ⟨_,l,rfl⟩ ⟨_,c,rfl⟩ Cd Dr Ab AQ (zi _ _)
   (tuple_addW1 t b d.toArray a.toArray n u r f p i (by simpa using v) (by simp[m])) ⟨l,c,h1 m⟩
 ·refine EU ⟨_,l,rfl⟩ ⟨_,c,rfl⟩ Cd Dr Ab AQ (zi _ _)
   (tuple_addW2 t b d.toArray a.toArray n u r f p i (by simpa using v) (by simpa using m) (by rw[eR,eR];exact hsz)) ⟨l,c,?_⟩
  rw[e];exact y m
def sIx(n d:Nat):Option Int->Nat
 | none=>d
 | some v=>if v<0 then(v+(n:Int)).toNat else min v.toNat n
def sIx_none(n d:Nat):sIx n d none=d:=rfl
def sIx_nat(n d k:Nat):sIx n d (some (k:Int))=min k n:=by
 show(if(k:Int)<0 then((k:Int)+(n:Int)).toNat else min (k:Int).toNat n)=min k n;rw[if_neg (by omega),iI]
def kRW(n d:Nat)(b:d<=n)(o:Option Int):sIx n d o<=n:=by
 cases o with
 | none=>exact b
 | some v =>
  show(if v<0 then(v+(n:Int)).toNat else min v.toNat n)<=n;by_cases a:v<0
  ·rw[if_pos a];omega
  ·rw[if_neg a];exact Nat.min_le_right _ _
def kHE(v:Int)(n d:Nat):(if v<0 then max (v+(n:Int)) 0 else min v (n:Int))=((sIx n d (some v):Nat):Int):=by
 show(if v<0 then max (v+(n:Int)) 0 else min v (n:Int))=(((if v<0 then(v+(n:Int)).toNat else min v.toNat n):Nat):Int);by_cases a:v<0
 ·simp only[if_pos a];omega
 ·simp only[if_neg a];omega
def kEQ(lo hi:Option Int)(n:Nat):yz lo hi 1 (n:Int)=(((sIx n 0 lo:Nat):Int),((sIx n n hi:Nat):Int)):=by
 have h1:¬ ((1:Int)<0):=by omega
 unfold yz;simp only[h1,if_false];refine rm ?_ ?_
 ·cases lo with
  | none=>rfl
  | some v=>exact kHE v n 0
 ·cases hi with
  | none=>rfl
  | some v=>exact kHE v n n
def kDL(i j:Nat):ve (i:Int) (j:Int) 1=j-i:=by
 unfold ve;have h1:(1:Int)>0:=by omega
 simp only[h1,if_true,Int.ediv_one]
 split<;>omega
def fX{v:ao}{o:Option Int}{Q:Option Int->av->Prop}(p:Cs v o)(h:Q o s):cx (model prog w) A (FO v) Q E s:=by
 cases p with
 | none=>exact Fj h
 | int i t=>exact slicePart_int h
def sliceApplied_gen{f:ay}{c d:ao}{lo hi:Option Int}{n:Nat}{Q:Int×Int×Nat->av->Prop}(g:s.heap.IsSliceOf f c d .none)(l:Cs c lo)(m:Cs d hi)
  (h:Q (((sIx n 0 lo:Nat):Int),1,sIx n n hi-sIx n 0 lo) s):cx (model prog w) A (Bk (.ref f) (pure (n:Int))) Q E s:=by
 obtain⟨os,b,i,a⟩:=id g;unfold Bk GS;refine ae (ae (iJ b a (x:=c) rfl (ae (iJ b a (x:=d) rfl (ae (iJ b a (x:=.none) rfl (az ?_)))))));refine ae (Fj ?_);show cx _ _ (if((1:Int) == 0)=true then _ else _) _ _ s;rw[if_neg (by decide)];refine ae (fX l (ae (fX m (ae (az ?_)))));show cx _ _ (match yz lo hi 1 (n:Int) with | (lo,hi)=>pure (lo,(1:Int),ve lo hi 1)) _ _ s
 rw[kEQ lo hi n];show cx _ _ (pure (((sIx n 0 lo:Nat):Int),(1:Int),ve ((sIx n 0 lo:Nat):Int) ((sIx n n hi:Nat):Int) 1)) _ _ s;rw[kDL];exact az h
def kMF(xs:Array ao)(i k:Nat):((cz k).filterMap λ(m:Nat)=>xs[((i:Int)+(m:Int)*1).toNat]?).toArray=((xs.toList.drop i).take k).toArray:=by
 have e:(λ(m:Nat)=>xs[((i:Int)+(m:Int)*1).toNat]?)=λ m=>xs[i+m]?:=by
  funext m
  have:((i:Int)+(m:Int)*1).toNat=i+m:=by omega
  rw[this]
 rw[e];have:=pick_run xs i k;rw[List.filterMap_map]at this;have a:((λ x=>xs[x]?)∘λ x=>i+x)=λ m=>xs[i+m]?:=rfl;rw[a]at this;rw[this]
def getItem_tuple_cut{t i:ay}{items:Array ao}{o n:ao}{lo hi:Option Int}{Q:ao->av->Prop}(b:FZ s.heap t items)(l:s.heap.IsSliceOf i o n .none)(r:Cs o lo)(v:Cs n hi)
  (p:¬ (sIx items.size 0 lo=0/\sIx items.size items.size hi=items.size))
  (h:Q (.ref s.heap.objs.size) {s with heap:=s.heap.push {cls:=.type "tuple",data:=.seq ((items.toList.drop (sIx items.size 0 lo)).take (sIx items.size items.size hi-sIx items.size 0 lo)).toArray}})
  (hsz:items.size<=sizeLine):cx (model prog w) A (getItem (.ref t) (.ref i)) Q E s:=by
 have a:sizeOk (.seq ((items.toList.drop (sIx items.size 0 lo)).take (sIx items.size items.size hi-sIx items.size 0 lo)).toArray):=by
  show((items.toList.drop (sIx items.size 0 lo)).take (sIx items.size items.size hi-sIx items.size 0 lo)).toArray.size<=sizeLine;rw[eR,eJ,iN,fw];omega
 have x:sIx items.size items.size hi<=items.size:=kRW _ _ (bg _) hi;obtain⟨os,g,d,u⟩:=id l;have c:s.TypeIs (.ref i) "slice":=⟨os,g,d⟩;unfold getItem
 try with_reducible refine fq ?_
 first | refine ae (az ?_) | skip
 refine ae (EV b.typeIs (by decide) ?_)
 refine ae (iO (name:=gw "__getitem__") b.typeIs iz
  (je iz b.typeIs Dl ?_ (EA _ _)))
 show cx _ _ (Bl (.ref t) >>= _) _ _ s;refine ae (tupleItemsOf_ b ?_);refine ae (jz c ?_);rw[if_pos (by decide)];refine ae (sliceApplied_gen l r v ?_)
 have f:¬ ((((sIx items.size 0 lo:Nat):Int) == 0 && (1:Int) == 1 && (sIx items.size items.size hi-sIx items.size 0 lo) == items.size)=true):=by
  intro q;rw[iP,iP]at q;have B:((sIx items.size 0 lo:Nat):Int)=0:=eq_of_beq q.1.1;have y:sIx items.size items.size hi-sIx items.size 0 lo=items.size:=eq_of_beq q.2;exact p ⟨by omega,by omega⟩
 show cx _ _ (if(((sIx items.size 0 lo:Nat):Int) == 0 && (1:Int) == 1 && (sIx items.size items.size hi-sIx items.size 0 lo) == items.size)=true then _ else _) _ _ s;rw[if_neg f,kMF]
 first
  | exact ae (m:=me _) (iQ (az ⟨_,rfl,az h⟩) a)
  | exact ae (m:=me _) (iQ (ae (az (az ⟨_,rfl,az h⟩))) a)
  | exact ae (ae (m:=me _) (iQ (az (az ⟨_,rfl,az h⟩)) a))
  | exact ae (ae (m:=me _) (iQ (az ⟨_,rfl,az h⟩) a))
end
end HT
namespace L2
open PySem PySem.Spec PyProof.Rows
abbrev TO:=St->Hp->(Option Int->Hp->Prop)->Prop
def PO(X:Cx)(e:Option iC)(t:TO):Prop :=
 ∀(pins:List (ay×Obj))(s:av)(σ:St)(H:Hp)(Q:Option Int->Hp->Prop),Inv X pins σ H s->t σ H Q ->
  cx (model X.prog X.w) X.A (evalPart e X.env) (λ u b=>∃ o a,Inv X pins σ a b/\Cs u o/\Q o a) X.xe s
def kON:TO:=λ _ H Q=>Q none H
inductive kKT(Q:Option Int->Hp->Prop)(x:V)(H1:Hp):Prop
 | mk:∀ i,(x=.int i)->(Q (some i) H1)->kKT Q x H1
def kUB(t:TE):TO:=λ b H Q=>t b H λ x a=>kKT Q x a
section
variable {X:Cx} {e:iC} {te:TE} {lo hi:Option iC} {tl th:TO} {pos p2:Pos}
def jE:PO X none kON:=by
 intro a s b H Q I h;rw[evalPart_none];exact az ⟨none,H,I,.none,h⟩
def qH(h:PE X e te):PO X (some e) (kUB te):=by
 intro a s l H Q I b;rw[evalPart_some];refine thn (h a s l H _ I b) λ u m ⟨x,f,d,c,g⟩=>?_;obtain⟨i,rfl,q⟩:=g;obtain⟨t,rfl⟩:=c;exact⟨some i,f,d,.int i t,q⟩
def SlR(X:Cx)(r:V->Option Int->Option Int->Hp->VK->Prop):Prop :=
 ∀(pins:List (ay×Obj))(s:av)(σ:St)(H:Hp)(x:V)(v vl vu:ao)(lo hi:Option Int)(sl:ay)(Q:VK),Inv X pins σ H s->RelV x v->s.heap.IsSliceOf sl vl vu .none->Cs vl lo->Cs vu hi->r x lo hi H Q ->
  ∃ T id,typeLookup (.type T) "__getitem__" = pure (some (.builtin id))/\s.TypeIs v T/\cx (model X.prog X.w) X.A (getItem v (.ref sl)) (EP X pins σ Q) X.xe s
def SlR.or{r n:V->Option Int->Option Int->Hp->VK->Prop}(h:SlR X r)(h':SlR X n):SlR X (λ x lo hi H Q=>r x lo hi H Q\/n x lo hi H Q):=by
 intro a s g H x v i c lo hi m Q I f b d l q;rcases q with q | q
 ·exact h a s g H x v i c lo hi m Q I f b d l q
 ·exact h' a s g H x v i c lo hi m Q I f b d l q
def tSl(r:V->Option Int->Option Int->Hp->VK->Prop)(h:TE)(f d:TO):TE:=λ a H Q=>h a H λ x g=>f a g λ l b=>d a b λ u c=>r x l u c Q
def qG{r:V->Option Int->Option Int->Hp->VK->Prop}(L:SlR X r)(G:PE X e te)(M:PO X lo tl)(U:PO X hi th):PE X (.Subscript e (.Slice lo hi none p2) pos) (tSl r te tl th):=by
 intro a s d H Q I h;refine Fk (thn (G a s d H _ I h) λ v p ⟨x,n,Z,m,D⟩=>?_);refine wpAny_Slice (thn (M a p d n _ Z D) λ f y ⟨l,B,C,N,S⟩=>thn (U a y d B _ C S) λ g c ⟨u,i,I3,J,O⟩=>?_);rw[evalPart_none];refine az ?_;have Y:Inv X a d i {c with heap:=c.heap.push {cls:=.type "slice",data:=.fields #[f,g,.none]}}:=I3.kept (t':=c.toks) λ b ob q=>ar _ q
 obtain⟨T,id,o,ht,hg⟩:=L a {c with heap:=c.heap.push {cls:=.type "slice",data:=.fields #[f,g,.none]}} d i x v f g l u c.heap.objs.size Q Y m (HU ..) N J O
 show cx (model X.prog X.w) X.A (subscriptTail e (.Slice lo hi none p2) v (.ref c.heap.objs.size)) (EP X a d Q) X.xe {c with heap:=c.heap.push {cls:=.type "slice",data:=.fields #[f,g,.none]}}
 exact tail_any (ops:=[.ref c.heap.objs.size,v]) ht o hg (by with_unfolding_all rfl)
def xZ(xs:List V)(lo hi:Option Int):List V:=(xs.drop (HT.sIx xs.length 0 lo)).take (HT.sIx xs.length xs.length hi-HT.sIx xs.length 0 lo)
def dJ(xs:List V)(lo hi:Option Int):(xZ xs lo hi).length<=xs.length:=by
 unfold xZ;rw[eJ,iN];omega
inductive kRZ(K:bb)(x:V)(lo:Option Int)(hi:Option Int)(H:Hp)(Q:VK):Prop
 | mk:∀ a xs,(x=.ref a)->(SqT K H a xs)->(¬ (HT.sIx xs.length 0 lo=0/\HT.sIx xs.length xs.length hi=xs.length))->(∀ p,H p=none->Q (.ref p) (upd H p (.tup (xZ xs lo hi))))->kRZ K x lo hi H Q
def sl_tup:SlR X (kRZ X.K):=by
 intro l s D H x v G L lo f C Q I B y u p h;obtain⟨a,d,rfl,A,n,q⟩:=h;cases B
 obtain⟨g,r,m,i⟩:=I.tuple A;have c:g.toArray.size=d.length:=by rw[eR];exact r.length.symm
 refine⟨"tuple",_,iz.lookup,m.typeIs,?_⟩;refine HT.getItem_tuple_cut m y u p (by rw[c];exact n) ?_ (by rw[c];exact i);rw[c];refine⟨.ref s.heap.objs.size,_,I.laid (t':=s.toks) (o:=.tup (xZ d lo f)) (λ b J q=>ar _ q) (bg _) ?_,rfl,q _ (I.hok.fresh (bg _))⟩;exact⟨fz (dJ d lo f) i,_,(r.drop (HT.sIx d.length 0 lo)).take (HT.sIx d.length d.length f-HT.sIx d.length 0 lo),IsTupN.new _ _⟩
inductive kQY(K:bb)(x:V)(y:V)(H:Hp)(Q:VK):Prop
 | mk:∀ a b xs ys,(x=.ref a)->(y=.ref b)->(SqT K H a xs)->(SqT K H b ys)->(xs≠[])->(xs.length+ys.length<=sizeLine)->((ys=[]->Q (.ref a) H))->((ys≠[]->∀ p,H p=none->Q (.ref p) (upd H p (.tup (xs++ys)))))->kQY K x y H Q
def Vals.nil_iff{xs:List V}{a:List ao}(r:Vals xs a):a=[]↔xs=[]:=by
 cases r with
 | nil=>simp
 | cons _ _=>simp
def kGI:OpR X (binaryOp .Add) (kQY X.K):=by
 intro g s J H x y v u Q I D n h;obtain⟨a,b,r,A,rfl,rfl,l,G,B,f,m,p⟩:=h;cases D
 cases n
 obtain⟨C,d,p1,_⟩:=I.tuple l;obtain⟨i,c,p2,_⟩:=I.tuple G;refine HT.cat_tup p1 p2 (λ z=>B (d.nil_iff.mp z)) (λ z=>⟨.ref a,H,I,rfl,m (c.nil_iff.mp z)⟩) (λ z=>?_) (by rw[<-d.length,<-c.length];exact f);refine⟨.ref s.heap.objs.size,_,I.laid (t':=s.toks) (o:=.tup (r++A)) (λ b L q=>ar _ q) (bg _) ?_,rfl,p (λ w=>z (c.nil_iff.mpr w)) _ (I.hok.fresh (bg _))⟩;exact⟨by rw[cq];exact f,_,d.append c,IsTupN.new _ _⟩
end
def ixN(n:Nat)(i:Int):Option Nat:=if 0<=i then(if i<n then some i.toNat else none) else if -(n:Int)<=i then some (i+n).toNat else none
def atI{α:Type}(xs:List α)(i:Int):Option α:=(ixN xs.length i).bind λ j=>xs[j]?
def kGS{n:Nat}{i:Int}{j:Nat}(h:ixN n i=some j):seqIndex? i n=some j/\j<n/\-(n:Int)<=i/\i<n:=by
 unfold ixN at h;by_cases h0:0<=i
 ·rw[if_pos h0]at h
  by_cases h1:i<n
  ·rw[if_pos h1]at h
   have e:i.toNat=j:=cc h;exact⟨by rw[FH h0 h1,e],by omega,by omega,h1⟩
  ·rw[if_neg h1]at h;cases h
 ·rw[if_neg h0]at h
  by_cases h1 : -(n:Int)<=i
  ·rw[if_pos h1]at h
   have e:(i+n).toNat=j:=cc h;exact⟨by rw[EW (by omega) h1,e],by omega,h1,by omega⟩
  ·rw[if_neg h1]at h;cases h
def kHJ{α:Type}{xs:List α}{i:Int}{v:α}(h:atI xs i=some v):∃ j,seqIndex? i xs.length=some j/\xs[j]?=some v/\j<xs.length/\-(xs.length:Int)<=i/\i<xs.length:=by
 unfold atI at h
 cases e:ixN xs.length i with
 | none=>rw[e]at h;cases h
 | some j =>
  rw[e]at h;obtain⟨h1,c,b,a⟩:=kGS e;exact⟨j,h1,h,c,b,a⟩
def jL{α:Type}{xs:List α}{j:Nat}{v:α}(h:xs[j]?=some v):atI xs (j:Int)=some v:=by
 have a:j<xs.length:=(au.mp h).1
 have e:ixN xs.length (j:Int)=some j:=by
  unfold ixN;rw[if_pos (by omega),if_pos (by omega)];simp
 unfold atI;rw[e];exact h
def zM{α:Type}(xs:List α)(v:α):atI (xs++[v]) (-1)=some v:=by
 have a:(xs++[v]).length=xs.length+1:=by simp
 have e:ixN (xs++[v]).length (-1)=some xs.length:=by
  unfold ixN;rw[a,if_neg (by decide),if_pos (by omega)]
  congr 1
  omega
 unfold atI;rw[e];show(xs++[v])[xs.length]?=some v;simp
def kHO(b:iC):Prop:=∀ o i,subscripted b false o i=operate [o,i] (getItem o i)
def IxR(X:Cx)(r:R2):Prop :=
 ∀(value a:iC)(pins:List (ay×Obj))(s:av)(σ:St)(H:Hp)(x y:V)(v u:ao)(Q:VK),Inv X pins σ H s->RelV x v->RelV y u->r x y H Q ->
  subscripted a false v u=operate [v,u] (getItem v u)->cx (model X.prog X.w) X.A (subscriptTail value a v u) (EP X pins σ Q) X.xe s
def MtR(X:Cx)(id:String)(r:V->List V->Hp->VK->Prop):Prop :=
 ∀(pins:List (ay×Obj))(s:av)(σ:St)(H:Hp)(x:V)(xs:List V)(v:ao)(us:List ao)(Q:VK),Inv X pins σ H s->RelV x v->Vals xs us->r x xs H Q ->
  cx (model X.prog X.w) X.A (call (.builtin id) (v::us)) (EP X pins σ Q) X.xe s
section
variable {X:Cx} {a b:iC} {ta tb:TE} {pos:Pos}
def kUP{r:R2}(n:IxR X r)(g:PE X a ta)(A:PE X b tb)(o:kHO b):PE X (.Subscript a b pos) (tOp r ta tb):=by
 intro c s l H Q I h;exact Fk (kTT g A I h λ v u d x y f i p m q=>n a b c d l f x y v u Q i p m q (o _ _))
inductive kMA(K:bb)(x:V)(y:V)(H:Hp)(Q:VK):Prop
 | mk:∀ p xs i v,(x=.ref p)->(y=.int i)->(SqL K H p xs)->(atI xs i=some v)->(Q v H)->kMA K x y H Q
inductive rQ(K:bb)(x:V)(y:V)(H:Hp)(Q:VK):Prop
 | mk:∀ p xs i v,(x=.ref p)->(y=.int i)->(SqT K H p xs)->(atI xs i=some v)->(Q v H)->rQ K x y H Q
def kW:IxR X (kMA X.K):=by
 intro value f a s n H x y v u Q I M G h o;obtain⟨p,S,i,z,rfl,rfl,L,C,q⟩:=h;cases M
 obtain⟨t,rfl⟩:=G;obtain⟨l,r,g,O⟩:=I.list L;obtain⟨j,h1,B,T,A,N⟩:=kHJ C;obtain⟨w,m,d⟩:=r.get B;have J:=r.length;have U:=cI;have b:EP X a n Q w s:=⟨z,H,I,d,q⟩;by_cases h0:0<=i
 ·have c:i.toNat=j:=by
   rw[FH h0 N]at h1;exact cc h1
  exact item_listR g.isList h0 (by omega) (by rw[c];simpa using m) b o
 ·have c:(i+(l.toArray.size:Int)).toNat=j:=by
   rw[EW (by omega) A]at h1;rw[eR,<-J];exact cc h1
  exact Ct (x:=w) g.isList.typeIs EX.lookup
   (wpAny_getItem_list_neg (Q:=λ r D=>r=w/\EP X a n Q r D) g.isList (by omega) (by rw[eR]<;>omega) (by omega) (by rw[c];simpa using m) ⟨rfl,b⟩) o
def qC:IxR X (rQ X.K):=by
 intro value d a s f H x y v u Q I J A h C;obtain⟨p,N,i,z,rfl,rfl,D,n,q⟩:=h;cases J
 obtain⟨t,rfl⟩:=A;obtain⟨G,r,g,L⟩:=I.tuple D;obtain⟨j,h1,m,O,M,T⟩:=kHJ n;obtain⟨w,l,c⟩:=r.get m;have B:=r.length;have S:=cI;have b:EP X a f Q w s:=⟨z,H,I,c,q⟩
 exact Ct (x:=w) g.typeIs slot_tuple_getitem.lookup
  (getItem_tuple (j:=j) (Q:=λ r o=>r=w/\EP X a f Q r o) g (by omega) (by omega) (by rw[eR,<-B];exact h1) (by simpa using l) ⟨rfl,b⟩) C
def kEB(a:List ao)(n j:Nat)(u:ao):qh (·.setIfInBounds j u) {cls:=.type "list",data:=.seq a.toArray n}={cls:=.type "list",data:=.seq (a.set j u).toArray n}:=by
 simp[qh]
theorem Inv.lst{b:List (ay×Obj)}{c:St}{H:Hp}{s:av}{p:ay}{xs:List V}(I:Inv X b c H s)(h:H p=some (.lst xs)) :
  ∃(a:List ao)(n:Nat),Vals xs a/\s.heap.get? p=some {cls:=.type "list",data:=.seq a.toArray n}/\xs.length<=sizeLine:=by
 obtain⟨z,a,n,r,e⟩:=I.hok p _ h;exact⟨a,n,r,e,z⟩
def Inv.lstUpd{a:List (ay×Obj)}{i:St}{H:Hp}{s:av}{p:ay}{xs ys:List V}{c its':List ao}{n d:Nat}{f:Obj->Obj}(I:Inv X a i H s)(h:H p=some (.lst xs))
  (l:s.heap.get? p=some {cls:=.type "list",data:=.seq c.toArray n}) (g:f {cls:=.type "list",data:=.seq c.toArray n}={cls:=.type "list",data:=.seq its'.toArray d}) (r:Vals ys its') (hz:ys.length<=sizeLine) (t:Nat) :
  Inv X a i (upd H p (.lst ys)) {s with heap:=s.heap.update p f,toks:=t}:=by
 have e:(s.heap.update p f).get? p=some {cls:=.type "list",data:=.seq its'.toArray d}:=by
  rw[lj f l (by rw[g]<;>rfl),g]
 refine I.write (x:=p) (e:=p) (by rw[h];trivial) (.inl rfl) (λ b u m q=>(xm _ _ (qe m)).trans q) ⟨_,e⟩ ?_;exact⟨hz,its',d,r,e⟩
inductive kQW(o:V)(i:V)(v:V)(H:Hp)(Q:Hp->Prop):Prop
 | mk:∀ p xs k j,(o=.ref p)->(i=.int k)->(H p=some (.lst xs))->(ixN xs.length k=some j)->(Q (upd H p (.lst (xs.set j v))))->kQW o i v H Q
def fY:kVP X kQW:=by
 intro a s C H o i v ov J u Q I x D B h;obtain⟨p,G,k,j,rfl,rfl,hp,y,q⟩:=h;cases x
 obtain⟨t,rfl⟩:=D;obtain⟨b,n,r,c,A⟩:=I.lst hp;obtain⟨h1,L,m,l⟩:=kGS y;have f:=r.length;have M:=cI
 have g:Inv X a C (upd H p (.lst (G.set j v))) {s with heap:=s.heap.update p (qh (·.setIfInBounds j u))} :=
  I.lstUpd hp c (kEB b n j u) (r.set B j) (by rw[BL];exact A) s.toks
 by_cases h0:0<=k
 ·have d:k.toNat=j:=by
   rw[FH h0 l]at h1;exact cc h1
  exact PySem.W.ki_setAt c h0 (by omega) (by rw[eR,<-f];exact l) (by rw[d];exact⟨_,g,q⟩)
 ·have d:(k+(b.toArray.size:Int)).toNat=j:=by
   rw[EW (by omega) m]at h1;rw[eR,<-f];exact cc h1
  exact PySem.W.ki_setBack c (by omega) (by rw[eR,<-f];exact m) (by omega) (by rw[d];exact⟨_,g,q⟩)
def rA(lo hi:Option Int)(n:Nat):(sliceBounds lo hi none n).1=((HT.sIx n 0 lo:Nat):Int)/\(sliceBounds lo hi none n).2.1=((HT.sIx n n hi:Nat):Int)/\(sliceBounds lo hi none n).2.2=1:=by
 refine⟨?_,?_,rfl⟩
 ·cases lo with
  | none=>simp[sliceBounds,HT.sIx]
  | some i =>
   simp only[sliceBounds,HT.sIx,Ey,show(1:Int)>0 by decide,if_true];by_cases h:i<0
   ·simp only[h,if_true]<;>omega
   ·simp only[h,if_false]<;>omega
 ·cases hi with
  | none=>simp[sliceBounds,HT.sIx]
  | some i =>
   simp only[sliceBounds,HT.sIx,Ey,show(1:Int)>0 by decide,if_true];by_cases h:i<0
   ·simp only[h,if_true]<;>omega
   ·simp only[h,if_false]<;>omega
def mQ(a:List ao)(lo hi:Option Int):slicePick a.toArray lo hi none=((a.drop (HT.sIx a.length 0 lo)).take (HT.sIx a.length a.length hi-HT.sIx a.length 0 lo)).toArray:=by
 obtain⟨h1,c,b⟩:=rA lo hi a.toArray.size;unfold slicePick;rw[h1,c,b];simp only[sliceRange_one,pick_run,eR]<;>rfl
inductive kSA(K:bb)(x:V)(lo:Option Int)(hi:Option Int)(H:Hp)(Q:VK):Prop
 | mk:∀ a xs,(x=.ref a)->(SqL K H a xs)->(∀ p,H p=none->Q (.ref p) (upd H p (.lst (xZ xs lo hi))))->kSA K x lo hi H Q
def jZ:SlR X (kSA X.K):=by
 intro g s C H x v D J lo f B Q I A p n m h;obtain⟨a,c,rfl,u,q⟩:=h;cases A
 obtain⟨y,r,i,l⟩:=I.list u;have d:=r.length;refine⟨"list",_,EX.lookup,i.isList.typeIs,?_⟩;refine wpAny_getItem_list_slice i.isList p n m .none (by simp) ?_ (by rw[eR]<;>omega);rw[mQ,<-d];refine⟨.ref s.heap.objs.size,_,I.laid (t':=s.toks) (o:=.lst (xZ c lo f)) (λ b G q=>ar _ q) (bg _) ?_,rfl,q _ (I.hok.fresh (bg _))⟩;exact⟨fz (dJ c lo f) l,_,0,(r.drop (HT.sIx c.length 0 lo)).take (HT.sIx c.length c.length f-HT.sIx c.length 0 lo),cg _ rfl⟩
def uE:V->Bool
 | .non=>true
 | .bl _=>true
 | .int _=>true
 | .str _=>true
 | _=>false
def eqV:V->V->Bool
 | .non,.non=>true
 | .bl a,.bl b=>a == b
 | .bl a,.int b=>(if a then 1 else 0) == b
 | .int a,.bl b=>a == (if b then 1 else 0)
 | .int a,.int b=>a == b
 | .str a,.str b=>a == b
 | _,_=>false
def kTP{A:fb}{s:av}{y x:V}{u v:ao}(g:RelV y u)(c:RelV x v)(h:uE y=true)(f:uE x=true):Fm A s u v (eqV y x):=by
 cases y with
 | non =>
  cases g
  cases x with
  | non=>cases c;exact SeqAt.EqAt.same _
  | bl b=>cases c;exact SeqAt.EqAt.none_bool b
  | int b=>obtain⟨t,rfl⟩:=c;exact SeqAt.EqAt.none_int b t
  | str b=>obtain⟨t,rfl⟩:=c;exact SeqAt.EqAt.none_str b t
  | _=>exact absurd (show false=true from f) dw
 | bl a =>
  cases g
  cases x with
  | non=>cases c;exact SeqAt.EqAt.bool_none a
  | bl b=>cases c;exact SeqAt.EqAt.bool_bool a b
  | int b=>obtain⟨t,rfl⟩:=c;exact SeqAt.EqAt.bool_int a b t
  | str b=>obtain⟨t,rfl⟩:=c;exact SeqAt.EqAt.bool_str a b t
  | _=>exact absurd (show false=true from f) dw
 | int a =>
  obtain⟨d,rfl⟩:=g
  cases x with
  | non=>cases c;exact SeqAt.EqAt.int_none a d
  | bl b=>cases c;exact SeqAt.EqAt.int_bool a d b
  | int b=>obtain⟨t,rfl⟩:=c;exact SeqAt.EqAt.int_int a d b t
  | str b=>obtain⟨t,rfl⟩:=c;exact Dx a d b t
  | _=>exact absurd (show false=true from f) dw
 | str a =>
  obtain⟨d,rfl⟩:=g
  cases x with
  | non=>cases c;exact SeqAt.EqAt.str_none a d
  | bl b=>cases c;exact SeqAt.EqAt.str_bool a d b
  | int b=>obtain⟨t,rfl⟩:=c;exact Dy a d b t
  | str b=>obtain⟨t,rfl⟩:=c;exact SeqAt.EqAt.str_str a d b t
  | _=>exact absurd (show false=true from f) dw
 | _=>exact absurd (show false=true from h) dw
def eqU(x:V)(u:ao):Bool:=match u with
 | .none=>eqV .non x
 | .bool b=>eqV (.bl b) x
 | .int i _=>eqV (.int i) x
 | .str z _=>eqV (.str z) x
 | _=>false
def kNU{x y:V}{u:ao}(r:RelV y u)(f:uE y=true):eqU x u=eqV y x:=by
 cases y with
 | non=>cases r;rfl
 | bl b=>cases r;rfl
 | int i=>obtain⟨t,rfl⟩:=r;rfl
 | str z=>obtain⟨t,rfl⟩:=r;rfl
 | _=>exact absurd (show false=true from f) dw
theorem bU{x:V}:∀{xs:List V}{a:List ao},Vals xs a->xs.all uE=true->a.any (eqU x)=xs.any λ y=>eqV y x
 | _,_,.nil,_=>rfl
 | y::xs,u::a,.cons r t,f=>by
  rw[Ds,iP]at f;rw[BD,BD,kNU r f.1,bU t f.2]
theorem uB{A:fb}{s:av}{x:V}{v:ao}(c:RelV x v)(d:uE x=true):∀{xs:List V}{b:List ao},Vals xs b->xs.all uE=true->∀ u∈b,Fm A s u v (eqU x u)
 | _,_,.nil,_=>λ u a=>by cases a
 | y::xs,u::b,.cons r t,f=>λ g a=>by
  rw[Ds,iP]at f;rcases cy.mp a with rfl | a
  ·rw[kNU r f.1];exact kTP r c f.1 d
  ·exact uB c d t f.2 g a
def inV(x:V)(xs:List V):Bool:=xs.any λ y=>eqV y x
inductive rIn(K:bb)(neg:Bool)(x:V)(y:V)(H:Hp)(Q:VK):Prop
 | mk:∀ p xs,(y=.ref p)->((SqL K H p xs\/SqT K H p xs))->(uE x=true)->(xs.all uE=true)->(Q (.bl (if neg then !inV x xs else inV x xs)) H)->rIn K neg x y H Q
def jD:OpR X (compareOp .In) (rIn X.K false):=by
 intro f s n H x y v u Q I i m h;obtain⟨p,o,rfl,b,g,fs,q⟩:=h;cases m
 rcases b with b | b
 ·obtain⟨a,r,d,l⟩:=I.list b
  refine SeqAt.in_listAt (eqU x) d.isList (λ w c=>uB i g r fs w (by simpa using c)) ⟨.bl _,H,I,rfl,?_⟩;rw[show a.toArray.any (eqU x)=a.any (eqU x) by simp,bU r fs];exact q
 ·obtain⟨a,r,d,l⟩:=I.tuple b
  refine SeqAt.in_tupleAt (eqU x) d (λ w c=>uB i g r fs w (by simpa using c)) ⟨.bl _,H,I,rfl,?_⟩;rw[show a.toArray.any (eqU x)=a.any (eqU x) by simp,bU r fs];exact q
def wV:OpR X (compareOp .NotIn) (rIn X.K true):=by
 intro f s n H x y v u Q I i m h;obtain⟨p,o,rfl,b,g,fs,q⟩:=h;cases m
 rcases b with b | b
 ·obtain⟨a,r,d,l⟩:=I.list b
  refine SeqAt.notIn_listAt (eqU x) d.isList (λ w c=>uB i g r fs w (by simpa using c)) ⟨.bl _,H,I,rfl,?_⟩;rw[show a.toArray.any (eqU x)=a.any (eqU x) by simp,bU r fs];exact q
 ·obtain⟨a,r,d,l⟩:=I.tuple b
  refine SeqAt.notIn_tupleAt (eqU x) d (λ w c=>uB i g r fs w (by simpa using c)) ⟨.bl _,H,I,rfl,?_⟩;rw[show a.toArray.any (eqU x)=a.any (eqU x) by simp,bU r fs];exact q
inductive wC(K:bb)(xs:List V)(H:Hp)(Q:VK):Prop
 | mk:∀ p ys,(xs=[.ref p])->((SqL K H p ys\/SqT K H p ys))->(Q (.int ys.length) H)->wC K xs H Q
def kP:xR X (.builtin "len") (wC X.K):=by
 intro g s o H v n Q I r h;obtain⟨p,i,rfl,b,q⟩:=h;obtain⟨u,rfl,m⟩:=zD r;cases m
 have x:=cI;rcases b with b | b
 ·obtain⟨f,d,c,l⟩:=I.list b
  have a:=d.length;exact Calls.call_len_list c.isList (by simp only[eR]<;>omega) ⟨.int i.length,H,I.tok _,⟨s.toks+1,by rw[eR,a]⟩,q⟩
 ·obtain⟨f,d,c,l⟩:=I.tuple b
  have a:=d.length;exact len_tuple c (by simp only[eR]<;>omega) ⟨.int i.length,H,I.tok _,⟨s.toks+1,by rw[eR,a]⟩,q⟩
inductive uU(K:bb)(xs:List V)(H:Hp)(Q:VK):Prop
 | mk:∀ p ys,(xs=[.ref p])->((SqL K H p ys\/SqT K H p ys))->(∀ l,H l=none->Q (.ref l) (upd H l (.lst ys)))->uU K xs H Q
def sX:xR X (.type "list") (uU X.K):=by
 intro l s J H N M Q I r h;obtain⟨p,D,rfl,x,q⟩:=h;obtain⟨u,rfl,L⟩:=zD r;cases L
 have i:∀(a:List ao),Vals D a->D.length<=sizeLine->∀(c:iD)(d:Nat),(∀ b G,s.heap.get? b=some G->c.get? b=some G) ->
   c.get? s.heap.objs.size=some {cls:=.type "list",dict:=none,data:=.seq a.toArray d,slots:=#[]}->EP X l J Q (.ref s.heap.objs.size) {s with heap:=c}:=λ a f g c d v e =>
  ⟨.ref s.heap.objs.size,_,I.laid (t':=s.toks) v (bg _) (show ObjOk X.prog X.w _ c _ (.lst D) from⟨g,a,d,f,e⟩),rfl,q _ (I.hok.fresh (bg _))⟩
 rcases x with x | x
 ·obtain⟨a,f,C,g⟩:=I.list x
  have m:=f.length;obtain⟨o,B,y,n,A⟩:=C.isList;exact call_list_seq p (.inl rfl) B y A (λ c d v e=>i a f g c d v e) (by simp only[eR]<;>omega)
 ·obtain⟨a,f,C,g⟩:=I.tuple x
  have m:=f.length;obtain⟨o,B,y,n,A⟩:=C;exact call_list_seq p (.inr rfl) B y A (λ c d v e=>i a f g c d v e) (by simp only[eR]<;>omega)
inductive uF(K:bb)(xs:List V)(H:Hp)(Q:VK):Prop
 | mk:∀ p ys,(xs=[.ref p])->(((SqL K H p ys/\∀ l,H l=none->Q (.ref l) (upd H l (.tup ys)))\/(SqT K H p ys/\Q (.ref p) H)))->uF K xs H Q
def jK:xR X (.type "tuple") (uF X.K):=by
 intro a s m H D C Q I r h;obtain⟨p,v,rfl,h⟩:=h;obtain⟨u,rfl,B⟩:=zD r;cases B
 rcases h with⟨i,q⟩ | ⟨i,q⟩
 ·obtain⟨c,g,f,l⟩:=I.list i
  have n:=g.length;refine call_tuple_list f.isList (λ d A=>?_) (by simp only[eR]<;>omega);have x:Inv X a m H {s with heap:=d}:=I.kept (t':=s.toks) A
  have y:Inv X a m (upd H d.objs.size (.tup v)) {s with heap:=d.push {cls:=.type "tuple",data:=.seq c.toArray}} :=
   x.laid (t':=s.toks) (λ b o e=>ar _ e) (bg _) (show ObjOk X.prog X.w _ _ _ (.tup v) from⟨l,c,g,IsTupN.new _ _⟩)
  exact⟨.ref d.objs.size,_,y,rfl,q _ (x.hok.fresh (bg _))⟩
 ·obtain⟨c,g,f,l⟩:=I.tuple i
  exact call_tuple_same f ⟨.ref p,H,I,rfl,q⟩
def tyV(K:bb)(T:String)(x:V)(H:Hp):Prop:=match x with
 | .str _=>T = "str"
 | .int _=>T = "int"
 | .ref p=>(T = "list"/\∃ b,SqL K H p b)\/(T = "tuple"/\((∃ o,K.lookup p=some o/\o.cls=.type "tuple"/\o.dict=none)\/∃ b,H p=some (.tup b))) \/
   (T = "dict"/\((∃ a,H p=some (.dK a))\/∃ a,H p=some (.dT a)))\/(T = "set"/\∃ S n,H p=some (.set S n))
 | _=>False
def kRN{g:List (ay×Obj)}{C:St}{H:Hp}{s:av}{T:String}{x:V}{v:ao}(I:Inv X g C H s)(r:RelV x v)(l:tyV X.K T x H) :
  s.TypeIs v T/\∀ a,v=.ref a->∃ ob,s.heap.get? a=some ob/\ob.dict=none:=by
 cases x with
 | str z =>
  obtain⟨t,rfl⟩:=r
  cases(show T = "str" from l)
  exact⟨typeIs_str s z t,λ _ e=>nomatch e⟩
 | int i =>
  obtain⟨t,rfl⟩:=r
  cases(show T = "int" from l)
  exact⟨Fn s i t,λ _ e=>nomatch e⟩
 | ref p =>
  cases r
  rcases l with⟨rfl,A,m⟩ | ⟨rfl,⟨o,b,B,h⟩ | ⟨A,m⟩⟩ | ⟨rfl,b⟩ | ⟨rfl,S,n,b⟩
  ·obtain⟨u,_,y,_⟩:=I.list m
   refine⟨y.isList.typeIs,λ a e=>?_⟩;cases e
   obtain⟨o,n,e,c,h,_⟩:=y;exact⟨o,e,h⟩
  ·refine⟨⟨o,I.kIn p o b,B⟩,λ a e=>?_⟩
   cases e
   exact⟨o,I.kIn _ o b,h⟩
  ·obtain⟨_,u,_,o,e,c,n,_,h⟩:=(show ObjOk X.prog X.w H s.heap p (.tup A) from I.hok p _ m)
   refine⟨⟨o,e,c⟩,λ a f=>?_⟩;cases f
   exact⟨o,e,h⟩
  ·have z:∃ o,s.heap.get? p=some o/\o.ExactDict:=by
    rcases b with⟨q,b⟩ | ⟨q,b⟩
    ·obtain⟨_,_,_,_,o,_,_,e,d,_⟩:=I.hok p _ b
     exact⟨o,e,d⟩
    ·obtain⟨_,_,_,_,o,_,_,e,d,_⟩:=I.hok p _ b
     exact⟨o,e,d⟩
   obtain⟨o,e,d⟩:=z;refine⟨⟨o,e,d.1⟩,λ a f=>?_⟩;cases f
   exact⟨o,e,d.2.1⟩
  ·obtain⟨o,_,_,_,e,d,_⟩:=I.hok p _ b
   refine⟨⟨o,e,d.1⟩,λ a f=>?_⟩;cases f
   exact⟨o,e,d.2.1⟩
 | _=>exact xk l
inductive kUH(K:bb)(T:String)(r:V->List V->Hp->VK->Prop)(t:TA)(σ:St)(Q:VK)(x:V)(H1:Hp):Prop
 | mk:(tyV K T x H1)->(t σ H1 λ xs H2=>r x xs H2 Q)->kUH K T r t σ Q x H1
def tBM(K:bb)(T:String)(r:V->List V->Hp->VK->Prop)(to:TE)(t:TA):TE:=λ a H Q=>to a H λ x b=>kUH K T r t a Q x b
variable {o e:iC} {es:List iC} {to:TE} {t:TA} {name:Str} {apos cpos:Pos} {T id:String} {r:V->List V->Hp->VK->Prop}
def dD(p:PlainAttrs T)(g:Slot T name id)(l:typeOf (.builtin id)=pure (.type "method_descriptor"))(D:MtR X id r)(u:PE X o to)(G:PA X (e::es) t)
  (d:attributeBase o name X.env (eval o X.env)=eval o X.env:=by rfl)
  (f:((backTo cpos (starEach (e::es) X.env)).all (λ x=>!x.1) && (backToKw cpos (keywordEach [] X.env)).all (λ x=>x.1.isSome)
   && decide ((e::es).length+([]:List CJ).length+(if([]:List CJ).isEmpty then 0 else 1)<30))=true:=by rfl)
  (c:(apos.endLine == cpos.line)=true:=by rfl) (Y:starEach (e::es) X.env=(false,eval e X.env)::starEach es X.env:=by rfl) (b:(backTo cpos (starEach es X.env)).any (·.1)=false:=by rfl) :
  PE X (.Call (.Attribute o name apos) (e::es) [] cpos) (tBM X.K T r to t):=by
 intro a s i H Q I h;refine wpAny_Call_method_late d f c rfl (thn (u a s i H _ I h) λ v y ⟨x,q,n,m,M,O⟩=>?_);obtain⟨h1,A⟩:=kRN n m M;refine⟨T,id,p,g,l,h1,A,?_⟩;have hA:=G cpos a y i q _ n O;rw[Y]at hA ⊢;refine xp (by show(false || (backTo cpos (starEach es X.env)).any (·.1))=false;rw[b]<;>rfl) (BF ?_);exact thn hA λ J B ⟨L,C,N,U,S⟩=>D a B i C x L v J Q N m U S
end
def MtM(X:Cx)(id:String)(r:V->List V->Hp->VK->Prop):Prop :=
 ∀(pins:List (ay×Obj))(s:av)(σ:St)(H:Hp)(x:V)(xs:List V)(v:ao)(us:List ao)(Q:VK),Inv X pins σ H s->RelV x v->Vals xs us->r x xs H Q ->
  cx (model X.prog X.w) X.A (call (.builtin id) (v::us)) (EP X pins σ Q) X.xe s
def Vals.one:∀{x:V}{a:List ao},Vals [x] a->∃ u,a=[u]/\RelV x u
 | _,_,.cons r .nil=>⟨_,rfl,r⟩
def Vals.two:∀{x y:V}{a:List ao},Vals [x,y] a->∃ u v,a=[u,v]/\RelV x u/\RelV y v
 | _,_,_,.cons r (.cons q .nil)=>⟨_,_,rfl,r,q⟩
theorem Vals.eraseIdx:∀{xs:List V}{a:List ao}(i:Nat),Vals xs a->Vals (xs.eraseIdx i) (a.eraseIdx i)
 | _,_,_,.nil=>.nil
 | _,_,0,.cons _ t=>t
 | _,_,i+1,.cons r t=>.cons r (Vals.eraseIdx i t)
theorem Vals.reverse{xs:List V}{a:List ao}(h:Vals xs a):Vals xs.reverse a.reverse:=by
 induction h with
 | nil=>exact .nil
 | cons r t ih=>rw[yu,yu];exact Vals.append ih (.cons r .nil)
theorem Vals.rep{xs:List V}{a:List ao}(h:Vals xs a):∀ k:Nat,Vals (eQ k xs).flatten (eQ k a).flatten
 | 0=>.nil
 | k+1=>by
  rw[uv,uv,yj,yj];exact Vals.append h (Vals.rep h k)
theorem oW{α:Type}:∀(l:List α)(i:Nat),(l.eraseIdx i).length<=l.length
 | [],_=>bg _
 | _::_,0=>AR _
 | _::r,i+1=>Ez (oW r i)
theorem pD(b:List ao):∀(k:Nat)(a:List ao),
  Fo (λ x1 x2=>x1++x2) a.toArray (eQ k b.toArray)=(a++(eQ k b).flatten).toArray
 | 0,a=>by simp
 | k+1,a=>by
  have e:a.toArray++b.toArray=(a++b).toArray:=by simp
  have c:(a++b)++(eQ k b).flatten=a++(eQ (k+1) b).flatten:=by
   rw[uv,yj,dr]
  rw[<-c,<-pD b k (a++b),<-e,uv,ux]
section
variable {X:Cx} {pins:List (ay×Obj)} {σ:St} {H:Hp} {s:av} {l b:ay} {xs ys zs:List V}
def Inv.lset{a its':List ao}{n:Nat}{f:Array ao->Array ao}{t':Nat}(I:Inv X pins σ H s)(c:H l=some (.lst xs))
  (e:s.heap.get? l=some {cls:=.type "list",data:=.seq a.toArray n}) (b:f a.toArray=its'.toArray) (d:Vals ys its') (hz:ys.length<=sizeLine) :
  Inv X pins σ (upd H l (.lst ys)) {s with heap:=s.heap.update l (qh f),toks:=t'}:=by
 have q:=PySem.IsL.update e f;rw[b]at q;refine I.write (x:=l) (e:=l) (by rw[c];exact trivial) (.inl rfl) (λ i u h g=>(xm s.heap (qh f) (qe h)).trans g) ⟨_,q⟩ ?_;exact⟨hz,its',_,d,q⟩
def Inv.lnew{a:List ao}{t':Nat}(I:Inv X pins σ H s)(b:Vals ys a)(hz:ys.length<=sizeLine) :
  Inv X pins σ (upd H s.heap.objs.size (.lst ys)) {s with heap:=s.heap.push {cls:=.type "list",data:=.seq a.toArray},toks:=t'} :=
 I.laid (λ _ _ q=>ar _ q) (bg _) ⟨hz,a,0,b,cg _ rfl⟩
theorem Inv.fresh(I:Inv X pins σ H s):H s.heap.objs.size=none:=I.hok.fresh (bg _)
def Inv.lstM(I:Inv X pins σ H s)(b:H l=some (.lst xs)):xs.length<=sizeLine/\∃(a:List ao)(n:Nat),Vals xs a/\xs.length=a.length/\s.heap.get? l=some {cls:=.type "list",data:=.seq a.toArray n}:=by
 obtain⟨z,a,n,r,e⟩:=I.hok l _ b;exact⟨z,a,n,r,r.length,e⟩
def kMS{n:Nat}(h:n<=sizeLine):zq n=false:=by
 unfold zq;exact decide_eq_false (by omega)
end
section
variable {X:Cx}
inductive kFZ(x:V)(vs:List V)(H:Hp)(Q:VK):Prop
 | mk:∀ l xs y,(x=.ref l)->(vs=[y])->(H l=some (.lst xs))->(xs.length<sizeLine)->(Q .non (upd H l (.lst (xs++[y]))))->kFZ x vs H Q
def xD:MtM X "list.append" kFZ:=by
 intro b s p H x o v m Q I g f h;obtain⟨l,B,y,rfl,rfl,c,i,q⟩:=h;cases g
 obtain⟨u,rfl,d⟩:=f.one;obtain⟨z,a,n,r,A,e⟩:=I.lstM c;refine Au F.slot_list_append ⟨_,e,rfl⟩ F.entry_list_append (F.args_list_append_2 _ _) (PySem.list_append l a.toArray n u (by rw[eR];omega)) ⟨e,?_⟩;refine⟨.non,_,I.lset (its':=a++[u]) c e (by simp) (r.append (.cons d .nil)) ?_,rfl,q⟩;rw[cq,iR];omega
inductive kUO(x:V)(y:V)(H:Hp)(Q:VK):Prop
 | mk:∀ l b xs zs,(x=.ref l)->(y=.ref b)->(H l=some (.lst xs))->(H b=some (.lst zs))->(xs.length+zs.length<=sizeLine)->(∀ p,H p=none->Q (.ref p) (upd H p (.lst (xs++zs))))->kUO x y H Q
def aF:OpR X (binaryOp .Add) kUO:=by
 intro d s C H x y v u Q I A g h;obtain⟨l,b,G,L,rfl,rfl,f,hB,B,q⟩:=h;cases A
 cases g
 obtain⟨z,c,n,r,D,e⟩:=I.lstM f;obtain⟨J,a,M,m,p,i⟩:=I.lstM hB;refine PySem.P.add_list e i ?_ (by rw[eR,eR];omega);have o:c.toArray++a.toArray=(c++a).toArray:=by simp
 rw[o];exact⟨.ref _,_,I.lnew (t':=s.toks) (r.append m) (by rw[cq];omega),rfl,q _ I.fresh⟩
inductive kUN(x:V)(y:V)(H:Hp)(Q:VK):Prop
 | mk:∀ l k xs,(x=.ref l)->(y=.int k)->(H l=some (.lst xs))->(-(2 ^ 63)<=k)->(k<2 ^ 63)->(xs.length*k.toNat<=sizeLine)->(∀ p,H p=none->Q (.ref p) (upd H p (.lst (eQ k.toNat xs).flatten)))->kUN x y H Q
def kPT{α:Type}(xs:List α)(k:Nat):(eQ k xs).flatten.length=k*xs.length:=by
 induction k with
 | zero=>simp
 | succ k ih=>rw[uv,yj,cq,ih,Nat.succ_mul,EY]
def kSN:OpR X (binaryOp .Mult) kUN:=by
 intro B s O H x y v u Q I N L h;obtain⟨l,k,S,rfl,rfl,D,h1,C,A,q⟩:=h;cases N
 obtain⟨t,rfl⟩:=L;obtain⟨z,b,n,r,M,e⟩:=I.lstM D;have f:b.toArray.size*k.toNat<=sizeLine:=by rw[eR,<-M];exact A
 have d:¬ b.toArray.size*k.toNat>(2 ^ 63-1) / 8:=by
  have:(sizeLine:Nat)<=(2 ^ 63-1) / 8:=by decide
  omega
 have g:¬ (!Builtin.List.listFitsIndex k)=true:=by
  rw[Fv h1 C];exact dw
 have c:¬ zq (b.toArray.size*k.toNat)=true:=by
  rw[kMS f];exact dw
 have i:Fo (λ p o=>p++o) #[] (eQ (if b.toArray.isEmpty=true then 0 else k.toNat) b.toArray)=(eQ k.toNat b).flatten.toArray:=by
  have G:∀ m:Nat,Fo (λ p o=>p++o) #[] (eQ m b.toArray)=(eQ m b).flatten.toArray:=λ m=>by
   have:=pD b m [];rw[ub]at this;exact this
  rw[G]
  cases b with
  | nil=>simp
  | cons a r'=>rw[if_neg (by simp)]
 refine wpAny_binaryOp_repeat_ref (T:="list") (U:="int") (by decide) ⟨_,e,rfl⟩ (λ J=>Fn J k t) noFill_list_mul F.fills_int_mul FP repeat_list F.slot_int_index.lookup
  (Au FP (Fn s k t) F.entry_int_rmul (F.args_int_rmul_2 _ _) (int___rmul___int_list k t l b.toArray n)
   ⟨e,rfl,⟨_,e,rfl⟩,Au F.slot_list_mul ⟨_,e,rfl⟩ F.entry_list_mul (F.args_list_mul_2 _ _) (AutoListH.list___mul___list_int_3 l b.toArray n k t g d c) ⟨e,?_⟩⟩)
 rw[i];exact⟨.ref _,_,I.lnew (t':=s.toks) (r.rep k.toNat) (by rw[kPT,Nat.mul_comm];exact A),rfl,q _ I.fresh⟩
end
section
variable {prog:eU} {w:gk} {A:fb} {E:ao->av->Prop} {s:av}
end
section
variable {X:Cx}
end
end L2
namespace Att
open PySem PySem.W PySem.Calls PyProof.Rows
def fF{P:HV}{h:iD}:∀(c:List Int)(d:List ao),WellAll P h d (c.map He)->Dk d c:=by
 intro c
 induction c with
 | nil =>
  intro d w;rw[Cu]at w;cases w
  exact .nil
 | cons n c ih =>
  intro d w;rw[eX]at w
  cases w with
  | cons a b =>
   cases a
   exact .cons _ _ (ih _ b)
def kIG{l:OpenLaw}{n:Nat}(x:l.most=some n){P:HV}{h:iD}{args:List WData}{b:List ao}
  (c:l.row.toRowW.claim.pre args=true) (o:WellAll P h b args) :
  ∃ a vs ns,b=[iM a]/\args=[WData.list (ns.map He)]/\h.get? a=some {cls:=.type "list",data:=.seq vs.toArray}/\Dk vs ns/\ns.length<=n:=by
 have m:WShape.hasAll [] args [.list .int]=true:=(pre_splitW c).1;have p:l.pre.holds [] {args:=args}=true:=(pre_splitW c).2;obtain⟨d,r,rfl,h1,s⟩:=hasAllW_cons m;obtain rfl:=hasAllW_nil s;obtain⟨y,rfl,v⟩:=hasW_list h1;obtain⟨ns,rfl⟩:=items_int v
 have f:ns.length<=n:=by
  unfold OpenLaw.pre at p
  have g:(WTm.not (.lt (.lit (.int (n:Int))) (.len (.arg 0)))).holds [] {args:=[.list (ns.map .int)]}=true:=by
   have g:=(holds_andW p).1;rw[x]at g;exact g
  have i:=condW_of g (w_not (w_lt w_lit (w_len_list (w_arg rfl))));rw[aj]at i;refine Nat.le_of_not_lt λ q=>?_;have u:(n:Int)<((ns.length:Nat):Int):=by omega
  first
   | (rw[decide_eq_true u]at i;exact absurd i (by decide))
   | (simp at i;omega)
 cases o with
 | cons w1 w2 =>
  cases w2
  cases w1 with
  | list ho hall=>exact⟨_,_,ns,rfl,rfl,ho,fF ns _ hall,f⟩
def kIN(l:OpenLaw)(args:List WData):l.row.toRowW.claim.post args (.bool true) args=true :=
 postW_of (r:=l.row.toRowW) (X:=(true == true))
  (show HW [] (.bool true) .bool=true by first | rfl | decide | simp[HW,WShape.arms,WShape.armsAll])
  (show(WTm.eq .res (.lit (.bool true))).value [] {args:=args,res:=some (.bool true),after:=args}=some (.bool (true == true)) from w_eq_bool (w_res rfl) w_lit) rfl
def attach_call{l:OpenLaw}{n:Nat}{q:eU}{loose:List Str}{M:(Str->Option ao)->iD->Prop}{J:gk->iD->Prop}{d:DefRec}
  (hn:l.most=some n) (A:d.params.defaults=[])
  (call:∀(w:gk)(s₀ b:av)(mg y:Str->Option ao)(i:ay)(o:Obj)(B v c:ao)(a:ay)(h:List ao)(u:List Int),
   Ground q loose [] M w s₀ mg y b.heap->J w b.heap ->
   b.heap.get? i=some o->o.data=.func (docDef d.name d.params d.body d.scope B v c)->b.heap.CodeRec v d.name->mg d.name=some (.ref i) ->
   b.heap.get? a=some {cls:=.type "list",data:=.seq h.toArray}->Dk h u->u.length<=n->b.gens = #[] ->
   codeAny (model l.prog w) callerA (.call (.ref i) ⟨[.ref a],[]⟩) (λ r s'=>r=.ok (.ret (.bool true))/\OldK b.heap s'.heap/\s'.os=b.os/\CH s'.gens) b) :
  WalkO q loose M J l.row.toRowW d [] (λ f h=>Fw f h):=by
 intro w s₀ b mg y G Y i o B v c T kV O hd x I C hg L H as p N Z D Q;obtain rfl:T=.none:=Dflts.none I A;obtain rfl:kV=.none:=Dflts.noKw I;obtain⟨a,h,u,rfl,rfl,s,g,m⟩:=kIG hn p D;refine enter_call (qz (call w s₀ b mg y i o B v c a h u G Y O (fd_plain hd) x C s g m hg) λ r s' hq=>?_);obtain⟨rfl,U,h3,S⟩:=hq;exact⟨.inl ⟨.bool true,.bool true,[],rfl,λ _=>rfl,.bool true,kIN l _,λ _=>⟨CK,λ _ X=>(nomatch X)⟩⟩,U,h3,S⟩
section
variable {prog:eU} {w:gk} {A:fb} {E:ao->av->Prop} {s:av} {K:Frag}
end
end Att
namespace L2
open PySem PySem.Spec PyProof.Rows
theorem nI:∀{b:List ao}{a:List Int},Dk b a->Vals (a.map V.int) b
 | _,_,.nil=>.nil
 | _,_,.cons n t h=>.cons ⟨t,rfl⟩ (nI h)
def kTW(H:Hp):Prop:=∀ b,H b=none\/∃ o a,H b=some (.frz o (.lst a))
def kMX{P:eU}{w:gk}{K:bb}{mg T:Str->Option ao}{CX:CXT}{k:Nat}{S a:ay}{fd:ur}{x:Str}{sp:Sp}{c:av}{p:List ao}{A:List Int}
  (KX:K.In c.heap) (D:c.heap.Ns ed mg) (g:c.heap.Ns builtinsNs T) (a0:∀ x:Str,x≠"__name__"->T x=bootBuiltins x) (L:c.heap.NoLimit) (hg:c.gens = #[])
  (Q:c.heap.get? a=some {cls:=.type "list",data:=.seq p.toArray}) (hi:Dk p A) (hl:A.length<=sizeLine) (hr:Room k callerA)
  (F:∀ base:iD,K.In base->base.Ns ed mg->FnOk P w K mg base CX k S fd [x] sp) (y:∀(s:av)(u:ao),ET s fd ⟨[u],[]⟩ [(x,u)])
  (Y:∀ H:Hp,kTW H->SqL K H a (A.map V.int)->sp [.ref a] H (λ v _=>v=.bl true) λ _ _ _=>False)
  (U:∀ H e s',CX [] H c (λ _ _ _=>False) e s'->False) :
  codeAny (model P w) callerA (.call (.ref S) ⟨[.ref a],[]⟩) (λ r s'=>r=.ok (.ret (.bool true))/\OldK c.heap s'.heap/\s'.os=c.os/\CH s'.gens) c:=by
 have rv:=nI hi
 have N:=hi.length
 have l:∀ H:Hp,kTW H->SqL K H a (A.map V.int)->HOk P w H c.heap->(∀ b,H b≠none->b=a)->(H a≠none->K.lookup a=none) ->
   codeAny (model P w) callerA (.call (.ref S) ⟨[.ref a],[]⟩) (λ r s'=>r=.ok (.ret (.bool true))/\OldK c.heap s'.heap/\s'.os=c.os/\CH s'.gens) c:=by
  intro H hO hS I hA hK;have f:∀{b:ay}{o:Obj},c.heap.get? b=some o->H b=none->(sM c.heap H).get? b=some o:=λ e n=>kNL e n
  have Z:∀{b:ay}{o:Obj}{C:Array Ce}{B:Nat},c.heap.get? b=some o->o.data=.dict C B->H b=none:=λ{b o C B} e d=>by
   cases q:H b with
   | none=>rfl
   | some u =>
    have X:b=a:=hA b (by rw[q];simp);subst X;rw[Q]at e;cases e;have d':Data.seq p.toArray _=Data.dict C B:=d
    cases d'
  have i:∀{b:ay}{m:Str->Option ao},c.heap.Ns b m->(sM c.heap H).Ns b m:=λ{b m} ⟨o,C,B,e,d,r⟩=>⟨o,C,B,f e (Z e d),d,r⟩
  have J:K.In (sM c.heap H):=λ b o e=>f (KX b o e) (by
   cases q:H b with
   | none=>rfl
   | some u =>
    have X:b=a:=hA b (by rw[q];simp);subst X;rw[hK (by rw[q];simp)]at e;cases e)
  have hM:Mod K mg (sM c.heap H):=⟨J,i D,⟨T,i g,a0⟩,let ⟨mc,h1,h2⟩:=L;⟨mc,i h1,h2⟩⟩;have e0:Env0 P w K mg (sM c.heap H) callerA [] c H:=⟨rfl,hM,λ b o e=>kPO e,Gy (kJH _ _),trivial,λ b g=>absurd (show b∈([]:List ay) from g) (by simp),I,.of_eq hg⟩;refine qz ((F _ J (i D)).run callerA [] c H ⟨[.ref a],[]⟩ [.ref a] [.ref a] _ _ hr e0 (y c (.ref a)) (.cons rfl .nil) (Y H hO hS)) λ r s' h=>?_
  cases r with
  | error e=>exact(U H e s' h).elim
  | ok fl =>
   cases fl with
   | next=>exact xk h
   | brk=>exact xk h
   | cont=>exact xk h
   | ret u =>
    obtain⟨v,H',os,O,un,G,r',q⟩:=h;have q':v=.bl true:=q;subst q';obtain rfl:u=Bd true:=r';refine⟨rfl,OldK.of_keep λ b o e=>?_,os,O⟩
    cases q:H b with
    | none=>exact un.keep b o e q (by intro z;exact absurd (show b∈([]:List ay) from z) (by simp)) (by simp)
    | some u =>
     rcases hO b with z | ⟨ob,xs,z⟩
     ·rw[q]at z;cases z
     ·have z2:=un.frzs b ob _ z
      obtain⟨e1,_⟩:=I b _ z;obtain⟨e2,_⟩:=G b _ z2;rw[e]at e1;cases e1;exact e2
 cases hk:K.lookup a with
 | some o =>
  have e:=KX a o hk;rw[Q]at e;cases e
  refine l (λ _=>none) (λ _=>.inl rfl) (.inr ⟨_,p.toArray,_,hk,rfl,rfl,rfl,by rw[eR,N];exact hl,by simpa using rv⟩) (λ b u z=>by have M:(none:Option HO)=some u:=z;cases M) (λ b z=>absurd rfl z) λ z=>absurd rfl z
 | none =>
  refine l (λ b=>if b=a then some (.frz {cls:=.type "list",data:=.seq p.toArray} (.lst (A.map V.int))) else none) (λ b=>?_) (.inl (.inr ⟨{cls:=.type "list",data:=.seq p.toArray},if_pos rfl⟩)) (λ b u z=>?_) (λ b z=>?_) λ _=>hk
  ·by_cases g:b=a
   ·exact .inr ⟨_,_,if_pos g⟩
   ·exact .inl (if_neg g)
  ·by_cases g:b=a
   ·have M:=(if_pos g).symm.trans z
    cases M
    subst g;exact⟨Q,by rw[aj];exact hl,p,_,rv,Q⟩
   ·have M:=(if_neg g).symm.trans z
    cases M
  ·by_cases g:b=a
   ·exact g
   ·exact absurd (if_neg g) z
def walk_of{l:DH}{n k:Nat}{q:eU}{loose:List Str}{XP:(Str->Option ao)->iD->Prop}{M:gk->iD->Prop}{d:DefRec}{K:HV->bb}{CX:gk->CXT}{sp:gk->Sp}{x:Str}
  (hn:l.most=some n) (B:n<=sizeLine) (C:d.params.defaults=[]) (U:Room k callerA)
  (Z:∀(w:gk)(h:iD),M w h->(K w.params).In h)
  (F:∀(w:gk)(mg:Str->Option ao)(y:ay)(h:iD),(K w.params).In h->h.Ns ed mg->mg d.name=some (.ref y) ->
   ∃ fd:ur,(∀(s:av)(u:ao),ET s fd ⟨[u],[]⟩ [(x,u)]) /\
    ∀ base:iD,(K w.params).In base->base.Ns ed mg->FnOk l.prog w (K w.params) mg base (CX w) k y fd [x] (sp w))
  (J:∀(w:gk)(H:Hp)(a:ay)(r:List Int),r.length<=n->kTW H->SqL (K w.params) H a (r.map V.int)->sp w [.ref a] H (λ v _=>v=.bl true) λ _ _ _=>False)
  (D:∀(w:gk)(H:Hp)(s:av)(e:ao)(A:av),CX w [] H s (λ _ _ _=>False) e A->False) :
  Gj q loose XP M l.row.toRowW d [] (λ f vs=>Fw f vs):=by
 refine Att.attach_call hn C λ w L m mg mb y o pm cd O a vs r G Y ho hd S I p i c hg=>?_;have N:=Z w _ Y;obtain⟨fd,hb,hF⟩:=F w mg y _ N G.T.g I;exact kMX N G.T.g G.T.b G.T.builtins G.T.nolimit hg p i (fz c B) U hF hb (λ H Q X=>J w H a r c Q X) λ H e A=>D w H m e A
def vD(s:lh):Arguments:=match s with
 | .FunctionDef _ a _ _ _ _ _ _ _ _=>a
 | _=>{posonlyargs:=[],args:=[],vararg:=none,kwonlyargs:=[],kw_defaults:=[],kwarg:=none,defaults:=[]}
def yZ(s:lh):List lh:=match s with
 | .FunctionDef _ _ b _ _ _ _ _ _ _=>b
 | _=>[]
def kL(s:lh):wq:=match s with
 | .FunctionDef _ _ _ _ _ _ sc _ _ _=>sc
 | _=>{kind:=.function,names:=[],isGenerator:=false,isCoroutine:=false}
abbrev CX0:CXT:=λ _ _ _ _ _ _=>False
abbrev E0:XK:=λ _ _ _=>False
def kUQ{X:Cx}:kER CX0 X E0:=λ _ _ _ _ _ _ _ h=>h.elim
structure Fun(K:bb)(x qual:Str)(st:lh)(f:ay)(fd:ur):Prop where
 ex:∃(oc:ao)(od:Option ay)(kV doc pm:ao)(an:Option ay)(cdv ct:ao)(osl:Array (Option ao)),
  fd=vt x qual (vD st) (yZ st) (kL st) .none kV doc pm an cdv ct/\K.lookup f=some ⟨oc,od,.func fd,osl⟩/\Bj K cdv qual=true
 kp:Aa K (.ref f)=true
section
variable {P:eU} {w:gk} {K:bb} {mg:Str->Option ao} {base:iD}
def Fun.ok{x a:Str}{st:lh}{f:ay}{m:ur}{N i:List Str}{k:Nat}{sp:Sp}(F:Fun K x a st f m)(S:FnScope N i (kL st))(len:∀ d H Q E,sp d H Q E->d.length=i.length)
  (c:∀(b:ao)(A:fb)(outer:List Env)(s:av)(H:Hp)(d:List V)(Q:VK)(E:XK),Room k (A.deeper (envOfC a (kL st) s.heap.objs.size f b))->sp d H Q E ->
   ∃ t,PSs (qQ CX0 P w K mg base N a (kL st) f b A outer s H E).nox (yZ st) t/\t {nx:=λ _ H'=>Q .non H',rt:=Q} (start N d) H):FnOk P w K mg base CX0 (k+1) f m i sp:=by
 obtain⟨u,v,kV,n,y,C,b,B,o,rfl,p,g⟩:=F.ex;refine kVF p g S len λ A outer s H d Q E r l=>?_;obtain⟨t,h,q⟩:=c b A outer s H d Q E r l;exact⟨t,h.nox,q⟩
def Fun.binds{x a:Str}{st:lh}{f:ay}{m:ur}{d:List Str}(F:Fun K x a st f m)
  (h:∀(kV b i:ao)(l:Option ay)(c ct:ao)(g:List ao),g.length=d.length->bindArgs (vt x a (vD st) (yZ st) (kL st) .none kV b i l c ct) ⟨g,[]⟩=pure (d.zip g)):Binds K m d []:=by
 obtain⟨r,p,kV,b,i,l,c,ct,n,rfl,q,o⟩:=F.ex;exact .all (h kV b i l c ct)
def kTM{x a:Str}{st:lh}{f:ay}{n:ao}{m h:Option ay}{g:Array (Option ao)}{kV d i b ct:ao}(l:K.lookup f=some ⟨n,m,.func (vt x a (vD st) (yZ st) (kL st) .none kV d i h b ct),g⟩)
  (c:Bj K b a=true) (k:Aa K (.ref f)=true):Fun K x a st f (vt x a (vD st) (yZ st) (kL st) .none kV d i h b ct):=⟨⟨n,m,kV,d,i,h,b,ct,g,rfl,l,c⟩,k⟩
end
def yA{A:fb}{k:Nat}(a:Room k A):A.units+1<cLine:=gx (Nat.add_le_add_left (by decide:1<=64) _) a.units
def kQ{n:Nat}(h:n<=1000):n<sizeLine:=gx h (by decide)
section
variable {X:Cx}
def pv(i:Nat){x:Str}{a:Pos}(d:X.N[i]?=some x:=by rfl)(c:Vis X.env.scope x:=by first | exact AJ rfl | exact FA (AJ rfl) | exact FA (FA rfl))(f:(x == ("__debug__" : Str))=false:=by decide)
  (b:(x == ("__classdict__" : Str))=false:=by decide):PE X (.Name x a) (vQ i):=kSI d c f b
end
def xE{A B:Prop}(h:B):if false=true then A else B:=by
 rw[if_neg dw];exact h
def yK{A B:Prop}(h:A):if true=true then A else B:=by
 rw[if_pos rfl];exact h
def kEE{c A B:Prop}[Decidable c](h1:c->A)(a:¬ c->B):if c then A else B:=by
 by_cases h:c
 ·rw[if_pos h]
  exact h1 h
 ·rw[if_neg h]
  exact a h
def Same(H H':Hp):Prop:=∀ b o,H b=some o->H' b=some o
def Same.refl(H:Hp):Same H H:=λ _ _ h=>h
def Same.trans{H f d:Hp}(a:Same H f)(b:Same f d):Same H d:=λ c o h=>b c o (a c o h)
def Same.free{H H':Hp}(e:Same H H'){l:ay}(h:H' l=HK):H l=HK:=by
 cases q:H l with
 | none=>rfl
 | some o =>
  rw[e l o q]at h;cases h
def Same.seq{K:bb}{H H':Hp}{a:ay}{xs:List V}(e:Same H H')(h:SqL K H a xs):SqL K H' a xs:=by
 rcases h with(h | ⟨o,h⟩) | h
 ·exact .inl (.inl (e _ _ h))
 ·exact .inl (.inr ⟨o,e _ _ h⟩)
 ·exact .inr h
end L2
namespace Own
open PySem PySem.Spec PyProof.Rows L2
def Has(P:eU)(w:gk)(K:bb)(mg:Str->Option ao)(base:iD)(x:Str)(a:List Str)(k:Nat)(sp:Sp):Prop :=
 ∃(f:ay)(b:ur),FnOk P w K mg base CX0 k f b a sp/\Binds K b a []/\Aa K (.ref f)=true/\mg x=some (.ref f)
section
variable {X:Cx} {k:Nat} {ps:List Str} {sp:Sp} {x:Str} {p pos:Pos} {e:iC} {es:List iC} {t:TA}
def pe_has(h:Has X.prog X.w X.K X.mg X.base x ps k sp)(d:Room k X.A)(i:Gl X x)
  (g:PA X (e::es) t) (c:(x == ("__debug__" : Str))=false:=by decide) (l:starEach (e::es) X.env=(false,eval e X.env)::starEach es X.env:=by rfl) (a:(backTo pos (starEach es X.env)).any (·.1)=false:=by rfl) :
  PE X (.Call (.Name x p) (e::es) [] pos) (kFD sp [] E0 t):=by
 obtain⟨f,o,F,b,n,m⟩:=h;exact kPJ F d i m n b .nil kUQ g c l a
end
def kVR(i j:Int):Prop:=i.natAbs<2 ^ 9000/\j.natAbs<2 ^ 9000
def kHH{i:Int}(h:i.natAbs<2 ^ 9000):HR i<=2 ^ 20 :=
 fz (intBits_le h) (by decide)
section
variable {X:Cx}
def op_mulW:OpR X (binaryOp .Mult) (rI kVR λ i j=>.int (i*j)):=opI λ _ _ _ _ _ _ _ a q=>mul_int q (IntMulOk.of_bits (kHH a.1) (kHH a.2))
def log2_lt{n:Nat}(h:n<2 ^ 9000):n.log2<9000:=by
 by_cases h0:n=0
 ·subst h0;decide
 ·exact(HL h0).mpr h
inductive pL(K:bb)(xs:List V)(H:Hp)(Q:VK):Prop
 | mk:∀ x t T b,(xs=[x,.ty T])->(cQ K H x t)->(Fi K t (.type T)=some b)->(Q (.bl b) H)->pL K xs H Q
def call_isi:xR X (.builtin "isinstance") (pL X.K):=by
 intro a s i H l g Q I r h;obtain⟨x,t,T,b,rfl,d,e,q⟩:=h;obtain⟨u,n,rfl,c,f⟩:=nJ r;cases f
 exact kJD I c d e λ m=>⟨.bl b,H,I.tok _,rfl,q⟩
end
end Own
namespace L2
open PySem
def jA(K:bb)(n:Str)(st:lh):Prop:=∃(f:ay)(a:ur),gy K ed n=some (some (.ref f))/\Fun K n n st f a
def df_mk{K:bb}{n:Str}{st:lh}{f:ay}{o:ao}{h i:Option ay}{g:Array (Option ao)}{kV d m b ct:ao}(a:gy K ed n=some (some (.ref f)))(l:K.lookup f=some ⟨o,h,.func (vt n n (vD st) (yZ st) (kL st) .none kV d m i b ct),g⟩)(c:Bj K b n=true)(k:Aa K (.ref f)=true):jA K n st:=⟨f,_,a,kTM l c k⟩
def kTL{P:eU}{w:gk}{K:bb}{mg:Str->Option ao}{h base:iD}(X:K.In h)(G:h.Ns ed mg){n:Str}{st:lh}{g:List Str}{o:Nat}{sp:Sp}(d:jA K n st)
  (ok:∀(f:ay)(c:ur),Fun K n n st f c->FnOk P w K mg base CX0 o f c g sp) (b:∀(kV i p:ao)(q:Option ay)(l ct:ao)(m:List ao),m.length=g.length->bindArgs (vt n n (vD st) (yZ st) (kL st) .none kV i p q l ct) ⟨m,[]⟩=pure (g.zip m)):Own.Has P w K mg base n g o sp:=by
 obtain⟨f,c,a,F⟩:=d;exact⟨f,c,ok f c F,F.binds b,F.kp,Du X G a⟩
open PySem PySem.Spec PyProof.Rows
section
variable {κ:Type} [DecidableEq κ]
def qR(kvs:List (κ×V))(k:κ):Option V:=(kvs.find? λ a=>decide (a.1=k)).map (·.2)
def xB(kvs:List (κ×V))(k:κ)(v:V):List (κ×V) :=
 if(kvs.any λ a=>decide (a.1=k))=true then kvs.map (λ a=>if a.1=k then(a.1,v) else a) else kvs++[(k,v)]
def xX(kvs:List (κ×V))(k:κ):List (κ×V):=kvs.filter λ a=>decide (a.1≠k)
def qW{p:κ×V}{r:List (κ×V)}{k:κ}(e:p.1=k):qR (p::r) k=some p.2:=by simp[qR,xy,e]
def qN{p:κ×V}{r:List (κ×V)}{k:κ}(e:¬ p.1=k):qR (p::r) k=qR r k:=by simp[qR,xy,e]
theorem vN(k:κ):∀ kvs:List (κ×V),(kvs.any λ kv=>decide (kv.1=k))=(qR kvs k).isSome
 | []=>rfl
 | p::r=>by
  rw[BD];by_cases e:p.1=k
  ·simp only[qW e,decide_eq_true e,Bool.true_or,Option.isSome_some]
  ·rw[qN e,decide_eq_false e,Bool.false_or];exact vN k r
theorem tL(k j:κ)(y:V):∀ kvs:List (κ×V),qR (kvs.map λ kv=>if kv.1=k then(kv.1,y) else kv) j=(qR kvs j).map λ x=>if j=k then y else x
 | []=>rfl
 | p::r=>by
  have a:=tL k j y r;rw[eX];by_cases h:p.1=k
  ·rw[if_pos h]
   by_cases e:p.1=j
   ·rw[qW (p:=(p.1,y)) e,qW e,ya,if_pos (e.symm.trans h)]
   ·rw[qN (p:=(p.1,y)) e,qN e,a]
  ·rw[if_neg h]
   by_cases e:p.1=j
   ·rw[qW (p:=p) e,qW e,ya,if_neg (λ z=>h (e.trans z))]
   ·rw[qN (p:=p) e,qN e,a]
theorem nK(k j:κ)(y:V):∀ kvs:List (κ×V),qR kvs k=none->qR (kvs++[(k,y)]) j=if j=k then some y else qR kvs j
 | [],_=>by
  by_cases e:k=j
  ·rw[if_pos e.symm];exact qW (p:=(k,y)) e
  ·rw[if_neg (λ z=>e z.symm)];exact qN (p:=(k,y)) e
 | p::r,hn=>by
  rw[iE];have a:¬ p.1=k:=λ z=>by rw[qW z]at hn;cases hn
  rw[qN a]at hn;have b:=nK k j y r hn;by_cases e:p.1=j
  ·rw[qW e,qW e,if_neg (λ z=>a (e.trans z))]
  ·rw[qN e,qN e,b]
def wE(kvs:List (κ×V))(k j:κ)(y:V):qR (xB kvs k y) j=if j=k then some y else qR kvs j:=by
 unfold xB;by_cases a:(kvs.any λ c=>decide (c.1=k))=true
 ·rw[if_pos a,tL]
  rw[vN]at a;by_cases e:j=k
  ·obtain⟨x,b⟩:=zh.mp a
   rw[if_pos e,e,b,ya,if_pos rfl]
  ·rw[if_neg e]
   cases qR kvs j with
   | none=>rfl
   | some x=>rw[ya,if_neg e]
 ·rw[if_neg a]
  refine nK k j y kvs ?_;rw[vN]at a
  cases q:qR kvs k with
  | none=>rfl
  | some x=>rw[q]at a;exact(a rfl).elim
def qP(kvs:List (κ×V))(k:κ)(v:V):(xB kvs k v).length<=kvs.length+1:=by
 unfold xB
 split
 ·rw[aj];omega
 ·rw[cq,eh,qv];omega
def kAR{kvs:List (κ×V)}{k:κ}(v:V)(h:qR kvs k=none):xB kvs k v=kvs++[(k,v)]:=by
 unfold xB;rw[vN,h];exact if_neg (by decide)
def RelO.isSome_eq{o:Option V}{u:Option ao}(r:RelO o u):o.isSome=u.isSome:=by
 cases o with
 | none=>cases u with
  | none=>rfl
  | some _=>exact(show False from r).elim
 | some _=>cases u with
  | none=>exact(show False from r).elim
  | some _=>rfl
theorem RelO.getD{o:Option V}{u:Option ao}{d:V}{d':ao}(r:RelO o u)(a:RelV d d'):RelV (o.getD d) (u.getD d'):=by
 cases o with
 | none=>cases u with
  | none=>exact a
  | some _=>exact(show False from r).elim
 | some _=>cases u with
  | none=>exact(show False from r).elim
  | some _=>exact r
def KV.val{kvs:List (κ×V)}{c:List (κ×ao)}(r:KV kvs c)(k:κ):RelO (qR kvs k) (valueAt c k):=by
 unfold KV at r
 induction r with
 | nil=>exact nj
 | @cons p q ps qs h t ih =>
  obtain⟨h1,d⟩:=h;by_cases e:p.1=k
  ·have a:q.1=k:=h1.symm.trans e
   have b:valueAt (q::qs) k=some q.2:=by simp[valueAt,xy,a]
   rw[qW e,b];exact d
  ·have a:¬ q.1=k:=λ z=>e (h1.trans z)
   have b:valueAt (q::qs) k=valueAt qs k:=by simp[valueAt,xy,a]
   rw[qN e,b];exact ih
theorem KV.any{kvs:List (κ×V)}{a:List (κ×ao)}(r:KV kvs a)(k:κ):(kvs.any λ kv=>decide (kv.1=k))=a.any λ kv=>decide (kv.1=k):=by
 unfold KV at r
 induction r with
 | nil=>rfl
 | cons h t ih=>rw[BD,BD,ih,h.1]
def KV.repl{kvs:List (κ×V)}{a:List (κ×ao)}(r:KV kvs a)(k:κ){y:V}{u:ao}(b:RelV y u) :
  KV (kvs.map λ kv=>if kv.1=k then(kv.1,y) else kv) (a.map λ kv=>if kv.1=k then(kv.1,u) else kv):=by
 unfold KV at r ⊢
 induction r with
 | nil=>exact .nil
 | @cons p q ps qs h t ih =>
  rw[eX,eX];refine .cons ?_ ih;obtain⟨h1,c⟩:=h;by_cases e:p.1=k
  ·rw[if_pos e,if_pos (h1.symm.trans e)];exact⟨h1,b⟩
  ·rw[if_neg e,if_neg (λ z=>e (h1.trans z))];exact⟨h1,c⟩
def KV.put{kvs:List (κ×V)}{a:List (κ×ao)}(r:KV kvs a)(k:κ){y:V}{u:ao}(b:RelV y u):KV (xB kvs k y) (stored a k u):=by
 unfold xB stored;rw[r.any k];by_cases e:(a.any λ c=>decide (c.1=k))=true
 ·rw[if_pos e,if_pos e];exact r.repl k b
 ·rw[if_neg e,if_neg e];exact HM r ⟨rfl,b⟩
def KV.drop{kvs:List (κ×V)}{c:List (κ×ao)}(r:KV kvs c)(k:κ):KV (xX kvs k) (without c k):=by
 unfold KV at r ⊢;unfold xX without
 induction r with
 | nil=>exact .nil
 | @cons p q ps qs h t ih =>
  obtain⟨h1,f⟩:=h;rw[sd,sd];by_cases e:p.1=k
  ·have a:¬ decide (p.1≠k)=true:=by simp[e]
   have b:¬ decide (q.1≠k)=true:=by simp[h1.symm.trans e]
   rw[if_neg a,if_neg b];exact ih
  ·have d:¬ q.1=k:=λ z=>e (h1.trans z)
   have a:decide (p.1≠k)=true:=by simp[e]
   have b:decide (q.1≠k)=true:=by simp[d]
   rw[if_pos a,if_pos b];exact .cons ⟨h1,f⟩ ih
theorem KV.length{kvs:List (κ×V)}{a:List (κ×ao)}(r:KV kvs a):kvs.length=a.length:=wk r
def kNY(kvs:List (κ×V))(k:κ):(xX kvs k).length<=kvs.length:=iS _ _
end
def uS{P:eU}{w:gk}{k:Key}{u:ao}(r:RelV (kV k) u):(kX P w).is k u=true:=by
 cases k with
 | inl i=>obtain⟨t,e⟩:=(show ∃ t,u=uk i t from r);subst e;exact kBI P w i t
 | inr x=>obtain⟨t,e⟩:=(show ∃ t,u=Dj x t from r);subst e;exact kBH P w x t
theorem oX{P:eU}{w:gk}:∀{a:List Key}{b:List ao},Vals (a.map kV) b->ItemsAre (kX P w) a b
 | [],_,r=>by rw[Cu]at r;cases r;exact .nil
 | k::a,_,r=>by
  rw[eX]at r
  cases r with
  | cons h t=>exact .cons (uS h) (oX t)
abbrev KT(H:Hp):List (List Key×V)->List (List Key×ay×ao)->Prop:=FY λ p q=>p.1=q.1/\H q.2.1=some (.tup (p.1.map kV))/\RelV p.2 q.2.2
def KT.val{H:Hp}{kvs:List (List Key×V)}{xs:List (List Key×ay×ao)}(r:KT H kvs xs)(k:List Key):RelO (qR kvs k) ((atKey xs k).map (·.2)):=by
 induction r with
 | nil=>exact nj
 | @cons p q ps qs h t ih =>
  obtain⟨h1,_,c⟩:=h;by_cases e:p.1=k
  ·have a:q.1=k:=h1.symm.trans e
   have b:atKey (q::qs) k=some q.2:=by simp[atKey,xy,a]
   rw[qW e,b];exact c
  ·have a:¬ q.1=k:=λ z=>e (h1.trans z)
   have b:atKey (q::qs) k=atKey qs k:=by simp[atKey,xy,a]
   rw[qN e,b];exact ih
def KT.repl{H:Hp}{kvs:List (List Key×V)}{xs:List (List Key×ay×ao)}(r:KT H kvs xs)(k:List Key){y:V}{u:ao}(c:RelV y u) :
  KT H (kvs.map λ kv=>if kv.1=k then(kv.1,y) else kv) (xs.map (putAt k u)):=by
 induction r with
 | nil=>exact .nil
 | @cons p q ps qs h t ih =>
  rw[eX,eX];refine .cons ?_ ih;obtain⟨h1,a,b⟩:=h;unfold putAt;by_cases e:p.1=k
  ·rw[if_pos e,if_pos (h1.symm.trans e)];exact⟨h1,a,c⟩
  ·rw[if_neg e,if_neg (λ z=>e (h1.trans z))];exact⟨h1,a,b⟩
def KT.put{H:Hp}{kvs:List (List Key×V)}{xs:List (List Key×ay×ao)}(r:KT H kvs xs)(k:List Key){b:ay}{y:V}{u:ao}(c:H b=some (.tup (k.map kV)))(a:RelV y u) :
  KT H (xB kvs k y) (storedH xs k b u):=by
 have e:(kvs.any λ d=>decide (d.1=k))=(atKey xs k).isSome:=by
  rw[vN,(r.val k).isSome_eq,CL]
 unfold xB storedH;rw[e];by_cases q:(atKey xs k).isSome=true
 ·rw[if_pos q,if_pos q];exact r.repl k a
 ·rw[if_neg q,if_neg q];exact HM r ⟨rfl,c,a⟩
def KT.keeps{H H':Hp}{kvs:List (List Key×V)}{xs:List (List Key×ay×ao)}(r:KT H kvs xs)(a:∀ b ys,H b=some (.tup ys)->H' b=some (.tup ys)):KT H' kvs xs :=
 Paired.mapP r λ _ _ z=>⟨z.1,a _ _ z.2.1,z.2.2⟩
section
variable {P:eU} {w:gk} {H:Hp} {h:iD} {a:ay}
def kQU{u:HO}(ok:HOk P w H h)(e:Rd H a u):ObjOk P w H h a u:=e.ok ok
def mD{kvs:List (Key×V)}(ok:HOk P w H h)(e:Rd H a (.dK kvs)):kvs.length<=sizeLine/\(a == sysModules)=false/\∃ vs,KV kvs vs/\h.DictOf (kX P w) a vs :=
 show ObjOk P w H h a (.dK kvs) from kQU ok e
def bQ{kvs:List (Key×V)}(ok:HOk P w H h)(e:H a=some (.dK kvs)):kvs.length<=sizeLine/\(a == sysModules)=false/\∃ vs,KV kvs vs/\h.DictOf (kX P w) a vs:=mD ok (.inl e)
def aH{c:List Key}(ok:HOk P w H h)(e:H a=some (.tup (c.map kV))):(tupleKind (kX P w)).is h c a:=by
 obtain⟨_,b,r,o,h1,f,n,d,_⟩:=(show ObjOk P w H h a (.tup (c.map kV)) from ok a _ e);exact⟨o,b.toArray,n,h1,f,d,by simpa using oX r⟩
def mC{kvs:List (List Key×V)}(ok:HOk P w H h)(e:Rd H a (.dT kvs)):kvs.length<=sizeLine/\(a == sysModules)=false /\
  ∃ xs,KT H kvs xs/\h.DictOfH (tupleKind (kX P w)) a xs:=by
 obtain⟨z,y,xs,r,o,c,f,h1,n,i,g,d⟩:=(show ObjOk P w H h a (.dT kvs) from kQU ok e);refine⟨z,y,xs,r,o,c,f,h1,n,i,g,λ x b=>?_,d⟩
 have all:∀{l:List (List Key×V)}{m:List (List Key×ay×ao)},KT H l m->∀ x∈m,(tupleKind (kX P w)).is h x.1 x.2.1:=by
  intro l m q
  induction q with
  | nil=>intro x b;exact nomatch b
  | @cons p q ps qs hq t ih =>
   intro x b;rcases cy.mp b with e | b
   ·subst e
    exact aH ok (by rw[<-hq.1];exact hq.2.1)
   ·exact ih x b
 exact all r x b
def kHA{kvs:List (List Key×V)}(ok:HOk P w H h)(e:H a=some (.dT kvs)):kvs.length<=sizeLine/\(a == sysModules)=false /\
  ∃ xs,KT H kvs xs/\h.DictOfH (tupleKind (kX P w)) a xs:=mC ok (.inl e)
end
def DGet(H:Hp)(a:ay)(y:V)(r:Option V):Prop :=
 (∃ c k,Rd H a (.dK c)/\y=kV k/\r=qR c k)\/∃ c k b,Rd H a (.dT c)/\y=.ref b/\H b=some (.tup (k.map kV))/\r=qR c k
def DPut(H:Hp)(a:ay)(y v:V)(H':Hp):Prop :=
 (∃ c k,H a=some (.dK c)/\y=kV k/\c.length<sizeLine/\H'=upd H a (.dK (xB c k v))) \/
 ∃ c k b,H a=some (.dT c)/\y=.ref b/\H b=some (.tup (k.map kV))/\c.length<sizeLine/\H'=upd H a (.dT (xB c k v))
def DGet.t{H:Hp}{a b:ay}{kvs:List (List Key×V)}{k:List Key}(e:H a=some (.dT kvs))(c:H b=some (.tup (k.map kV))):DGet H a (.ref b) (qR kvs k):=.inr ⟨kvs,k,b,.inl e,rfl,c,rfl⟩
theorem DPut.k{H:Hp}{a:ay}{kvs:List (Key×V)}{k:Key}{v:V}(e:H a=some (.dK kvs))(b:kvs.length<sizeLine):DPut H a (kV k) v (upd H a (.dK (xB kvs k v))):=.inl ⟨kvs,k,e,rfl,b,rfl⟩
def DPut.t{H:Hp}{a b:ay}{kvs:List (List Key×V)}{k:List Key}{v:V}(e:H a=some (.dT kvs))(d:H b=some (.tup (k.map kV)))(c:kvs.length<sizeLine) :
  DPut H a (.ref b) v (upd H a (.dT (xB kvs k v))):=.inr ⟨kvs,k,b,e,rfl,d,c,rfl⟩
section
variable {X:Cx} {pins:List (ay×Obj)} {σ:St} {H:Hp} {s:av} {a:ay} {y v:V} {u r:ao} {o:Option V} {A:fb} {E:ao->av->Prop}
def Inv.big(I:Inv X pins σ H s):sysModules<s.heap.objs.size:=by
 have h:ed<s.heap.objs.size:=(I.mod.glob.keeps I.bk).lt;exact Nat.lt_trans (by decide) h
def kJQ{Q:ao->av->Prop}(C:A.units+1<cLine)(I:Inv X pins σ H s)(g:DGet H a y (some v))(r:RelV y u)(h:∀ w' s',Inv X pins σ H s'->RelV v w'->Q w' s') :
  cx (model X.prog X.w) A (getItem (.ref a) u) Q E s:=by
 rcases g with⟨m,k,e,n,l⟩ | ⟨m,k,b,e,n,D,l⟩
 ·subst n
  obtain⟨z,G,x,c,q⟩:=mD I.hok e;obtain⟨w',i,d⟩:=RelO.some_of (v:=v) (o:=valueAt x k) (by rw[l];exact c.val k);exact wpAny_getItem_of (uS r) q.mapOf i (h w' _ (I.tok _) d)
 ·subst n
  cases(show u=iM b from r)
  obtain⟨z,G,B,c,q⟩:=mC I.hok e;obtain⟨w',i,d⟩:=RelO.some_of (v:=v) (o:=(atKey B k).map (·.2)) (by rw[l];exact c.val k);obtain⟨p,hp,f⟩:=cv.mp i;refine wpAny_getItem_heap (uy C) (aH I.hok D) q hp ?_;rw[f];exact h w' _ (I.tok _) d
def kWJ{Q:ao->av->Prop}(r:A.units+1<cLine)(I:Inv X pins σ H s)(g:DGet H a y o)(n:RelV y u)(h:∀ s',Inv X pins σ H s'->Q (.bool o.isSome) s') :
  cx (model X.prog X.w) A (compareOp .In u (.ref a)) Q E s:=by
 rcases g with⟨d,k,e,f,l⟩ | ⟨d,k,b,e,f,p,l⟩
 ·subst f
  obtain⟨z,m,v,c,i⟩:=mD I.hok e;refine wpAny_in_of (uS n) m i.mapOf ?_;rw[<-(c.val k).isSome_eq,<-l];exact h _ (I.tok _)
 ·subst f
  cases(show u=iM b from n)
  obtain⟨z,m,x,c,i⟩:=mC I.hok e;refine wpAny_in_heap (uy r) (aH I.hok p) m i ?_;have q:=(c.val k).isSome_eq;rw[CL]at q;rw[<-q,<-l];exact h _ (I.tok _)
def kQG{Q:ao->av->Prop}(r:A.units+1<cLine)(I:Inv X pins σ H s)(g:DGet H a y o)(n:RelV y u)(h:∀ s',Inv X pins σ H s'->Q (.bool (!o.isSome)) s') :
  cx (model X.prog X.w) A (compareOp .NotIn u (.ref a)) Q E s:=by
 rcases g with⟨d,k,e,f,l⟩ | ⟨d,k,b,e,f,p,l⟩
 ·subst f
  obtain⟨z,m,v,c,i⟩:=mD I.hok e;refine wpAny_notIn_of (uS n) m i.mapOf ?_;rw[<-(c.val k).isSome_eq,<-l];exact h _ (I.tok _)
 ·subst f
  cases(show u=iM b from n)
  obtain⟨z,m,x,c,i⟩:=mC I.hok e;refine wpAny_notIn_heap (uy r) (aH I.hok p) m i ?_;have q:=(c.val k).isSome_eq;rw[CL]at q;rw[<-q,<-l];exact h _ (I.tok _)
def zA{h':iD}{t':Nat}{ob:HO}(I:Inv X pins σ H s)(d:Mut (H a))(c:jx a s.heap h')(f:∃ q,h'.get? a=some q)(new:ObjOk X.prog X.w (upd H a ob) h' a ob) :
  Inv X pins σ (upd H a ob) {s with heap:=h',toks:=t'} :=
 I.write (x:=a) (e:=a) d (.inl rfl) (λ b q g z=>(c.2 b g).trans z) f new
def mE{P:eU}{w:gk}{H':Hp}{h':iD}{kvs:List (Key×V)}{b:List (Key×ao)}(z:kvs.length<=sizeLine)(f:(a == sysModules)=false)(c:KV kvs b)(d:h'.DictOf (kX P w) a b) :
  ObjOk P w H' h' a (.dK kvs):=⟨z,f,b,c,d⟩
def kJP{H':Hp}{Q:Unit->av->Prop}(hu:A.units+1<cLine)(I:Inv X pins σ H s)(g:DPut H a y v H')(M:RelV y u)(L:RelV v r)(h:∀ s',Inv X pins σ H' s'->Q () s') :
  cx (model X.prog X.w) A (setItem (.ref a) u r) Q E s:=by
 rcases g with⟨f,k,e,o,l,B⟩ | ⟨f,k,b,e,o,N,l,B⟩
 ·subst o B
  obtain⟨z,D,Y,d,p⟩:=bQ I.hok e;have n:Y.length<=sizeLine:=by rw[<-d.length];exact z
  have x:(xB f k v).length<=sizeLine:=by have:=qP f k v;omega
  refine wpAny_setItem_pairs (hsz:=n) (uS M) p λ J i C=>h _ ?_;have Z:∃ q,J.get? a=some q:=let ⟨q,_,_,m,_⟩:=i;⟨q,m⟩;exact zA I (by rw[e];exact nj) C Z (mE x D (d.put k L) i)
 ·subst o B
  cases(show u=iM b from M)
  obtain⟨z,D,xs,d,p⟩:=kHA I.hok e;have n:xs.length<=sizeLine:=by rw[<-wk d];exact z
  have x:(xB f k v).length<=sizeLine:=by have:=qP f k v;omega
  refine wpAny_setItem_heap (hsz:=n) (uy hu) (aH I.hok N) p λ J i C=>h _ ?_;obtain⟨q,U,O,m,T,h3,S,_,h5⟩:=i;refine zA I (by rw[e];exact nj) C ⟨q,m⟩ ⟨x,D,_,(d.put k N L).keeps λ c ys G=>?_,q,U,O,m,T,h3,S,h5⟩;rw[kK (wI G e (λ z=>nomatch z))];exact G
end
section
variable {X:Cx} {pins:List (ay×Obj)} {σ:St} {H:Hp} {s:av} {a:ay} {kvs:List (Key×V)} {k:Key} {u:ao} {A:fb} {E:ao->av->Prop}
def kVH{v:V}{more:List ao}{Q:ao->av->Prop}(I:Inv X pins σ H s)(e:H a=some (.dK kvs))(d:RelV (kV k) u)(l:qR kvs k=some v)(g:more=[]\/∃ x,more=[x])
  (h:∀ w' s',Inv X pins σ (upd H a (.dK (xX kvs k))) s'->RelV v w'->Q w' s'):cx (model X.prog X.w) A (call (.builtin "dict.pop") (.ref a::u::more)) Q E s:=by
 obtain⟨z,D,m,b,n⟩:=bQ I.hok e;obtain⟨w',y,f⟩:=RelO.some_of (v:=v) (o:=valueAt m k) (by rw[<-l];exact b.val k)
 have hp:(keyPart u).isSome=true:=by
  cases k with
  | inl i=>obtain⟨t,q⟩:=(show ∃ t,u=uk i t from d);subst q;rfl
  | inr x=>obtain⟨t,q⟩:=(show ∃ t,u=Dj x t from d);subst q;rfl
 have B:argsOk "dict.pop" ⟨.ref a::u::more,[]⟩:=by
  rcases g with q | ⟨x,q⟩
  ·subst q;exact PySem.F.args_dict_pop_2 _ _
  ·subst q;exact PySem.F.args_dict_pop_3 _ _ _
 refine BZ DT n.typeIs PySem.F.entry_dict_pop B (meets_dict_pop_there (kX X.prog X.w) a (uS d) more g hp)
  ⟨m,w',n,by rw[<-b.length];exact z,y,λ r c p=>h w' _ ?_ f⟩
 have C:∃ q,r.get? a=some q:=let ⟨q,_,_,hq,_⟩:=c;⟨q,hq⟩;exact zA I (by rw[e];exact nj) p C (mE (fz (kNY kvs k) z) D (b.drop k) c)
end
def kVQ(i:iC):Prop:=∀ ov a,subscripted i false ov a=operate [ov,a] (getItem ov a)
def kOQ{prog:eU}{w:gk}{A:fb}{E:ao->av->Prop}{s:av}{env:Env}{value a:iC}{l:Pos}{T id:String}{Q:ao->av->Prop}
  (p:typeLookup (.type T) "__getitem__" = pure (some (.builtin id))) (n:kVQ a)
  (h:cx (model prog w) A (eval value env) (λ o s₁=>cx (model prog w) A (eval a env) (λ i s₂=>s₂.TypeIs o T/\cx (model prog w) A (getItem o i) Q E s₂) E s₁) E s) :
  cx (model prog w) A (eval (.Subscript value a l) env) Q E s:=by
 refine Fk (xj h (λ o s₁ f=>xj f (λ i s₂ b=>?_) λ _ _ x=>x) λ _ _ x=>x);obtain⟨m,b⟩:=b;unfold subscriptTail;refine ae ?_;rw[getitemInPython_of_ne m.not_modules];refine ae (AC m p ?_)
 have d:cx (model prog w) A (subscripted a false o i) (λ r c=>cx (model prog w) A (letTemporaryGo value o r >>= λ _=>pure r) Q E c) E s₂:=by
  rw[n o i];exact wpAny_operating (xj b (λ r c g=>ae (wpAny_letTemporaryGo (az g))) λ _ _ x=>x)
 first
  | exact az (ae d)
  | exact ae (az (ae d))
  | exact ae d
def kCB{X:Cx}{c:List (ay×Obj)}{h:St}{H:Hp}{s:av}{a:ay}{y:V}{o:Option V}(I:Inv X c h H s)(g:DGet H a y o):s.TypeIs (.ref a) "dict":=by
 rcases g with⟨d,k,e,_,_⟩ | ⟨d,k,b,e,_,_,_⟩
 ·obtain⟨_,_,i,_,f⟩:=mD I.hok e
  exact f.typeIs
 ·obtain⟨_,_,l,_,f⟩:=mC I.hok e
  exact f.typeIs
inductive kKW(Q:VK)(x:V)(y:V)(H2:Hp):Prop
 | mk:∀ a v,(x=.ref a)->(DGet H2 a y (some v))->(Q v H2)->kKW Q x y H2
def kUG(c f:TE):TE:=λ a H Q=>c a H λ x d=>f a d λ y b=>kKW Q x y b
inductive kQQ(Q:VK)(y:V)(x:V)(H2:Hp):Prop
 | mk:∀ a o,(x=.ref a)->(DGet H2 a y o)->(Q (.bl o.isSome) H2)->kQQ Q y x H2
def kWA(f c:TE):TE:=λ a H Q=>f a H λ y d=>c a d λ x b=>kQQ Q y x b
inductive tO(Q:VK)(y:V)(x:V)(H2:Hp):Prop
 | mk:∀ a o,(x=.ref a)->(DGet H2 a y o)->(Q (.bl (!o.isSome)) H2)->tO Q y x H2
def kOO(f c:TE):TE:=λ a H Q=>f a H λ y d=>c a d λ x b=>tO Q y x b
inductive kLS(D:Ends)(σ:St)(v:V)(x:V)(y:V)(H3:Hp):Prop
 | mk:∀ a H4,(x=.ref a)->(DPut H3 a y v H4)->(D.nx σ H4)->kLS D σ v x y H3
def kUJ(d h f:TE):TS:=λ D a H=>f a H λ v g=>d a g λ x b=>h a b λ y c=>kLS D a v x y c
section
variable {X:Cx} {o i e value:iC} {pos pos' tpos:Pos} {td ty tv:TE}
def wU(D:X.A.units+1<cLine)(m:PE X o td)(hi:PE X i ty)(G:kVQ i):PE X (.Subscript o i pos) (kUG td ty):=by
 intro b s f H Q I h;refine kOQ PySem.F.slot_dict_getitem.lookup G (thn (m b s f H _ I h) λ u n ⟨x,l,J,M,r⟩=>thn (hi b n f l _ J r) λ N O ⟨y,p,d,B,a,v,q,g,C⟩=>?_);subst q;obtain rfl:u=iM a:=M;exact⟨kCB d g,kJQ D d g B λ S T L c=>⟨v,p,L,c,C⟩⟩
def kMM(B:X.A.units+1<cLine)(hi:PE X i ty)(f:PE X o td):PC X .In i o (kWA ty td):=by
 intro b s c H Q I h;refine thn (hi b s c H _ I h) λ J l ⟨y,d,C,r,q⟩=>thn (f b l c d _ C q) λ u L ⟨x,m,p,G,a,ov,n,g,v⟩=>?_;subst n;obtain rfl:u=iM a:=G;exact kWJ B p g r λ M D=>⟨.bl ov.isSome,m,D,rfl,v⟩
def oN(B:X.A.units+1<cLine)(hi:PE X i ty)(f:PE X o td):PC X .NotIn i o (kOO ty td):=by
 intro b s c H Q I h;refine thn (hi b s c H _ I h) λ J l ⟨y,d,C,r,q⟩=>thn (f b l c d _ C q) λ u L ⟨x,m,p,G,a,ov,n,g,v⟩=>?_;subst n;obtain rfl:u=iM a:=G;exact kQG B p g r λ M D=>⟨.bl (!ov.isSome),m,D,rfl,v⟩
def kGB(O:X.A.units+1<cLine)(f:PE X o td)(hi:PE X i ty)(U:PE X value tv)(Q:swapsWith value (some (.Subscript o i pos')) pos.line X.env=pure false) :
  PS X (.Assign [.Subscript o i pos'] value pos) (kUJ td ty tv):=by
 intro b s c H D I h;refine wpAny_Assign_Subscript (thn (U b s c H _ I h) λ r l ⟨v,d,T,q,G⟩=>thn (f b l c d _ T G) λ u m ⟨x,n,C,B,M⟩=>thn (hi b m c n _ C M) λ iv s3 ⟨y,Z,Y,J,a,N,p,g,L⟩=>?_) Q;subst p;obtain rfl:u=iM a:=B;exact kJP O Y g J q λ s4 S=>⟨c,N,S,L⟩
end
def kCA{P:eU}{w:gk}{H:Hp}(h:iD)(a:sysModules<h.objs.size):ObjOk P w H (h.push {cls:=.type "dict",data:=.dict #[]}) h.objs.size (.dK []) :=
 ⟨fj _,beq_eq_false_iff_ne.mpr (qe (df a)),[],.nil,DI h⟩
def kNX{P:eU}{w:gk}{H:Hp}(h:iD)(a:sysModules<h.objs.size):ObjOk P w H (h.push {cls:=.type "dict",data:=.dict #[]}) h.objs.size (.dT []) :=
 ⟨fj _,beq_eq_false_iff_ne.mpr (qe (df a)),[],.nil,_,#[],0,cg _ rfl,⟨rfl,rfl,rfl⟩,rfl,rfl,yv⟩
def kRS:TE:=λ _ H Q=>∀ p,H p=none->Q (.ref p) (upd H p (.dK []))
def kRR:TE:=λ _ H Q=>∀ p,H p=none->Q (.ref p) (upd H p (.dT []))
section
variable {X:Cx} {pos:Pos}
def kAT:PE X (.Dict [] [] pos) kRS:=λ b s c H Q I h =>
 FB ⟨.ref s.heap.objs.size,_,I.laid (a:=s.heap.objs.size) (o:=.dK []) (t':=s.toks) (λ _ _ q=>ar _ q) (bg _) (kCA s.heap I.big),rfl,h _ (I.hok.fresh (bg _))⟩
def kMJ:PE X (.Dict [] [] pos) kRR:=λ b s c H Q I h =>
 FB ⟨.ref s.heap.objs.size,_,I.laid (a:=s.heap.objs.size) (o:=.dT []) (t':=s.toks) (λ _ _ q=>ar _ q) (bg _) (kNX s.heap I.big),rfl,h _ (I.hok.fresh (bg _))⟩
end
structure M1(X:Cx)(o:iC)(m:Str)(apos:Pos)(e:iC)(cpos:Pos):Prop where
 base:attributeBase o m X.env (eval o X.env)=eval o X.env
 few:((backTo cpos (starEach [e] X.env)).all (λ x=>!x.1) && (backToKw cpos (keywordEach [] X.env)).all (λ x=>x.1.isSome)
  && decide (([e]:List iC).length+([]:List CJ).length+(if([]:List CJ).isEmpty then 0 else 1)<30))=true
 line:(apos.endLine == cpos.line)=true
 trees:backTo cpos (starEach [e] X.env)=[(false,eval e X.env)]
structure M2(X:Cx)(o:iC)(m:Str)(apos:Pos)(e f:iC)(cpos:Pos):Prop where
 base:attributeBase o m X.env (eval o X.env)=eval o X.env
 few:((backTo cpos (starEach [e,f] X.env)).all (λ x=>!x.1) && (backToKw cpos (keywordEach [] X.env)).all (λ x=>x.1.isSome)
  && decide (([e,f]:List iC).length+([]:List CJ).length+(if([]:List CJ).isEmpty then 0 else 1)<30))=true
 line:(apos.endLine == cpos.line)=true
 trees:backTo cpos (starEach [e,f] X.env)=[(false,eval e X.env),(false,eval f X.env)]
def IsD(H:Hp)(a:ay):Prop:=(∃ b,Rd H a (.dK b))\/∃ b,Rd H a (.dT b)
def kNB{X:Cx}{f:List (ay×Obj)}{l:St}{H:Hp}{s:av}{a:ay}(I:Inv X f l H s)(d:IsD H a) :
  s.TypeIs (.ref a) "dict"/\(∀ b,iM a=.ref b->∃ ob,s.heap.get? b=some ob/\ob.dict=none)/\(a == sysModules)=false:=by
 rcases d with⟨g,e⟩ | ⟨g,e⟩
 ·obtain⟨_,h,m,_,c⟩:=mD I.hok e
  refine⟨c.typeIs,λ b q=>?_,h⟩;cases q
  obtain⟨ob,_,_,h1,i,_⟩:=c;exact⟨ob,h1,i.2.1⟩
 ·obtain⟨_,h,n,_,c⟩:=mC I.hok e
  refine⟨c.typeIs,λ b q=>?_,h⟩;cases q
  obtain⟨ob,_,_,h1,i,_⟩:=c;exact⟨ob,h1,i.2.1⟩
section
variable {X:Cx} {pins:List (ay×Obj)} {σ:St} {H:Hp} {s:av} {a:ay} {y d:V} {u r:ao} {o:Option V} {A:fb} {E:ao->av->Prop}
def kTR{Q:ao->av->Prop}(B:A.units+1<cLine)(I:Inv X pins σ H s)(g:DGet H a y o)(q:RelV y u)(p:RelV d r)(h:∀ w' s',Inv X pins σ H s'->RelV (o.getD d) w'->Q w' s') :
  cx (model X.prog X.w) A (call (.builtin "dict.get") [.ref a,u,r]) Q E s:=by
 rcases g with⟨i,k,e,m,l⟩ | ⟨i,k,b,e,m,x,l⟩
 ·subst m
  obtain⟨z,n,C,c,f⟩:=mD I.hok e;refine BZ Am f.typeIs Cv (Cf _ _ _) (meets_dict_get_default (kX X.prog X.w) a (uS q) n r) ⟨_,f.mapOf,h _ _ (I.tok _) ?_⟩;rw[l];exact(c.val k).getD p
 ·subst m
  cases(show u=iM b from q)
  obtain⟨z,n,v,c,f⟩:=mC I.hok e;refine BZ Am f.typeIs Cv (Cf _ _ _) (meetsH_dict_get_default (tupleKind (kX X.prog X.w)) a b n r) ⟨uy B,k,v,aH I.hok x,f,h _ _ (I.tok _) ?_⟩;rw[l];exact(c.val k).getD p
end
inductive kFB(ty:TE)(tx:TE)(σ:St)(Q:VK)(x:V)(H1:Hp):Prop
 | mk:∀ a,(x=.ref a)->(IsD H1 a)->(ty σ H1 λ y H2=>tx σ H2 λ z H3=>∃ o,DGet H3 a y o/\Q (o.getD z) H3)->kFB ty tx σ Q x H1
def kRT(b d f:TE):TE:=λ a H Q=>b a H λ x c=>kFB d f a Q x c
inductive kFA(ty:TE)(σ:St)(Q:VK)(x:V)(H1:Hp):Prop
 | mk:∀ a,(x=.ref a)->(IsD H1 a)->(ty σ H1 λ y H2=>∃ kvs k v,H2 a=some (.dK kvs)/\y=kV k/\qR kvs k=some v/\Q v (upd H2 a (.dK (xX kvs k))))->kFA ty σ Q x H1
def kRQ(b d:TE):TE:=λ a H Q=>b a H λ x c=>kFA d a Q x c
section
variable {X:Cx} {o e f:iC} {apos cpos:Pos} {td ty tx:TE}
def kMK(U:X.A.units+1<cLine)(q:PE X o td)(L:PE X e ty)(N:PE X f tx)(m:M2 X o "get" apos e f cpos):PE X (.Call (.Attribute o "get" apos) [e,f] [] cpos) (kRT td ty tx):=by
 intro b s i H Q I h;refine EZ m.base m.few m.line AU Am PySem.F.type_dict_get (thn (q b s i H _ I h) λ u r ⟨x,p,l,rx,a,D,d,J⟩=>?_);subst D;obtain rfl:u=iM a:=rx;obtain⟨O,Z,_⟩:=kNB l d;refine⟨O,Z,?_⟩;rw[m.trees]
 refine xp rfl (BF (AI (thn (L b r i p _ l J) λ iv B ⟨y,C,G,M,T⟩ =>
  AI (thn (N b B i C _ G T) λ fv s3 ⟨z,n,I3,v,ov,g,S⟩=>CI ?_))))
 exact kTR U I3 g M v λ w' s4 Y c=>⟨_,n,Y,c,S⟩
def kMI(n:PE X o td)(C:PE X e ty)(m:M1 X o "pop" apos e cpos):PE X (.Call (.Attribute o "pop" apos) [e] [] cpos) (kRQ td ty):=by
 intro b s f H Q I h;refine EZ m.base m.few m.line AU DT PySem.F.type_dict_pop (thn (n b s f H _ I h) λ u p ⟨x,i,g,S,a,r,d,B⟩=>?_);subst r;obtain rfl:u=iM a:=S;obtain⟨G,L,_⟩:=kNB g d;refine⟨G,L,?_⟩;rw[m.trees];refine xp rfl (BF (AI (thn (C b p f i _ g B) λ U Z ⟨y,H2,A,D,M,k,v,N,q,l,J⟩=>CI ?_)));subst q;exact kVH A N D l (.inl rfl) λ T Y O c=>⟨v,_,O,c,J⟩
end
section
variable {X:Cx} {pins:List (ay×Obj)} {σ:St} {H:Hp} {s:av} {a:ay} {kvs:List (Key×V)} {A:fb} {E:ao->av->Prop}
end
section
variable {X:Cx} {pins:List (ay×Obj)} {σ:St} {H:Hp} {s:av} {a:ay} {y:V} {u:ao} {A:fb} {E:ao->av->Prop}
end
section
variable {κ:Type} [DecidableEq κ]
end
end L2
set_option maxHeartbeats 4000000
namespace L2
open PySem PySem.Spec PyProof.Rows
abbrev TB:=(St->Hp->Prop)->St->Hp->Prop
def PBd(X:Cx)(code:Sem Unit)(b:TB):Prop :=
 ∀(pins:List (ay×Obj))(s:av)(σ:St)(H:Hp)(N:St->Hp->Prop),Inv X pins σ H s->b N σ H ->
  cx (model X.prog X.w) X.A code (λ _ d=>∃ a c,Inv X pins a c d/\N a c) X.xe s
def PTl(X:Cx)(tail:Sem uo)(L:HX)(b:TB):Prop :=
 ∀(pins:List (ay×Obj))(s:av)(σ:St)(H:Hp)(N:St->Hp->Prop),Inv X pins σ H s->b N σ H ->
  cx (model X.prog X.w) X.A tail (λ c f=>c=.again L/\∃ a d,Inv X pins a d f/\N a d) X.xe s
def xJ(a:List iC)(env:Env)(body:Sem Unit)(L:HX):Sem uo :=
 (forIn a true λ c r=>if r=true then do let ok <-isTrue c env (eval c env);pure (ik ok) else pure (ik r)) >>= λ ok=>if ok=true then body >>= λ _=>again L else again L
def vP(J:It)(g:TG)(b:TB)(n:St->Hp->Prop)(c:St)(H:Hp):Prop :=
 ∃ W:Nat->Nat->St->Hp->Prop,(∃ m,W 0 m c H)/\∀ i m c H,W i m c H ->
  (J.stop i H/\n c H)\/(J.go i H/\∃ N:St->Hp->Prop,(∀ a d,N a d->∃ h,h<m/\W (i+1) h a d)/\∀ x d,J.yld i H x d->g x c d λ f l=>b N f l)
section
variable {X:Cx} {e tg:iC} {gens:List Dv} {sc:wq} {cpos:Pos} {d:Nat} {it:ay} {acc:ao} {tail:Sem uo} {p:Pos} {g:TG} {b:TB} {J:It} {fp:List ay} {tn:Nat->iD->Prop} {N0:St->Hp->Prop} {R:Ew->av->Prop}
def xQ(he:(∃ el,e=.ListComp el gens sc cpos)\/∃ k v,e=.DictComp k v gens sc cpos)(hx:X.xe=λ _ _=>False)(hc:X.calm=true)
  (ht:compTurn e d (.ref it) acc X.env=(standAt p >>= λ _=>pyNext (.ref it) >>= λ r=>match r with
   | none=>pure (.done .next)
   | some v=>letOwnedTupleGo tg (.ref it) v >>= λ _=>assign tg X.env v >>= λ _=>tail))
  (T:Turn X.prog X.w X.K tg J fp it tn) (hg:PG X tg g) (c:PTl X tail (.compLoop e d (.ref it) acc X.env) b) {a:List (ay×Obj)} {U:St} {H:Hp} {s:av}
  (I:Inv X a U H s) (st:tn 0 s.heap) (f2:∀ b∈fp,yN X a H b) (hw:vP J g b N0 U H)
  (hR:∀ σ' H' s',Inv X a σ' H' s'->N0 σ' H'->R (.ok .next) s') :
  codeAny (model X.prog X.w) X.A (.compLoop e d (.ref it) acc X.env) R s:=by
 obtain⟨W,⟨m0,w0⟩,turn⟩:=hw;have f:∀{H':Hp},(∀ b∈fp,H' b=none)->∀ b∈fp,yN X a H' b:=λ hn b c=>⟨hn b c,(f2 b c).2⟩;refine codeAny_loop rfl (λ n s'=>∃ i σ' H',Inv X a σ' H' s'/\tn i s'.heap/\(∀ b∈fp,H' b=none)/\W i n σ' H') ?_ m0 ⟨0,U,H,I,st,λ b c=>(f2 b c).1,w0⟩;rintro n s3 ⟨i,l,L,I3,C,G,w3⟩
 have m:(model X.prog X.w).den (.compLoop e d (.ref it) acc X.env)=((compTurn e d (.ref it) acc X.env).onRaise (λ x=>do noteFrame x X.env;theTreesLotGoes x))/\X.A.under (.compLoop e d (.ref it) acc X.env)=X.A:=by
  rcases he with⟨el,rfl⟩ | ⟨k,v,rfl⟩<;>exact⟨rfl,rfl⟩
 rw[m.1,m.2];show cx _ _ ((compTurn e d (.ref it) acc X.env).onRaise (λ x=>do noteFrame x X.env;theTreesLotGoes x)) _ _ s3;refine wpAny_noted ?_;rw[ht]
 have B:∀{α:Type}{t:Sem α}{Q:α->av->Prop}{E:ao->av->Prop}{s:av},cx (model X.prog X.w) X.A t Q X.xe s->cx (model X.prog X.w) X.A t Q E s :=
  λ h=>xj h (λ _ _ q=>q) λ _ _ q=>by rw[hx]at q;exact q.elim
 refine ae (yd (ae ?_));rcases turn i n l L w3 with⟨stop,qn⟩ | ⟨go,N,hN,step⟩
 ·refine B (thn (T.done X rfl rfl rfl hc i a s3 l L X.xe I3 (f G) C stop) λ r s4 ⟨Z,I4⟩=>?_)
  subst Z;exact az (hR _ _ _ I4 qn)
 ·refine B (thn (T.item X rfl rfl rfl hc i a s3 l L X.xe I3 (f G) C go) λ r s4 ⟨u,Z,h4⟩=>?_)
  subst Z;refine ae (B (thn h4 λ _ s5 ⟨x,H5,I5,r5,y5,y,M⟩=>?_));have S:=I5.pinned (f M) (T.obj _ _ y);refine ae (B (thn (hg _ s5 l H5 x u _ S r5 (step x H5 y5)) λ _ s6 ⟨O,H6,I6,q6⟩=>?_));refine B (thn (c _ s6 O H6 _ I6 q6) λ a0 s7 ⟨hf,D,H7,Y,n7⟩=>?_);subst hf;obtain⟨m',hm,w7⟩:=hN D H7 n7;refine⟨rfl,m',hm,i+1,D,H7,Y.unpinned,T.keep _ _ _ y λ b c o e=>(Y.pin (b,o) (cw _ (cw _ (wY c e)))).1,λ b c=>?_,w7⟩;obtain⟨o,e,d⟩:=T.obj _ _ y b c;exact(Y.pin (b,o) (cw _ (cw _ (wY c e)))).2.1
end
def bIf(t:TT)(b:TB):TB:=λ N a H=>t a H λ c d=>if c=true then b N a d else N a d
def qO{X:Cx}{body:Sem Unit}{L:HX}{b:TB}(d:PBd X body b):PTl X (xJ [] X.env body L) L b:=by
 intro a s c H N I h;unfold xJ;refine ae (DJ ?_);show cx _ _ (body >>= λ _=>again L) _ _ s;exact ae (thn (d a s c H N I h) λ _ f q=>az ⟨rfl,q⟩)
def yH{X:Cx}{c:iC}{t:TT}{body:Sem Unit}{L:HX}{b:TB}(i:PT X c t)(m:PBd X body b):PTl X (xJ [c] X.env body L) L (bIf t b):=by
 intro a s d H N I h;unfold xJ;refine ae (wpAny_tests_one (thn (i a s d H _ I h) λ ok l ⟨g,f,q⟩=>?_))
 cases ok with
 | true=>exact ae (thn (m a l d g N f (by simpa using q)) λ _ n q=>az ⟨rfl,q⟩)
 | false=>exact az ⟨rfl,d,g,f,by simpa using q⟩
def kVM(D:ay)(d:TE):TB:=λ N c H=>d c H λ x b=>∃ a,b D=some (.lst a)/\a.length<sizeLine/\N c (upd b D (.lst (a++[x])))
def jB{X:Cx}{d:iC}{f:TE}{D:ay}(o:PE X d f):PBd X (do let _ <-call (.builtin "list.append") [.ref D,<-eval d X.env]) (kVM D f):=by
 intro a s b H N I h;refine ae (thn (o a s b H _ I h) λ u l ⟨x,g,y,r,v,m,i,q⟩=>?_);refine ae (thn (xD a l b g (.ref D) [x] (.ref D) [u] (λ _ c=>N b c) y rfl (.cons r .nil) ⟨D,v,x,rfl,rfl,m,i,q⟩) λ _ A ⟨_,c,n,_,p⟩=>?_);exact az ⟨b,c,n,p⟩
def kEU(f d iter:iC)(c:List iC)(g:wq)(b:Pos)(it a:ao)(env:Env) :
  compTurn (.ListComp f [⟨d,iter,c,0⟩] g b) 0 it a env=(standAt iter.pos >>= λ _=>pyNext it >>= λ r=>match r with
   | none=>pure (.done .next)
   | some v=>letOwnedTupleGo d it v >>= λ _=>assign d env v >>= λ _=>xJ c env (do let _ <-call (.builtin "list.append") [a,<-eval f env]) (.compLoop (.ListComp f [⟨d,iter,c,0⟩] g b) 0 it a env)):=by rfl
def nQ(b:List iC)(env:Env)(a:iC)(next:ao->HX)(L:HX):Sem uo :=
 (forIn b true λ c r=>if r=true then do let ok <-isTrue c env (eval c env);pure (ik ok) else pure (ik r)) >>= λ ok=>if ok=true then
  (eval a env >>= λ x=>standAt a.pos >>= λ _=>foldedSetIterable a env x >>= λ x=>holding [x] (pyIter x) >>= λ i=>runOwn (next i) env >>= λ _=>again L) else again L
def kKL(m h iter g a:iC)(d b:List iC)(l:wq)(c:Pos)(it f:ao)(env:Env) :
  compTurn (.ListComp m [⟨h,iter,d,0⟩,⟨g,a,b,0⟩] l c) 0 it f env=(standAt iter.pos >>= λ _=>pyNext it >>= λ r=>match r with
   | none=>pure (.done .next)
   | some v=>letOwnedTupleGo h it v >>= λ _=>assign h env v >>= λ _=>nQ d env a (λ i=>.compStart (.ListComp m [⟨h,iter,d,0⟩,⟨g,a,b,0⟩] l c) 1 i f env) (.compLoop (.ListComp m [⟨h,iter,d,0⟩,⟨g,a,b,0⟩] l c) 0 it f env)):=by rfl
def kKK(h i iter c a:iC)(g b:List iC)(l:wq)(f:Pos)(it d:ao)(env:Env) :
  compTurn (.ListComp h [⟨i,iter,g,0⟩,⟨c,a,b,0⟩] l f) 1 it d env=(standAt a.pos >>= λ _=>pyNext it >>= λ r=>match r with
   | none=>pure (.done .next)
   | some v=>letOwnedTupleGo c it v >>= λ _=>assign c env v >>= λ _=>xJ b env (do let _ <-call (.builtin "list.append") [d,<-eval h env]) (.compLoop (.ListComp h [⟨i,iter,g,0⟩,⟨c,a,b,0⟩] l f) 1 it d env)):=by rfl
def vE(env:Env)(a:List (Str×ay))(y:Str×uu):List (Str×ay) :=
 if(y.2 == .free)=true then(match env.cells.lookup y.1 with | some c=>(y.1,c)::a | none=>a) else a
def uQ(a:wq)(env:Env):List (Str×ay):=a.names.foldl (vE env) []
def sU(env:Env)(x:Str×uu)(r:List (Str×ay)):Sem (ForInStep (List (Str×ay))) :=
 match x with | (name,kind)=>if(kind == .free)=true then(do let a <-cellOf env name;pure (ik ((name,a)::r))) else pure (ik r)
def kJS{env:Env}{y:Str×uu}{b:List (Str×ay)}(h:y.2=.free->∃ c,env.cells.lookup y.1=some c):sU env y b=pure (ik (vE env b y)):=by
 obtain⟨n,k⟩:=y;unfold sU vE
 cases hk:k == CT with
 | false=>simp[hk]
 | true =>
  obtain⟨c,d⟩:=h (by simpa using hk);have a:List.lookup n env.cells=some c:=d;simp only[hk,if_true,cellOf,a,pure_bind]
theorem mG{env:Env}:∀(l:List (Str×uu))(a:List (Str×ay)),(∀ y∈l,y.2=.free->∃ c,env.cells.lookup y.1=some c) ->
  (forIn l a (sU env):Sem (List (Str×ay)))=pure (l.foldl (vE env) a)
 | [],a,_=>rfl
 | y::r,a,h=>by
  rw[Bm,kJS (h y eV),pure_bind,ux];exact mG r _ λ y b=>h y (dq _ b)
def yD{a:wq}{env:Env}(h:∀ y∈a.names,y.2=.free->∃ c,env.cells.lookup y.1=some c):closureFor a env=pure (uQ a env):=by
 have q:=mG (env:=env) a.names [] h;have z:closureFor a env=(forIn a.names [] (sU env) >>= λ r=>pure r):=rfl;rw[z,q]
 rfl
theorem bR{env:Env}{x:Str}{c:ay}:∀(l:List (Str×uu))(a:List (Str×ay)),(a.lookup x=some c->env.cells.lookup x=some c)->(l.foldl (vE env) a).lookup x=some c->env.cells.lookup x=some c
 | [],a,h,e=>h e
 | (n,k)::r,a,h,e=>by
  rw[ux]at e;refine bR r _ (λ z=>?_) e;unfold vE at z
  split at z
  ·split at z
   ·rename_i c' hc
    rw[Av]at z
    split at z
    ·rename_i hx
     have:x=n:=by simpa using hx
     subst this;cases z
     exact hc
    ·exact h z
   ·exact h z
  ·exact h z
theorem kEN{env:Env}{x:Str}:∀(l:List (Str×uu))(a:List (Str×ay)),(∃ c,env.cells.lookup x=some c)->((∃ c,a.lookup x=some c)\/(x,CT)∈l)->∃ c,(l.foldl (vE env) a).lookup x=some c
 | [],a,_,h=>h.elim id (λ z=>nomatch z)
 | (n,k)::r,a,he,h=>by
  rw[ux];refine kEN r _ he ?_;rcases h with⟨c,h⟩ | h
  ·left
   unfold vE
   split
   ·split
    ·rename_i c' b
     rw[Av]
     split
     ·exact⟨_,rfl⟩
     ·exact⟨c,h⟩
    ·exact⟨c,h⟩
   ·exact⟨c,h⟩
  ·rcases cy.mp h with z | z
   ·cases z
    obtain⟨c,b⟩:=he
    left
    refine⟨c,?_⟩;unfold vE;simp[b]
   ·exact .inr z
structure CS(sc S0:wq):Prop where
 kind:sc.kind=.function
 names:∀ y∈sc.names,y.2=.local->sc.names.lookup y.1=some .local
 nocell:∀ y∈sc.names,y.2≠.cell
 free:∀ y∈sc.names,y.2=.free->S0.names.lookup y.1=some .cell
def zH(env:Env)(y:Str×uu):Str×uu:=if(y.2 == .free && env.scope.kind == .function && env.kindOf y.1 == some .cell)=true then(y.1,.cell) else(y.1,y.2)
def kDI(env:Env)(y:Str×uu):(zH env y).1=y.1:=by
 unfold zH
 split<;>rfl
theorem gN{env:Env}{x:Str}:∀(l:List (Str×uu)),(l.map (zH env)).lookup x=(l.lookup x).map λ k=>(zH env (x,k)).2
 | []=>rfl
 | (n,k)::r=>by
  rw[eX];have e:zH env (n,k)=(n,(zH env (n,k)).2):=rm (kDI env (n,k)) rfl;rw[e,Av,Av]
  cases hx:x == n with
  | true =>
   have:x=n:=by simpa using hx
   subst this
   rfl
  | false=>exact gN r
def cxC(X:Cx)(Nc:List Str)(d:wq)(C:ay)(b:av)(a:Hp)(f:List ay)(c:List (ay×Obj)):Cx :=
 {X with N:=Nc,s₀:=b,H₀:=a,env:=compEnvC d (uQ d X.env) C X.env,outer:=X.stack,ex:=f,fn:=λ _=>false,pn:=X.pn++c}
def cP(js:List (Option Nat))(a:St):St:=js.map λ o=>o.bind λ j=>(a[j]?).join
def bS(js:List (Option Nat))(Nc N:List Str)(names:List (Str×uu)):Bool :=
 decide (js.length=Nc.length) && (js.zip Nc).all λ(o,x)=>match o with | none=>true | some j=>decide (N[j]?=some x) && decide (names.lookup x=some .free)
def kTS{js:List (Option Nat)}{Nc N:List Str}{names:List (Str×uu)}(h:bS js Nc N names=true):js.length=Nc.length/\∀(i j:Nat)(x:Str),js[i]?=some (some j)->Nc[i]?=some x->N[j]?=some x/\names.lookup x=some .free:=by
 unfold bS at h;rw[iP]at h;refine⟨of_decide_eq_true h.1,λ i j x a b=>?_⟩
 have z:(js.zip Nc)[i]?=some (some j,x):=by
  rw[qk];exact⟨a,b⟩
 have q:=ug.mp h.2 _ (eA z);dsimp only at q;rw[iP]at q;exact⟨of_decide_eq_true q.1,of_decide_eq_true q.2⟩
section
variable {X:Cx} {pins:List (ay×Obj)} {σ:St} {H:Hp} {s:av} {sc:wq} {Nc:List Str} {js:List (Option Nat)} {fp:List ay}
def kPN(I:Inv X pins σ H s)(S:CS sc X.env.scope)(f:∀ b∈fp,yN X pins H b)(h:∀ b∈fp,b<s.heap.objs.size){C:ay}(hC:s.heap.objs.size<=C):(cxC X Nc sc C s H fp pins).Ok:=by
 have d:∀ x c,(uQ sc X.env).lookup x=some c->X.env.cells.lookup x=some c:=λ x c e=>bR sc.names [] (λ z=>nomatch z) e;refine⟨I.ok.mod,S.kind,I.ok.glob,I.ok.blt,hC,λ x y c A B=>I.ok.inj x y c (d x c A) (d y c B),λ x G=>?_,λ x c z=>(nomatch z),I.ok.hd,I.ok.frames,.inl rfl,λ b g=>⟨?_,λ x c e=>(f b g).2.2.2.2.1 x c (d x c e)⟩,I.bs,fz I.ok.bsz I.sz,λ b o e g=>?_,λ b g D=>?_,I.stack,I.stkFree⟩
 ·have a:(sc.names.map (zH X.env)).lookup x=some .cell\/(sc.names.map (zH X.env)).lookup x=some .free:=G
  rw[gN]at a
  cases e:sc.names.lookup x with
  | none=>rw[e]at a;rcases a with z | z<;>cases z
  | some k =>
   rw[e]at a;have m:(x,k)∈sc.names:=ko e
   have v:k=.free:=by
    have L:=S.nocell _ m;unfold zH at a;by_cases n:(k == CT)=true
    ·simpa using n
    ·have l:(k == CT)=false:=by simpa using n
     simp only[l,Ff,ya]at a;rcases a with z | z
     ·exact absurd (by simpa using z) L
     ·simpa using z
   subst v;have i:=S.free _ m rfl;obtain⟨c,r⟩:=I.ok.has x (.inl i);exact kEN sc.names [] ⟨c,r⟩ (.inr m)
 ·exact df (dc (h b g) hC)
 ·obtain⟨h0,h1,p,q,u,J⟩:=f b g
  rcases q with z | z
  ·exact I.ok.noex b o e z
  ·exact absurd (dc (cn (I.ok.bs b o e).1) z) (qw _)
 ·obtain⟨h0,h1,p,q,u,J⟩:=f b g
  rcases cy.mp (I.stkSub b D) with z | z
  ·exact h1 z
  ·exact p z
def wK(I:Inv X pins σ H s)(S:CS sc X.env.scope)(f:∀ b∈fp,yN X pins H b)(J:∀ b∈fp,b<s.heap.objs.size)(G:bS js Nc X.N sc.names=true){C D:ay}{o:HO}{h₁:iD}{m:Str->Option ao}{tk:Nat}
  (hC:s.heap.objs.size<=C) (n:s.heap.objs.size<=D) (Q:D≠C) (l:∀ b ob,s.heap.get? b=some ob->h₁.get? b=some ob) (L:h₁.Ns C m) (new:ObjOk X.prog X.w (upd H D o) h₁ D o) :
  Inv (cxC X Nc sc C s H fp pins) [] (cP js σ) (upd H D o) {s with heap:=h₁,toks:=tk}:=by
 have h:∀ x c,(uQ sc X.env).lookup x=some c->X.env.cells.lookup x=some c:=λ x c e=>bR sc.names [] (λ z=>nomatch z) e;have fresh:∀ a,s.heap.objs.size<=a->H a=none:=λ a ha=>I.hok.fresh ha;obtain⟨cl,cp⟩:=kTS G;refine⟨kPN I S f J hC,rfl,I.bare,Un.laid l n (fresh D n),⟨m,L,λ i x v e1 g e3=>?_⟩,λ x c e=>?_,?_,λ x c e=>?_,λ p hp=>?_,I.hok.laid l n new,?_⟩
 ·-- a name of the frame's
  unfold cP at g;rw[bh]at g
  cases ej:js[i]? with
  | none=>rw[ej]at g;cases g
  | some oj =>
   rw[ej]at g
   cases oj with
   | none=>cases g
   | some j =>
    obtain⟨hN,d⟩:=cp i j x ej e1
    have hv:σ[j]?=some (some v):=by
     simp only[ya,Option.bind_some,Hb]at g
     cases e:σ[j]? with
     | none=>rw[e]at g;cases g
     | some w=>rw[e]at g;exact congrArg some g
    have O:X.env.kindOf x=some .cell:=S.free _ (ko d) rfl;obtain⟨m',Z,hl⟩:=I.loc;obtain⟨u,r,Y⟩:=hl j x v hN hv (.inr (.inl O));refine⟨u,r,.inr ⟨.inl ?_,?_⟩⟩
    ·show(sc.names.map (zH X.env)).lookup x=some .cell
     rw[gN,d];unfold zH;simp[I.ok.kind,O]
    ·rcases Y with⟨z,_⟩ | ⟨_,c,T,A⟩
     ·rw[O]at z;cases z
     ·obtain⟨M,y⟩:=kEN sc.names [] ⟨c,T⟩ (.inr (ko d))
      have:M=c:=cc ((h x M y).symm.trans T);subst this;exact⟨M,y,A.keeps l⟩
 ·obtain⟨v,A⟩:=I.cell x c (h x c e)
  exact⟨v,A.keeps l⟩
 ·show upd H D o C=none
  rw[kK Q.symm];exact fresh C hC
 ·have q:=h x c e
  obtain⟨v,A⟩:=I.cell x c q;show upd H D o c=none;rw[kK (df (dc A.lt n))];exact I.freeC x c q
 ·have B:p∈X.pn++pins:=by
   rcases bu.mp hp with z | z
   ·exact z
   ·exact absurd z (by simp)
  obtain⟨U,a2,a3,a4,a5⟩:=I.pin p B;have lt:=cn U;refine⟨l _ _ U,?_,df (dc lt hC),λ z=>?_,a5⟩
  ·rw[kK (df (dc lt n))]
   exact a2
  ·rcases cy.mp (I.stkSub _ z) with z | z
   ·exact a3 z
   ·exact a4 z
 ·unfold cP
  rw[aj];exact cl
def wL{C:ay}{l:St}{H':Hp}{i:av}{h':iD}(I:Inv X pins σ H s)(f:∀ b∈fp,yN X pins H b)(hC:s.heap.objs.size<=C)(J:Inv (cxC X Nc sc C s H fp pins) [] l H' i)(p:jx C i.heap h') :
  Inv X pins σ H' {i with heap:=h'}:=by
 have u:=J.base;have o:H' C=none:=J.free;have stay:∀ b a,b≠C->i.heap.get? b=some a->h'.get? b=some a:=λ b a g e=>p.extBut b a g e;have d:∀ b a,s.heap.get? b=some a->b≠C:=λ b a e=>df (dc (cn e) hC);refine I.call' (ch:=fp) J.os ?_ (λ b v e=>?_) J.bare λ b g=>⟨(f b g).2.2.2.1,(f b g).2.1,(f b g).2.2.2.2.1,(f b g).2.2.2.2.2⟩
 ·refine⟨λ b a e n h1 h=>stay b a (d b a e) (u.keep b a e n h1 h),λ b a e n h1 h=>?_,u.free,λ b a e h=>?_,u.tups,u.frzs,u.tbls⟩
  ·obtain⟨y,q⟩:=u.slot b a e n h1 h
   exact⟨y,stay b _ (d b a e) q⟩
  ·obtain⟨x,q⟩:=u.there b a e h
   exact⟨x,stay b _ (d b a e) q⟩
 ·have m:∀ c w,H' c=some w->c≠C:=λ c w e z=>by rw[z,o]at e;cases e
  refine(J.hok b v e).stay (λ c w r q=>stay c w ?_ q) (λ _ q=>q) λ _ _ q=>q;rcases r with z | z
  ·rw[z];exact m b v e
  ·exact m c _ z
end
section
variable {X:Cx} {e tg iter el:iC} {ifs:List iC} {gens rest:List Dv} {sc:wq} {pos:Pos} {Nc:List Str} {js:List (Option Nat)} {wi:TI}
def jY{prog:eU}{w:gk}{A:fb}{env:Env}{R:Ew->av->Prop}{s:av}{d:Nat}{it a:ao}{g:Dv}(m:(∃ el,e=.ListComp el gens sc pos)\/∃ k v,e=.DictComp k v gens sc pos)
  (l:(clausesOf e)[d]?=some g) (f:g.is_async=0)
  (h0:codeAny (model prog w) A (.compLoop e d it a env) R s)
  (h:cx (model prog w) A (pyIter it) (λ it' s'=>codeAny (model prog w) A (.compLoop e d it' a env) R s') (λ _ _=>False) s) :
  codeAny (model prog w) A (.compStart e d it a env) R s:=by
 refine DK ?_
 have b:(model prog w).den (.compStart e d it a env)=((compStart e d it a env).onRaise (λ x=>do noteFrame x env;standAt theWindowsPlace))/\A.under (.compStart e d it a env)=A:=by
  rcases m with⟨el,rfl⟩ | ⟨k,v,rfl⟩<;>exact⟨rfl,rfl⟩
 have n:∀ d it a,(Code.compLoop e d it a env).quiet=true:=λ _ _ _=>rfl;rw[b.1,b.2];refine wpAny_notedAt ?_;unfold compStart;rw[l];have i:((some g).elim false λ x=>x.is_async != 0)=false:=by show(g.is_async != 0)=false;rw[f];rfl
 rw[i];show cx _ _ (ask >>= _) _ _ s;refine ae (wpAny_askSetting (wpAny_ite ?_))
 split
 ·first
   | exact ae (az (az (Gu rfl h0)))
   | exact az (Gu rfl h0)
 ·refine ae (uz ?_)
  show cx _ _ (standAt g.iter.pos >>= _) _ _ s;exact ae (yd (ae (xj h (λ it' s' c=>az (Gu rfl c)) λ _ _ x=>x.elim)))
def tLC(js:List (Option Nat))(c:TI)(g:TG)(d:ay->TB):TE:=λ b H Q=>c b H λ J a=>∀ D,a D=none->vP J g (d D) (λ _ f=>Q (.ref D) f) (cP js b) (upd a D (.lst []))
def jF{g:TG}{bd:ay->TB}(hx:X.xe=λ _ _=>False)(hc:X.calm=true)(hi:PI X tg iter wi)(S:CS sc X.env.scope)(a0:bS js Nc X.N sc.names=true)
  (hg:∀ C s₂ H₂ fp pins,PG (cxC X Nc sc C s₂ H₂ fp pins) tg g)
  (m:∀ C s₂ H₂ fp pins D L,PTl (cxC X Nc sc C s₂ H₂ fp pins) (xJ ifs (cxC X Nc sc C s₂ H₂ fp pins).env (do let _ <-call (.builtin "list.append") [.ref D,<-eval el (cxC X Nc sc C s₂ H₂ fp pins).env]) L) L (bd D))
  (hs:∀ x,foldedSetIterable iter X.env x=pure x:=by intro _;rfl) :
  PE X (.ListComp el [⟨tg,iter,ifs,0⟩] sc pos) (tLC js wi g bd):=by
 intro pins s σ H Q I h;rw[eval_ListComp];have a3:closureFor sc X.env=pure (uQ sc X.env):=yD λ y hy hf=>I.ok.has y.1 (.inl (S.free y hy hf));refine mh (use:=none) rfl hs a3 S.kind S.names (thn (hi pins s σ H _ I h) λ v s1 h1=>thn h1 λ a5 d h2=>?_);obtain⟨it,fp,tn,J,M,e,I2,T,Z,f2,hw⟩:=h2;subst e;have r:∀ b∈fp,b<d.heap.objs.size:=λ b m=>let ⟨o,ho,_⟩:=T.obj _ _ Z b m;cn ho;refine iQ (se S.nocell (by intro y hy;simp at hy) (λ i f a=>?_) S.kind);dsimp only at f a ⊢;generalize u:d.heap.push {cls:=.type "list",dict:=none,data:=.seq ([]:List ao).toArray}=G at f a ⊢;have a4:G.objs.size=d.heap.objs.size+1:=by rw[<-u,jq]
 have U:d.heap.objs.size≠G.objs.size:=by omega
 have l:d.heap.objs.size<=G.objs.size:=by omega
 have O:∀ b o,d.heap.get? b=some o->i.get? b=some o:=λ b o e=>a.extBut b o (df (dc (cn e) l)) (ar _ (u ▸ ar _ e));have B:i.get? d.heap.objs.size=some {cls:=.type "list",dict:=none,data:=.seq ([]:List ao).toArray}:=a.extBut _ _ U (ar _ (u ▸ cg _ rfl));have new:ObjOk X.prog X.w (upd M d.heap.objs.size (.lst [])) i d.heap.objs.size (.lst []):=⟨fj _,[],_,.nil,B⟩;have I4:=wK (js:=js) (Nc:=Nc) (tk:=d.toks+([]:List (Str×ao)).length) I2 S f2 r a0 l (bg _) U O f new;have hn:M d.heap.objs.size=none:=I2.fresh
 have f4:∀ b∈fp,yN (cxC X Nc sc G.objs.size d M fp pins) [] (upd M d.heap.objs.size (.lst [])) b:=λ b m=>by
  obtain⟨h0,h1,h2,h3,h4,h5⟩:=f2 b m;refine⟨?_,df (dc (r b m) l),λ z=>?_,.inl m,λ x c z=>?_,λ p hp=>?_⟩
  ·rw[kK (df (r b m))];exact h0
  ·rcases cy.mp (I2.stkSub b z) with q | q
   ·exact h1 q
   ·exact h2 q
  ·exact h4 x c (bR sc.names [] (λ z=>nomatch z) z)
  ·rcases bu.mp hp with z | z
   ·exact h5 p z
   ·exact absurd z (by simp)
 have Y:tn 0 i:=T.keep _ _ _ Z λ b m o e=>O b o e
 have n:codeAny (model X.prog X.w) X.A (.compLoop (.ListComp el [⟨tg,iter,ifs,0⟩] sc pos) 0 (.ref it) (.ref d.heap.objs.size) (compEnvC sc (uQ sc X.env) G.objs.size X.env))
   (compPost (model X.prog X.w) X.A X.xe none (EP X pins σ Q) (.ref d.heap.objs.size) G.objs.size) {d with heap:=i,toks:=d.toks+([]:List (Str×ao)).length}:=by
  refine xQ (X:=cxC X Nc sc G.objs.size d M fp pins) (.inl ⟨el,rfl⟩) hx hc (kEU _ _ _ _ _ _ _ _ _) T (hg _ _ _ _ _) (m _ _ _ _ _ _ _) I4 Y f4 (hw _ hn) λ a6 H' s' I' q=>?_;obtain⟨m',a1,_⟩:=I'.loc;exact⟨m',a1,λ h' a2=>⟨.ref d.heap.objs.size,H',wL I2 f2 l I' a2,rfl,q⟩⟩
 exact jY (.inl ⟨el,rfl⟩) rfl rfl n (T.self _ _ _ _ _ Y n)
end
section
variable {X:Cx}
inductive kFX(x:V)(vs:List V)(H:Hp)(Q:VK):Prop
 | mk:∀ l xs i y,(x=.ref l)->(vs=[.int i,y])->(H l=some (.lst xs))->(0<=i)->(i<2 ^ 62)->(xs.length<sizeLine)->(Q .non (upd H l (.lst (xs.take i.toNat++y::xs.drop i.toNat))))->kFX x vs H Q
def oS:MtM X "list.insert" kFX:=by
 intro d s G H x D v C Q I p o h;obtain⟨l,L,i,y,rfl,rfl,f,h1,B,A,q⟩:=h;cases p
 obtain⟨u,w,rfl,⟨t,rfl⟩,c⟩:=o.two;obtain⟨z,a,n,r,J,e⟩:=I.lstM f
 refine Au F.slot_list_insert ⟨_,e,rfl⟩ F.entry_list_insert (F.args_list_insert_3 _ _ _)
  (AutoSeq1.list_insert_list_int_val_1 l a.toArray n i t w (by rw[Fv (by omega) (by omega)];decide) (by rw[eR];omega)) ⟨e,?_⟩
 refine⟨.non,_,I.lset (its':=a.take i.toNat++w::a.drop i.toNat) f e ?_ ((r.take i.toNat).append (.cons c (r.drop i.toNat))) ?_,rfl,q⟩
 ·have m:¬ i<0:=by omega
  simp only[m,if_false,eR];apply Array.toList_inj.mp;simp;by_cases g:i.toNat<=a.length
  ·rw[kh g,ka (l:=Hg i.toNat a) (by rw[iN];omega)]
  ·have b:a.length<=i.toNat:=by omega
   rw[Nat.min_eq_right b,ka (bg _),ka b,kr (bg _),kr b,List.take_nil]
 ·simp only[cq,eJ,eh,iN]
  omega
def uO(a:List Int)(n:Int)(j:Nat):Prop:=a[j]?=some n/\∀ m:Nat,m<j->a[m]?≠some n
def zV{b:List Int}{a:List ao}(r:Vals (b.map V.int) a){m:Nat}(g:m<a.length):∃ k t,b[m]?=some k/\a[m]=uk k t:=by
 have f:=r.length;rw[aj]at f;have d:m<b.length:=by omega
 obtain⟨u,c,q⟩:=r.get (i:=m) (x:=.int b[m]) (by rw[bh,aa d];rfl);obtain⟨t,rfl⟩:=q;refine⟨b[m],t,aa d,?_⟩;rw[aa g]at c;exact cc c
def dG(n:Int)(v:ao):Bool:=match v with | .int k _=>k == n | _=>false
def wR{c:List Int}{a:List ao}(r:Vals (c.map V.int) a)(n:Int)(t:Tok):∀ y,y∈a.toArray->MeetsSeq.EqGives y (.int n t) (dG n y):=λ y d=>by
 obtain⟨m,b,rfl⟩:=fc.mp (List.mem_toArray.mp d);obtain⟨k,f,_,e⟩:=zV r b;rw[e];exact HN _ _ _ _
def cO{g:List Int}{a:List ao}(r:Vals (g.map V.int) a){n:Int}{j:Nat}(h:uO g n j):∃ hj:j<a.toArray.size,dG n a.toArray[j]=true/\∀ m (f:m<a.toArray.size),m<j->dG n a.toArray[m]=false:=by
 have l:=r.length;rw[aj]at l;have hj:j<g.length:=(au.mp h.1).1;have b:j<a.length:=by omega
 refine⟨by rw[eR];exact b,?_,λ m f d=>?_⟩
 ·obtain⟨k,t,c,i⟩:=zV r b
  rw[h.1]at c;cases c
  simp[i,dG]
 ·rw[eR]at f
  obtain⟨k,t,c,i⟩:=zV r f;have:k≠n:=λ z=>h.2 m d (by rw[c,z]);simp[i,dG,this]
inductive kMB(x:V)(vs:List V)(H:Hp)(Q:VK):Prop
 | mk:∀(l:ay)(ns:List Int)(n:Int)(j:Nat),(x=.ref l)->(vs=[.int n])->(H l=some (.lst (ns.map V.int)))->(uO ns n j)->(Q (.int j) H)->kMB x vs H Q
def yI:MtM X "list.index" kMB:=by
 intro b s C H x B v A Q I p g h;obtain⟨l,y,n,j,rfl,rfl,f,c,q⟩:=h;cases p
 obtain⟨u,rfl,t,rfl⟩:=g.one;obtain⟨z,a,m,r,D,e⟩:=I.lstM f;obtain⟨h1,d,i⟩:=cO r c
 have o:(j:Int)<2 ^ 63-1:=by
  have:=cI;rw[eR]at h1;omega
 refine Au F.slot_list_index ⟨_,e,rfl⟩ F.entry_list_index (F.args_list_index_2 _ _) (MeetsSeq.list_index l a.toArray m (.int n t) (dG n) (wR r n t) j h1 o d i) ⟨e,?_⟩;exact⟨.int j,H,I.tok _,⟨_,rfl⟩,q⟩
inductive kFW(x:V)(vs:List V)(H:Hp)(Q:VK):Prop
 | mk:∀(l:ay)(ns:List Int)(n:Int)(j:Nat),(x=.ref l)->(vs=[.int n])->(H l=some (.lst (ns.map V.int)))->(uO ns n j)->(Q .non (upd H l (.lst ((ns.eraseIdx j).map V.int))))->kFW x vs H Q
theorem wZ{α a:Type}(f:α->a):∀(l:List α)(j:Nat),(l.eraseIdx j).map f=(l.map f).eraseIdx j
 | [],j=>by simp
 | x::r,0=>by simp
 | x::r,j+1=>by simp[wZ f r j]
def oR:MtM X "list.remove" kFW:=by
 intro b s B H x A v y Q I p i h;obtain⟨l,d,n,j,rfl,rfl,c,f,q⟩:=h;cases p
 obtain⟨u,rfl,t,rfl⟩:=i.one;obtain⟨z,a,m,r,C,e⟩:=I.lstM c;obtain⟨h1,g,o⟩:=cO r f;refine Au F.slot_list_remove ⟨_,e,rfl⟩ F.entry_list_remove (F.args_list_remove_2 _ _) (MeetsSeq.list_remove l a.toArray m (.int n t) (dG n) (wR r n t) j h1 g o (by rw[eR];omega)) ⟨e,?_⟩;refine⟨.non,_,I.lset (its':=a.eraseIdx j) c e ?_ (by rw[wZ];exact r.eraseIdx j) ?_,rfl,q⟩
 ·show a.toArray.eraseIdxIfInBounds j=(a.eraseIdx j).toArray
  rw[List.eraseIdxIfInBounds_toArray]
 ·rw[aj]
  have:=oW d j;rw[aj]at z;omega
end
def wQ{lo:Int}{n:Nat}{g:TG}{b:TB}{d:St->Hp->Prop}{a:St}{H:Hp}(Pv:Nat->St->Hp->Prop)(h0:Pv 0 a H)
  (f:∀ i a H,i<n->Pv i a H->g (.int (lo+i)) a H λ σ2 H2=>b (Pv (i+1)) σ2 H2) (o:∀ a H,Pv n a H->d a H):vP (Itr lo n) g b d a H:=by
 refine⟨λ i m a H=>m=n-i/\i<=n/\Pv i a H,⟨n,by simp,fj _,h0⟩,?_⟩;rintro i m a H ⟨rfl,s,p⟩;by_cases c:i<n
 ·refine .inr ⟨c,Pv (i+1),λ h r q=>⟨n-(i+1),by omega,rfl,by omega,q⟩,λ x r l=>?_⟩
  obtain⟨rfl,rfl⟩:=l;exact f i a _ c p
 ·have:i=n:=by omega
  subst this;exact .inl ⟨bg _,o a H p⟩
def jM{K:bb}{a:ay}{xs:List V}{g:TG}{b:TB}{l:St->Hp->Prop}{c:St}{H:Hp}(Pv:Nat->St->Hp->Prop)(h0:Pv 0 c H)(f:∀ i c H,i<=xs.length->Pv i c H->SqL K H a xs)
  (n:∀ i x c H,xs[i]?=some x->Pv i c H->g x c H λ σ2 H2=>b (Pv (i+1)) σ2 H2) (s:∀ c H,Pv xs.length c H->l c H):vP (Itl K a) g b l c H:=by
 refine⟨λ i m c H=>m=xs.length-i/\i<=xs.length/\Pv i c H,⟨xs.length,by simp,fj _,h0⟩,?_⟩;rintro i m c H ⟨rfl,d,p⟩;by_cases o:i<xs.length
 ·refine .inr ⟨⟨xs,xs[i],f i c H d p,by simp[o]⟩,Pv (i+1),λ r u q=>⟨xs.length-(i+1),by omega,rfl,by omega,q⟩,λ x u h=>?_⟩
  obtain⟨rfl,h⟩:=h;exact n i x c _ (h xs (f i c _ d p)) p
 ·have:i=xs.length:=by omega
  subst this;exact .inl ⟨⟨xs,f _ c H d p,bg _⟩,s c H p⟩
def yG{K:bb}{a:ay}{xs:List V}{g:TG}{b:TB}{l:St->Hp->Prop}{c:St}{H:Hp}(Pv:Nat->St->Hp->Prop)(h0:Pv 0 c H)(f:∀ i c H,i<=xs.length->Pv i c H->SqT K H a xs)
  (n:∀ i x c H,xs[i]?=some x->Pv i c H->g x c H λ σ2 H2=>b (Pv (i+1)) σ2 H2) (s:∀ c H,Pv xs.length c H->l c H):vP (Itt K a) g b l c H:=by
 refine⟨λ i m c H=>m=xs.length-i/\i<=xs.length/\Pv i c H,⟨xs.length,by simp,fj _,h0⟩,?_⟩;rintro i m c H ⟨rfl,d,p⟩;by_cases o:i<xs.length
 ·refine .inr ⟨⟨xs,xs[i],f i c H d p,by simp[o]⟩,Pv (i+1),λ r u q=>⟨xs.length-(i+1),by omega,rfl,by omega,q⟩,λ x u h=>?_⟩
  obtain⟨rfl,h⟩:=h;exact n i x c _ (h xs (f i c _ d p)) p
 ·have:i=xs.length:=by omega
  subst this;exact .inl ⟨⟨xs,f _ c H d p,bg _⟩,s c H p⟩
section
variable {prog:eU} {w:gk} {A:fb} {E:ao->av->Prop}
end
section
variable {X:Cx} {pos:Pos}
inductive uV(xs:List V)(H:Hp)(Q:VK):Prop
 | mk:∀(i j:Int),(xs=[.int i,.int j])->((0<j/\j.natAbs<2 ^ 9000))->(∀ p,H p=none->Q (.ref p) (upd H p (.tup [.int (i / j),.int (i % j)])))->uV xs H Q
def sZ:xR X (.builtin "divmod") uV:=by
 intro a s l H m f Q I r h;obtain⟨i,j,rfl,⟨h1,c⟩,q⟩:=h;obtain⟨u,n,rfl,⟨t,rfl⟩,⟨g,rfl⟩⟩:=nJ r;refine divmod_int (by omega) ?_ (.inl (PyProof.noPylong_of_log2 (Own.log2_lt c)));rw[Bf i (by omega),Bg i (by omega)];have d:H s.heap.objs.size=none:=I.hok.fresh (bg _);refine⟨.ref s.heap.objs.size,_,?_,rfl,q _ d⟩;refine I.laid (λ b o e=>ar _ e) (bg _) ⟨by simp only[eh,qv];rw[AO];decide,[.int (i / j) s.toks,.int (i % j) (s.toks+1)],.cons ⟨_,rfl⟩ (.cons ⟨_,rfl⟩ .nil),?_⟩;exact⟨_,cg s.heap rfl,rfl,0,rfl,rfl⟩
theorem uM:∀{b:List Int}{a:List ao},Vals (b.map V.int) a->Dk a b
 | [],_,r=>by cases r;exact .nil
 | n::b,_,r=>by
  cases r with
  | cons r1 r2 =>
   obtain⟨t,rfl⟩:=r1;exact .cons n t (uM r2)
end
mutual
def Dt(K:bb)(H:Hp):Bn->V->Prop
 | .none,v=>v=.non
 | .bool b,v=>v=.bl b
 | .int i,v=>v=.int i
 | .str x,v=>v=.str x
 | .tuple xs,v=>∃ a c,v=.ref a/\SqT K H a c/\DtAll K H xs c
 | .list xs,v=>∃ a c,v=.ref a/\SqL K H a c/\DtAll K H xs c
 | .dict _,_=>False
def DtAll(K:bb)(H:Hp):List Bn->List V->Prop
 | [],vs=>vs=[]
 | d::ds,vs=>∃ v a,vs=v::a/\Dt K H d v/\DtAll K H ds a
end
section
variable {X:Cx} {pins:List (ay×Obj)} {σ:St} {H:Hp} {s:av}
mutual
theorem Dt.reads(I:Inv X pins σ H s):∀(d:Bn)(v:V)(u:ao),RelV v u->Dt X.K H d v->∃ as,Reads s.heap u d as
 | .none,v,u,r,h=>by unfold Dt at h;subst h;cases r;exact⟨_,.none⟩
 | .bool b,v,u,r,h=>by unfold Dt at h;subst h;cases r;exact⟨_,.bool b⟩
 | .int i,v,u,r,h=>by unfold Dt at h;subst h;obtain⟨t,rfl⟩:=r;exact⟨_,.int i t⟩
 | .str x,v,u,r,h=>by unfold Dt at h;subst h;obtain⟨t,rfl⟩:=r;exact⟨_,.str x t⟩
 | .tuple xs,v,u,r,h=>by
  unfold Dt at h;obtain⟨a,q,rfl,g,A⟩:=h;cases r
  obtain⟨c,m,⟨o,l,y,n,f⟩,B⟩:=I.tuple g;obtain⟨as,p⟩:=DtAll.reads I xs q c m A;exact⟨_,.tuple l y f (by simpa using p)⟩
 | .list xs,v,u,r,h=>by
  unfold Dt at h;obtain⟨a,q,rfl,g,A⟩:=h;cases r
  obtain⟨c,m,C,B⟩:=I.list g;obtain⟨as,p⟩:=DtAll.reads I xs q c m A;obtain⟨o,l,y,n,f⟩:=C.isList;exact⟨_,.list l y f (by simpa using p)⟩
 | .dict _,v,u,r,h=>by unfold Dt at h;exact h.elim
theorem DtAll.reads(I:Inv X pins σ H s):∀(a:List Bn)(c:List V)(b:List ao),Vals c b->DtAll X.K H a c->∃ as,ReadsAll s.heap b a as
 | [],c,b,r,h=>by unfold DtAll at h;subst h;cases r;exact⟨_,.nil⟩
 | d::a,c,b,r,h=>by
  unfold DtAll at h;obtain⟨v,f,rfl,h1,l⟩:=h
  cases r with
  | cons r1 r2 =>
   obtain⟨as,i⟩:=Dt.reads I d v _ r1 h1;obtain⟨bs,g⟩:=DtAll.reads I a f _ r2 l;exact⟨_,.cons i g⟩
end
end
section
variable {X:Cx}
inductive kSC(K:bb)(neg:Bool)(x:V)(y:V)(H:Hp)(Q:VK):Prop
 | mk:∀ d e,(Dt K H d x)->(Dt K H e y)->(ud d=true)->(ud e=true)->(Q (.bl (if neg then !PyData.eqv d e else og d e)) H)->kSC K neg x y H Q
def kDR(i:X.A.units+64<cLine):OpR X (compareOp .Eq) (kSC X.K false):=by
 intro a s m H x y v u Q I l g h;obtain⟨d,e,h1,c,b,f,q⟩:=h;obtain⟨n,p1⟩:=Dt.reads I d x v l h1;obtain⟨bs,p2⟩:=Dt.reads I e y u g c;exact SeqAt.compareEq_shaped p1 p2 b f i ⟨.bl _,H,I,rfl,q⟩
def kDP(i:X.A.units+64<cLine):OpR X (compareOp .NotEq) (kSC X.K true):=by
 intro a s m H x y v u Q I l g h;obtain⟨d,e,h1,c,b,f,q⟩:=h;obtain⟨n,p1⟩:=Dt.reads I d x v l h1;obtain⟨bs,p2⟩:=Dt.reads I e y u g c;exact SeqAt.compareNe_shaped p1 p2 b f i ⟨.bl _,H,I,rfl,q⟩
end
def kWL(a b:wq):Bool:=(a.names.all λ y=>(y.2 != .local || a.names.lookup y.1 == some .local) && y.2 != .cell && (y.2 != .free || b.names.lookup y.1 == some .cell))
def CS.of{a d:wq}(k:a.kind=.function)(h:kWL a d=true):CS a d:=by
 have q:∀ y∈a.names,_:=ug.mp h;refine⟨k,λ y b e=>?_,λ y b e=>?_,λ y b e=>?_⟩<;>have z:=q y b<;>rw[iP,iP]at z<;>obtain⟨⟨g,f⟩,c⟩:=z
 ·rw[e]at g;simpa using g
 ·rw[e]at f;simp at f
 ·rw[e]at c;simpa using c
section
variable {prog:eU} {w:gk} {A:fb} {E:ao->av->Prop} {s:av}
def kDZ{it t:ay}{i:Nat}{items:Array ao}{x:ao}{Q:ao->av->Prop}(a:s.heap.IsTupleIter it t i)(m:s.heap.IsTuple t items)(g:items[i]?=some x)
  (l:∀ h',h'.IsTupleIter it t (i+1)->jx it s.heap h'->Q x {s with heap:=h'}):cx (model prog w) A (ft (.ref it)) Q E s:=by
 obtain⟨o,c,h,b⟩:=id a;obtain⟨p,f,_,n,d⟩:=m;unfold ft;refine ae (iO (name:=gw "__next__") a.typeIs va (je va a.typeIs Ba ?_ (BM _)));show cx _ _ (field (.ref it) 0 >>= _) _ _ s;refine ae (iJ c b (x:=.ref t) rfl ?_);show cx _ _ (if(iM t == xh)=true then _ else _) _ _ s;rw[if_neg (show ¬ ((iM t == xh)=true) from dw)];show cx _ _ (field (.ref it) 1 >>= _) _ _ s;refine ae (iJ c b (x:=.int i 0) rfl ?_);show cx _ _ (seqItems? (.ref t) >>= _) _ _ s;refine ae (jr f d ?_);simp only[iI,g];refine ae (Fy c b (by simp) (az ⟨x,rfl,az (l _ ?_ (jw ..))⟩));refine⟨_,lj _ c (Obj.isFreed_of_fields (EB b _)),(Obj.cls_mapFields ..).trans h,?_⟩;rw[EB b];simp[rawInt]
def hZ{it t:ay}{i:Nat}{items:Array ao}{Q:ao->av->Prop}(h:A.handled=none)(b:s.heap.IsTupleIter it t i)(p:s.heap.IsTuple t items)(l:items[i]?=none)
  (n:∀ h' e,Heap.ExtBut it s.heap h'->(∃ o,h'.get? e=some o/\o.cls=.type "StopIteration")->E (.ref e) {s with heap:=h'}):cx (model prog w) A (ft (.ref it)) Q E s:=by
 obtain⟨o,d,r,g⟩:=id b;obtain⟨u,f,_,q,c⟩:=p;unfold ft;refine ae (iO (name:=gw "__next__") b.typeIs va (je va b.typeIs Ba ?_ (BM _)));show cx _ _ (field (.ref it) 0 >>= _) _ _ s;refine ae (iJ d g (x:=.ref t) rfl ?_);show cx _ _ (if(iM t == xh)=true then _ else _) _ _ s;rw[if_neg (show ¬ ((iM t == xh)=true) from dw)];show cx _ _ (field (.ref it) 1 >>= _) _ _ s;refine ae (iJ d g (x:=.int i 0) rfl ?_);show cx _ _ (seqItems? (.ref t) >>= _) _ _ s;refine ae (jr f c ?_);simp only[iI,l];refine ae (uz (ae (Fy d g (by simp) ?_)));show cx _ _ (newExc (.type "StopIteration") [] >>= _) _ _ _;refine ae ?_;simp only[newExc,newTuple];refine ae (iQ ?_ (by size_fits));refine ae (m:=firstArgMember _ _) (xg (a:=xh) (by first | rfl | (simp only[firstArgMember];rfl)) ?_);refine iQ ?_ (by size_fits);simp only[raiseNew];refine ae (wpAny_handled ?_)
 first | rw[show A.in1.handled=none from h] | rw[h]
 refine ae (az (FJ ?_));exact n _ _ (((jw ..).extBut.push _).push _) ⟨_,cg _ rfl,rfl⟩
end
def ItOf(k:Bool)(h:iD)(it a:ay)(i:Nat):Prop:=match k with | true=>h.IsListIter it a i | false=>h.IsTupleIter it a i
def SqOf(k:Bool)(h:iD)(a:ay)(items:Array ao):Prop:=match k with | true=>h.IsList a items | false=>h.IsTuple a items
def cK(k:Bool):String:=match k with | true=>"list_iterator" | false=>"tuple_iterator"
def SqX(K:bb)(k:Bool)(H:Hp)(a:ay)(xs:List V):Prop:=match k with | true=>SqL K H a xs | false=>SqT K H a xs
def ItOf.at{k:Bool}{h h':iD}{it a:ay}{i:Nat}(x:ItOf k h it a i)(g:∀ o,h.get? it=some o->h'.get? it=some o):ItOf k h' it a i:=by
 cases k
 ·obtain⟨o,e,r⟩:=x;exact⟨o,g o e,r⟩
 ·obtain⟨o,e,r⟩:=x;exact⟨o,g o e,r⟩
def ItOf.live{k:Bool}{h:iD}{it a:ay}{i:Nat}(x:ItOf k h it a i):∃ o,h.get? it=some o/\∀ v,o.data≠.cell v:=by
 cases k
 ·obtain⟨o,e,c,d⟩:=x;exact⟨o,e,λ v z=>by rw[d]at z;cases z⟩
 ·obtain⟨o,e,c,d⟩:=x;exact⟨o,e,λ v z=>by rw[d]at z;cases z⟩
def SqOf.at{k:Bool}{h h':iD}{a:ay}{items:Array ao}(x:SqOf k h a items)(g:∀ o,h.get? a=some o->h'.get? a=some o):SqOf k h' a items:=by
 cases k
 ·obtain⟨o,e,r⟩:=x;exact⟨o,g o e,r⟩
 ·obtain⟨o,e,r⟩:=x;exact⟨o,g o e,r⟩
def SqOf.there{k:Bool}{h:iD}{a:ay}{items:Array ao}(x:SqOf k h a items):∃ o,h.get? a=some o:=by
 cases k
 ·obtain⟨o,e,r⟩:=x;exact⟨o,e⟩
 ·obtain⟨o,e,r⟩:=x;exact⟨o,e⟩
def SqOf.lt{k:Bool}{h:iD}{a:ay}{items:Array ao}(x:SqOf k h a items):a<h.objs.size:=let ⟨_,e⟩:=x.there;cn e
def ItOf.new(k:Bool)(h:iD)(a:ay):ItOf k (h.push {cls:=.type (cK k),data:=.fields #[.ref a,.int 0 0]}) h.objs.size a 0:=by
 cases k
 ·exact⟨_,cg _ rfl,rfl,rfl⟩
 ·exact⟨_,cg _ rfl,rfl,rfl⟩
def Inv.sq{X:Cx}{b:List (ay×Obj)}{c:St}{H:Hp}{s:av}{k:Bool}{a:ay}{xs:List V}(I:Inv X b c H s)(h:SqX X.K k H a xs):∃ its:List ao,Vals xs its/\SqOf k s.heap a its.toArray:=by
 cases k
 ·obtain⟨its,r,p,_⟩:=I.tuple h
  exact⟨its,r,p⟩
 ·obtain⟨its,r,p,_⟩:=I.list h
  exact⟨its,r,p.isList⟩
def Inv.sq_inj{X:Cx}{b:List (ay×Obj)}{c:St}{H:Hp}{s:av}{k:Bool}{a:ay}{xs ys:List V}(I:Inv X b c H s)(h:SqX X.K k H a xs)(h':SqX X.K k H a ys):xs=ys:=by
 cases k
 ·exact I.tuple_inj h h'
 ·exact I.list_inj h h'
section
variable {prog:eU} {w:gk} {A:fb} {E:ao->av->Prop} {s:av}
def kGT{k:Bool}{a:ay}{items:Array ao}{Q:ao->av->Prop}(h:SqOf k s.heap a items)(b:Q (.ref s.heap.objs.size) {s with heap:=s.heap.push {cls:=.type (cK k),data:=.fields #[.ref a,.int 0 0]}}) :
  cx (model prog w) A (pyIter (.ref a)) Q E s:=by
 cases k
 ·exact uq h b
 ·exact AZ h b
def xY(p:A.handled=none)(k:Bool)(it a:ay)(d:a≠it)(items:Array ao):FK prog w A it [it,a] items.size (λ i v=>items[i]?=some v) (λ i h=>ItOf k h it a i/\SqOf k h a items) where
 live:=λ _ _ st=>let ⟨o,ho,_⟩:=st.1.live;⟨o,ho⟩
 frame:=λ _ _ _ st n=>⟨st.1.at λ o e=>n it (by simp) o e,st.2.at λ o e=>n a (by simp) o e⟩
 item:=λ i s Q E q st m=>by
  have f:items[i]?=some items[i]:=by simp[q]
  cases k
  ·exact kDZ st.1 st.2 f λ g c b=>m _ g s.toks f ⟨c,st.2.at λ o e=>b.extBut a o d e⟩ b
  ·exact wpAny_nextOf_list_item st.1 st.2 f λ g c b=>m _ g s.toks f ⟨c,st.2.at λ o e=>b.extBut a o d e⟩ b
 done:=λ s Q E st l=>by
  cases k
  ·exact hZ p st.1 st.2 (by simp) l
  ·exact wpAny_nextOf_list_end p st.1 st.2 (by simp) l
end
def Inv.turnedL{X:Cx}{a:List (ay×Obj)}{h:St}{H:Hp}{s:av}{h':iD}{t':Nat}{ch:List ay}(I:Inv X a h H s)(k:∀ b o,b∉ch->s.heap.get? b=some o->h'.get? b=some o)(g:∀ b∈ch,yN X a H b) :
  Inv X a h H {s with heap:=h',toks:=t'}:=by
 have f:∀ b u,H b=some u->b∉ch:=λ b u e z=>by rw[(g b z).1]at e;cases e
 refine I.step (g':=s.gens) (d':=s.drawn) (ch:=ch) (λ b p=>?_) (λ b o _ _ d e _=>k b o d e) (λ b o _ _ d e _=>⟨o.slots,k b o d e⟩) (λ _ _ _ _ n=>n)
  (λ b o d e=>⟨o,k b o d e⟩) (λ _ _ e=>e) (λ _ _ _ e=>e) (λ b G e=>⟨#[],by rw[e];simp⟩) (λ m A=>?_) (λ b u e=>?_) I.bare
 ·obtain⟨J,i,L,y,D,C⟩:=g b p
  exact⟨y,i,D,C⟩
 ·obtain⟨o,B,x,l,r⟩:=A
  exact⟨o,B,x,k _ o (λ z=>(g _ z).2.1 rfl) l,r⟩
 ·refine(I.hok b u e).stay (λ c v d q=>k c v ?_ q) (λ _ q=>q) λ _ _ q=>q
  rcases d with z | z
  ·rw[z];exact f b u e
  ·exact f c _ z
open AutoSeq1 (wpAny_loadPart')
def sR(l:ay)(items:Array ao)(n:Nat)(b:Option ay)(p:Array (Option ao)) :
  Hc (ph.«enumerate.__new__» ⟨[.type "enumerate",.ref l],[]⟩) (λ _ R s=>s.heap.get? l=some {cls:=.type "tuple",dict:=b,data:=.seq items n,slots:=p} /\
   R (.ok (.ret (.ref (s.heap.push {cls:=.type "tuple_iterator",data:=.fields #[.ref l,.int 0 0]}).objs.size)))
    {s with heap:=(s.heap.push {cls:=.type "tuple_iterator",data:=.fields #[.ref l,.int 0 0]}).push {cls:=.type "enumerate",data:=.fields #[.none,.bool false,.ref s.heap.objs.size,rawInt 0,.none,.none]}}) :=
 .of_wp λ i w A R s h=>by
  obtain⟨hp,g,d,o,os⟩:=s;obtain⟨a,h⟩:=h;have m:=sub_enumerate;have f:Heap.IsTuple (FL ⟨hp,g,d,o,os⟩) l items:=⟨_,a,rfl,n,rfl⟩
  wp_walk using yb a
  refine wpAny_stack_any λ st=>az ?_
  split
  ·rename_i c _ _ _ _ _
   cases(c == AH "enumerate")
   ·wp_walk using yb a,uq f
    exact⟨_,rfl,h⟩
   ·wp_walk using yb a,uq f
    exact⟨_,rfl,h⟩
  ·wp_walk using yb a,uq f
   exact⟨_,rfl,h⟩
section
variable {prog:eU} {w:gk} {A:fb} {E:ao->av->Prop} {s:av}
def sY{k:Bool}{l:ay}{items:Array ao}{Q:ao->av->Prop}(m:SqOf k s.heap l items)
  (h:∀ h',IsEnum h' (s.heap.objs.size+1) s.heap.objs.size 0 .none->ItOf k h' s.heap.objs.size l 0->(∀ b o,s.heap.get? b=some o->h'.get? b=some o)->Q (.ref (s.heap.objs.size+1)) {s with heap:=h'}) :
  cx (model prog w) A (call (.type "enumerate") [.ref l]) Q E s:=by
 cases k
 ·obtain⟨⟨c,f,dt,u⟩,p,d,n,g⟩:=m
  replace d:c=.type "tuple":=d
  replace g:dt=.seq items n:=g
  subst d g;refine Ea F.called_enumerate (by decide) (F.typeCall_enumerate_1 _) (F.newCall_enumerate_1 _) (λ obj=>DZ obj _) F.entry_enumerate_new (sR l items n f u) ⟨p,?_⟩;have i:(s.heap.push {cls:=.type "tuple_iterator",data:=.fields #[.ref l,.int 0 0]}).objs.size=s.heap.objs.size+1:=jq ..;show _/\_;rw[i];have a:=cg (s.heap.push {cls:=.type "tuple_iterator",data:=.fields #[.ref l,.int 0 0]}) (o:={cls:=.type "enumerate",data:=.fields #[.none,.bool false,.ref s.heap.objs.size,rawInt 0,.none,.none]}) rfl;rw[i]at a;exact⟨⟨_,a,rfl⟩,h _ a ⟨_,ar _ (cg _ rfl),rfl,rfl⟩ λ b o x=>ar _ (ar _ x)⟩
 ·exact call_enumerate_list m λ h' a q _ r=>h h' a q r
end
def aT{k f:Bool}{h:iD}{a it b:ay}{i:Nat}{items:Array ao}(x:SqOf k h a items)(y:ItOf f h it b i):a≠it:=by
 intro z;subst z
 cases k<;>cases f<;>obtain⟨o,e,c,_⟩:=x<;>obtain⟨l,d,g,_⟩:=y<;>rw[e]at d<;>cases d<;>rw[c]at g<;>revert g<;>decide
def kOC{h:iD}{a b:ay}{o u:Obj}{m n:String}(h1:h.get? a=some o)(f:h.get? b=some u)(g:o.cls=.type m)(c:u.cls=.type n)(d:m≠n):a≠b:=by
 intro z;subst z;rw[h1]at f;cases f
 rw[g]at c;injection c with e
 exact d e
theorem ItOf.cls{k:Bool}{h:iD}{it a:ay}{i:Nat}(x:ItOf k h it a i):∃ o,h.get? it=some o/\o.cls=.type (cK k):=by
 cases k<;>obtain⟨o,e,c,_⟩:=x<;>exact⟨o,e,c⟩
def kRV(k:Bool):String:=match k with | true=>"list" | false=>"tuple"
theorem SqOf.cls{k:Bool}{h:iD}{a:ay}{items:Array ao}(x:SqOf k h a items):∃ o,h.get? a=some o/\o.cls=.type (kRV k):=by
 cases k<;>obtain⟨o,e,c,_⟩:=x<;>exact⟨o,e,c⟩
def Inv.handed{X:Cx}{a:List (ay×Obj)}{f:St}{H:Hp}{s:av}{h':iD}{t':Nat}{ch:List ay}{x y:V}{u v:ao}(I:Inv X a f H s)(B:RelV x u)(C:RelV y v)
  (n:h'.get? s.heap.objs.size=some {cls:=.type "tuple",data:=.seq #[u,v]}) (k:∀ b o,b∉ch->s.heap.get? b=some o->h'.get? b=some o) (g:∀ b∈ch,yN X a H b) (d:∀ b∈ch,b<s.heap.objs.size) :
  Inv X a f (upd H s.heap.objs.size (.tup [x,y])) {s with heap:=h',toks:=t'}/\(∀ b∈ch,upd H s.heap.objs.size (.tup [x,y]) b=none):=by
 have h:∀ b∈ch,upd H s.heap.objs.size (.tup [x,y]) b=none:=λ b c=>by rw[kK (df (d b c))];exact(g b c).1
 have l:Inv X a f (upd H s.heap.objs.size (.tup [x,y])) {s with heap:=s.heap.push {cls:=.type "tuple",data:=.seq #[u,v]},toks:=s.toks} :=
  I.laid (λ b o e=>ar _ e) (bg _) ⟨by simp only[eh,qv];rw[AO];decide,[u,v],.cons B (.cons C .nil),⟨_,cg _ rfl,rfl,0,rfl,rfl⟩⟩
 have q:=Inv.turnedL (h':=h') (t':=t') (ch:=ch) l (λ b o c e=>by
  rcases Heap.get?_push_cases e with⟨rfl,rfl⟩ | e
  ·exact n
  ·exact k b o c e) (λ b c=>by
  obtain⟨D,i,A,m,r,p⟩:=g b c;exact⟨h b c,i,A,m,r,p⟩)
 exact⟨q,h⟩
def Ite(k:Bool)(K:bb)(a:ay):It :=
 ⟨λ i H=>∃ b x,SqX K k H a b/\b[i]?=some x,λ i H v c=>∃ T x,H T=none/\v=.ref T/\(∀ b,SqX K k H a b->b[i]?=some x)/\c=upd H T (.tup [.int i,x]),λ i H=>∃ b,SqX K k H a b/\b.length=i⟩
def kHY{P:eU}{w:gk}{K:bb}{B:List iC} {x1} {a0:Pos} (k:Bool) (a e it:ay):Turn P w K (.Tuple B x1 a0) (Ite k K a) [e,it] e (λ i h=>(∃ old,IsEnum h e it i old)/\ItOf k h it a i) where
 mem:=by simp
 obj:=λ i h st b c=>by
  obtain⟨⟨old,f⟩,g⟩:=st;rcases cy.mp c with rfl | c
  ·exact⟨_,f,λ v z=>by cases z⟩
  ·have:b=it:=by simpa using c
   subst this;exact g.live
 keep:=λ i h h' st kk=>by
  obtain⟨⟨old,f⟩,g⟩:=st;exact⟨⟨old,kk e (by simp) _ f⟩,g.at λ o q=>kk it (by simp) o q⟩
 item:=by
  intro X hP T Q N i r s σ H E I hf st hg;subst hP T Q;obtain⟨⟨old,f⟩,g⟩:=st;obtain⟨xs,x,M,L⟩:=hg;obtain⟨d,Y,p⟩:=I.sq M;obtain⟨u,hu,ru⟩:=Y.get L;have n:=aT p g;obtain⟨oi,ei,ci⟩:=g.cls;obtain⟨oa,ea,ca⟩:=p.cls;have l:e≠it:=kOC f ei rfl ci (by cases k<;>decide);have a2:e≠a:=kOC f ea rfl ca (by cases k<;>decide);have D:=xY (prog:=X.prog) (w:=X.w) (A:=X.A.in1) (I.ok.hd N) k it a n d.toArray
  have S:i<d.toArray.size:=by
   have:=(au.mp hu).1;simpa using this
  refine wpAny_pyNext_enum_itemD D f ⟨g,p⟩ S l (by simp[l,a2]) λ y h' J hy ho Z hT hz hk=>?_
  have ey:y=u:=by
   have G:d[i]?=some y:=by simpa using hy
   rw[hu]at G;exact(cc G).symm
  subst ey;refine⟨_,rfl,wpAny_letOwnedTupleGo_enum ho λ h2 O m=>?_⟩;have C:e<s.heap.objs.size:=cn f;have U:it<s.heap.objs.size:=cn ei;have a1:h2.get? s.heap.objs.size=some {cls:=.type "tuple",data:=.seq #[.int i J,y]}:=m.extBut _ _ (jb C) hT
  obtain⟨I2,n2⟩:=I.handed (x:=.int i) (u:=.int i J) (t':=J+1) (ch:=[e,it]) ⟨J,rfl⟩ ru a1 (λ b o c q=>m.extBut b o (λ z=>c (by simp[z])) (hk b o (λ z=>c (by simp[z])) (λ z=>c (by simp[z])) q)) hf
   (λ b c=>by rcases cy.mp c with rfl | c;exact C;rw[de.mp c];exact U)
  refine⟨.ref s.heap.objs.size,_,I2,rfl,⟨_,x,I.hok.fresh (bg _),rfl,λ ys a3=>by rw[I.sq_inj a3 M];exact L,rfl⟩,⟨⟨_,by simpa using O⟩,Z.1.at λ o q=>m.extBut it o l.symm q⟩,n2⟩
 done:=by
  intro X hP T Q N i r s σ H E I hf st hg;subst hP T Q;obtain⟨⟨old,f⟩,g⟩:=st;obtain⟨xs,M,L⟩:=hg;obtain⟨d,Y,p⟩:=I.sq M;have n:=aT p g;have D:=xY (prog:=X.prog) (w:=X.w) (A:=X.A.in1) (I.ok.hd N) k it a n d.toArray;have hl:d.toArray.size=i:=by rw[<-L,Y.length];simp
  refine wpAny_pyNext_enum_endD D f ⟨hl ▸ g,p⟩ λ h' eb=>⟨rfl,I.turnedL (t':=s.toks) (ch:=[it]) (λ b o c q=>eb b o (λ z=>c (by simp[z])) q) λ b c=>hf b (by simp at c ⊢;exact .inr c)⟩
 self:=λ _ _ _ _ _ st h=>by
  obtain⟨⟨old,f⟩,_⟩:=st;exact Eb f h
section
variable {X:Cx}
inductive kNK(k:Bool)(K:bb)(R:It->Hp->Prop)(vs:List V)(H1:Hp):Prop
 | mk:∀ a,(vs=[.ref a])->((∃ xs,SqX K k H1 a xs))->(R (Ite k K a) H1)->kNK k K R vs H1
def kVD(k:Bool)(K:bb)(d:TA):TI:=λ c H R=>d c H λ b a=>kNK k K R b a
def rX(k:Bool){a:iC}{y:TA}{p i m:Pos}{n:List iC} {x1} (S:Gl X "enumerate") (D:X.mg "enumerate" = none) (J:PA X [a] y) (O:starEach [a] X.env=[(false,eval a X.env)]:=by rfl) :
  PI X (.Tuple n x1 m) (.Call (.Name "enumerate" p) [a] [] i) (kVD k X.K y):=by
 intro c s M H R I h;refine EO (yB I S D boot_enumerate (fu (thn (J i c s M H _ I h) λ Y g ⟨Z,v,o,A,L⟩=>?_) O rfl));obtain⟨l,rfl,⟨xs,Q⟩,q⟩:=L;obtain⟨u,rfl,r⟩:=zD A;cases r
 obtain⟨T,U,N⟩:=o.sq Q;refine sY N λ G x B C=>?_;refine Eb (s:={g with heap:=G}) x ?_
 have f:∀ b,g.heap.objs.size<=b->yN X c v b:=λ b d=>o.fpOk d (o.hok.fresh d);refine⟨_,[g.heap.objs.size+1,g.heap.objs.size],_,_,v,rfl,o.kept (t':=g.toks) C,kHY k l _ _,⟨⟨_,x⟩,B⟩,λ b d=>?_,q⟩;rcases cy.mp d with rfl | d
 ·exact f _ (by omega)
 ·rw[de.mp d];exact f _ (bg _)
end
end L2
namespace L2
open PySem PySem.Spec PyProof.Rows
structure ZAp(z TI TO i1 i2:ay)(fp1 fp2:List ay):Prop where
 zTI:z≠TI
 zTO:z≠TO
 zi1:z≠i1
 zi2:z≠i2
 TOi1:TO≠i1
 TOi2:TO≠i2
 i12:i1≠i2
 TITO:TI≠TO
 TIi1:TI≠i1
 TIi2:TI≠i2
 z1:z∉fp1
 z2:z∉fp2
 t1:TO∉fp1
 t2:TO∉fp2
 i2f:i2∉fp1
 i1f:i1∉fp2
section
variable {prog:eU} {w:gk} {A:fb} {E:ao->av->Prop} {s:av} {z TI TO i1 i2:ay} {fp1 fp2:List ay} {n1 n2 j:Nat} {P1 P2:Nat->ao->Prop} {S1 S2:Nat->iD->Prop} {a b:ao}
def mZ{Q:ao->av->Prop}(S:FK prog w A i1 fp1 n1 P1 S1)(D2:FK prog w A i2 fp2 n2 P2 S2)(d:ZAp z TI TO i1 i2 fp1 fp2)
  (hz:An s.heap z TI TO .none) (a0:qj s.heap TI (.ref i1) (.ref i2)) (T:qj s.heap TO a b) (h1:S1 j s.heap) (h2:S2 j s.heap) (l1:j<n1) (l2:j<n2)
  (hQ:∀ x y h' tk,P1 j x->P2 j y->An h' z TI TO (rawInt s.heap.objs.size)->qj h' TO x y->S1 (j+1) h'->S2 (j+1) h'->qj h' s.heap.objs.size x y ->
   (∀ c o,c≠z->c≠TO->c≠i1->c≠i2->s.heap.get? c=some o->h'.get? c=some o)->Q (.ref s.heap.objs.size) {s with heap:=h',toks:=tk}) :
  cx (model prog w) A (ph.«zip.__next__» ⟨[.ref z],[]⟩) (λ fin s'=>∃ v,fin=.done (.ret v)/\Q v s') E s:=by
 have g:∀{i:Nat}{h h':iD}{c:ay},S1 i h->jx c h h'->c∉fp1->S1 i h':=λ st sb O=>S.frame _ _ _ st λ b n o e=>sb.extBut b o (λ q=>O (q ▸ n)) e;have l:∀{i:Nat}{h h':iD}{c:ay},S2 i h->jx c h h'->c∉fp2->S2 i h':=λ st sb O=>D2.frame _ _ _ st λ b n o e=>sb.extBut b o (λ q=>O (q ▸ n)) e;show cx _ _ (field (.ref z) 2 >>= _) _ _ _;refine ae (iJ hz rfl (x:=.bool false) rfl ?_);show cx _ _ (field (.ref z) 3 >>= _) _ _ _;refine ae (iJ hz rfl (x:=.ref TI) rfl ?_);refine ae (jr a0 rfl ?_);show cx _ _ (eo (.ref z) >>= _) _ _ _;refine ae ?_;unfold eo;refine ae (iJ hz rfl (x:=.none) rfl (az ?_));simp only[if_true];refine ae (uz ?_);refine ae (iJ hz rfl (x:=.ref TO) rfl ?_);refine ae (oh hz (by simp) λ g1 H r=>?_)
 replace H:An g1 z TI TO .ellipsis:=H
 refine ae ?_
 simp only[Aw,DL,Bm,Ac]
 refine ae (ae (BE ?_));show cx _ _ (ft (.ref i1) >>= _) _ _ _;refine ae (S.item j _ _ _ l1 (g h1 r d.z1) λ x g2 a3 px a2 C=>az ?_);have o2:qj g2 TO a b:=C.extBut _ _ d.TOi1 (r.extBut _ _ d.zTO.symm T);refine ae (jr o2 rfl ?_);refine ae (BG o2 λ g3 Y B=>?_)
 replace Y:qj g3 TO x b:=Y
 refine ae (FM (az ?_))
 refine ae (ae (BE ?_));show cx _ _ (ft (.ref i2) >>= _) _ _ _;refine ae (D2.item j _ _ _ l2 (l (l (l h2 r d.z2) C d.i1f) B d.t2) λ y g4 a4 py a1 G=>az ?_);have o4:qj g4 TO x b:=G.extBut _ _ d.TOi2 Y;refine ae (jr o4 rfl ?_);refine ae (BG o4 λ f N D=>?_)
 replace N:qj f TO x y:=N
 refine ae (FM (az (az ?_)))
 refine ae (jr N rfl ?_);refine ae (Da ?_);have sz:f.objs.size=s.heap.objs.size:=by rw[D.1,G.1,B.1,C.1,r.1]
 have z5:An f z TI TO .ellipsis:=D.extBut _ _ d.zTO (G.extBut _ _ d.zi2 (B.extBut _ _ d.zTO (C.extBut _ _ d.zi1 H)))
 have k5:∀ c o,c≠z->c≠TO->c≠i1->c≠i2->s.heap.get? c=some o->f.get? c=some o:=λ c o m J Z c4 e =>
  D.extBut _ _ J (G.extBut _ _ c4 (B.extBut _ _ J (C.extBut _ _ Z (r.extBut _ _ m e))))
 have U:S1 (j+1) f:=g (g (g a2 B d.t1) G d.i2f) D d.t1;have p:S2 (j+1) f:=l a1 D d.t2;have u:z<f.objs.size:=cn z5;show cx _ _ (zc (.ref z) (.ref f.objs.size) >>= _) _ _ _;refine ae ?_;unfold zc;have z6:An (f.push {cls:=.type "tuple",data:=.seq #[x,y]}) z TI TO .ellipsis:=ar _ z5;refine ae (oh z6 (by simp) λ g7 X s7=>?_)
 replace X:An g7 z TI TO (rawInt f.objs.size):=X
 refine oh X (by simp) λ M L s8=>?_
 replace L:An M z TI TO (rawInt f.objs.size):=L
 have I:∀ c o,c≠z->f.get? c=some o->M.get? c=some o:=λ c o m e=>s8.extBut _ _ m (s7.extBut _ _ m (ar _ e));have t8:qj M f.objs.size x y:=s8.extBut _ _ (jb u) (s7.extBut _ _ (jb u) (cg _ rfl));rw[sz]at L t8;refine az ⟨_,rfl,?_⟩;show Q (.ref f.objs.size) _;rw[sz];exact hQ x y M _ px py L (I _ _ d.zTO.symm N) (S.frame _ _ _ U λ b n o e=>I b o (λ q=>d.z1 (q ▸ n)) e) (D2.frame _ _ _ p λ b n o e=>I b o (λ q=>d.z2 (q ▸ n)) e) t8 λ c o m J Z c4 e=>I c o m (k5 c o m J Z c4 e)
def kJZ{Q:uo->av->Prop}(i:FK prog w A i1 fp1 n1 P1 S1)(p:ZAp z TI TO i1 i2 fp1 fp2)
  (hz:An s.heap z TI TO .none) (h:qj s.heap TI (.ref i1) (.ref i2)) (B:qj s.heap TO a b) (h1:S1 n1 s.heap)
  (H:∀ h' e,(∀ c o,c≠z->c≠TO->c≠i1->c≠i2->s.heap.get? c=some o->h'.get? c=some o)->(∃ o,h'.get? e=some o/\o.cls=.type "StopIteration")->E (.ref e) {s with heap:=h'}) :
  cx (model prog w) A (ph.«zip.__next__» ⟨[.ref z],[]⟩) Q E s:=by
 show cx _ _ (field (.ref z) 2 >>= _) _ _ _;refine ae (iJ hz rfl (x:=.bool false) rfl ?_);show cx _ _ (field (.ref z) 3 >>= _) _ _ _;refine ae (iJ hz rfl (x:=.ref TI) rfl ?_);refine ae (jr h rfl ?_);show cx _ _ (eo (.ref z) >>= _) _ _ _;refine ae ?_;unfold eo;refine ae (iJ hz rfl (x:=.none) rfl (az ?_));simp only[if_true];refine ae (uz ?_);refine ae (iJ hz rfl (x:=.ref TO) rfl ?_);refine ae (oh hz (by simp) λ C g l=>?_)
 replace g:An C z TI TO .ellipsis:=g
 refine ae ?_;simp only[Aw,DL,Bm,Ac];refine ae (ae (BE ?_));show cx _ _ (ft (.ref i1) >>= _) _ _ _;refine ae (i.done _ _ _ (i.frame _ _ _ h1 λ b L o e=>l.extBut b o (λ q=>p.z1 (q ▸ L)) e) λ I e n D=>?_);obtain⟨v,d,f⟩:=D;have u:An I z TI TO .ellipsis:=n _ _ p.zi1 g;have y:e≠z:=λ q=>by subst q;rw[u]at d;cases d;simp at f
 exact oh u (by simp) λ J _ m=>H J e (λ c o r _ G _ q=>m.extBut _ _ r (n _ _ G (l.extBut _ _ r q))) ⟨v,m.extBut _ _ y d,f⟩
end
def kCJ(c l:Bool)(a b:ay)(xs ys:Array ao) :
  Hc (ph.«zip.__new__» ⟨[.type "zip",.ref a,.ref b],[]⟩) (λ _ R s=>SqOf c s.heap a xs/\SqOf l s.heap b ys /\
   ∀(m q r n y:iD),m=s.heap.push {cls:=.type (cK c),data:=.fields #[.ref a,.int 0 0]}->q=m.push {cls:=.type (cK l),data:=.fields #[.ref b,.int 0 0]} ->
    r=q.push {cls:=.type "tuple",data:=.seq #[.ref s.heap.objs.size,.ref m.objs.size]}->n=r.push {cls:=.type "tuple",data:=.seq #[.none,.none]} ->
    y=n.push {cls:=.type "zip",data:=.fields #[.none,.bool false,.bool false,.ref q.objs.size,.ref r.objs.size]}->R (.ok (.ret (.ref n.objs.size))) {s with heap:=y}) :=
 .of_wp λ B w A R s h=>by
  obtain⟨hp,g,d,x,os⟩:=s;obtain⟨f,u,h⟩:=h;have v:=sub_zip;have p:SqOf c (FL ⟨hp,g,d,x,os⟩) a xs:=f;have i:SqOf l (FL ⟨hp.push {cls:=.type (cK c),data:=.fields #[.ref a,.int 0 0]},g,d,x,os⟩) b ys:=u.at λ o e=>ar _ e;have h:=h _ _ _ _ _ rfl rfl rfl rfl rfl
  wp_walk using kGT p,kGT i
  exact⟨_,rfl,h⟩
section
variable {prog:eU} {w:gk} {A:fb} {E:ao->av->Prop} {s:av}
def dL{l m:Bool}{d b:ay}{xs ys:Array ao}{Q:ao->av->Prop}(h1:SqOf l s.heap d xs)(T:SqOf m s.heap b ys)
  (h:∀ h',An h' (s.heap.objs.size+4) (s.heap.objs.size+2) (s.heap.objs.size+3) .none->qj h' (s.heap.objs.size+2) (.ref s.heap.objs.size) (.ref (s.heap.objs.size+1)) ->
   qj h' (s.heap.objs.size+3) .none .none->ItOf l h' s.heap.objs.size d 0->ItOf m h' (s.heap.objs.size+1) b 0->(∀ c o,s.heap.get? c=some o->h'.get? c=some o)->Q (.ref (s.heap.objs.size+4)) {s with heap:=h'}) :
  cx (model prog w) A (call (.type "zip") [.ref d,.ref b]) Q E s:=by
 refine Ea F.called_zip (by decide) (F.typeCall_zip_2 _ _) (F.newCall_zip_2 _ _) (λ obj=>F.args_object_init_3 obj _ _) F.entry_zip_new (kCJ l m d b xs ys) ⟨h1,T,?_⟩;intro a f n q g B C r G O;have H:a.objs.size=s.heap.objs.size+1:=by rw[B];exact jq ..
 have D:f.objs.size=s.heap.objs.size+2:=by rw[C,jq,H]
 have y:n.objs.size=s.heap.objs.size+3:=by rw[r,jq,D]
 have J:q.objs.size=s.heap.objs.size+4:=by rw[G,jq,y]
 have U:∀ c o,s.heap.get? c=some o->a.get? c=some o:=λ c o e=>by rw[B];exact ar _ e
 have N:∀ c o,a.get? c=some o->f.get? c=some o:=λ c o e=>by rw[C];exact ar _ e
 have u:∀ c o,f.get? c=some o->n.get? c=some o:=λ c o e=>by rw[r];exact ar _ e
 have p:∀ c o,n.get? c=some o->q.get? c=some o:=λ c o e=>by rw[G];exact ar _ e
 have i:∀ c o,q.get? c=some o->g.get? c=some o:=λ c o e=>by rw[O];exact ar _ e
 have v:An g q.objs.size f.objs.size n.objs.size .none:=by rw[O];exact cg _ rfl
 have M:qj g n.objs.size .none .none:=i _ _ (by rw[G];exact cg _ rfl);have L:qj g f.objs.size (.ref s.heap.objs.size) (.ref a.objs.size):=i _ _ (p _ _ (by rw[r];exact cg _ rfl));have S:ItOf l g s.heap.objs.size d 0:=ItOf.at (h:=a) (by rw[B];exact ItOf.new l s.heap d) λ o e=>i _ _ (p _ _ (u _ _ (N _ _ e)));have I:ItOf m g a.objs.size b 0:=ItOf.at (h:=f) (by rw[C];exact ItOf.new m a b) λ o e=>i _ _ (p _ _ (u _ _ e));show _/\_;rw[D,y,J]at v;rw[H,D]at L;rw[y]at M;rw[H]at I;rw[J];exact⟨⟨_,v,rfl⟩,h _ v L M S I λ c o x=>i _ _ (p _ _ (u _ _ (N _ _ (U _ _ x))))⟩
end
def zap(n a b:Nat)(g:a<n)(i:b<n):ZAp (n+4) (n+2) (n+3) n (n+1) [n,a] [n+1,b]:=by
 have q:∀{x y u:Nat},x≠y->x≠u->¬ x∈[y,u]:=λ h1 f c=>by
  rcases cy.mp c with e | e
  ·exact h1 e
  ·exact f (de.mp e)
 have d:∀{x y:Nat},x<y->y≠x:=λ h=>jb h;have e:∀{x y:Nat},x<y->x≠y:=λ h=>df h
 exact⟨d (by omega),d (by omega),d (by omega),d (by omega),d (by omega),d (by omega),e (by omega),e (by omega),d (by omega),d (by omega),
  q (d (by omega)) (d (by omega)),q (d (by omega)) (d (by omega)),q (d (by omega)) (d (by omega)),q (d (by omega)) (d (by omega)),q (d (by omega)) (d (by omega)),q (e (by omega)) (d (by omega))⟩
section
variable {X:Cx}
end
section
variable {X:Cx} {tg iter el:iC} {ifs:List iC} {sc:wq} {pos py spos:Pos} {Nc:List Str} {js:List (Option Nat)} {wi:TI} {i:Nat} {y:Str}
def fH{g:TG}{bd:ay->TB}(hx:X.xe=λ _ _=>False)(hc:X.calm=true)(hN:X.N.Nodup)(ac:X.N[i]?=some y)(Y:Loc X.env.scope y)(hi:PI X tg iter wi)(S:CS sc X.env.scope)(a5:bS js Nc X.N sc.names=true)
  (hg:∀ C s₂ H₂ fp pins,PG (cxC X Nc sc C s₂ H₂ fp pins) tg g)
  (r:∀ C s₂ H₂ fp pins D L,PTl (cxC X Nc sc C s₂ H₂ fp pins) (xJ ifs (cxC X Nc sc C s₂ H₂ fp pins).env (do let _ <-call (.builtin "list.append") [.ref D,<-eval el (cxC X Nc sc C s₂ H₂ fp pins).env]) L) L (bd D))
  (hs:∀ x,foldedSetIterable iter X.env x=pure x:=by intro _;rfl)
  (a9:swapsWith (.ListComp el [⟨tg,iter,ifs,0⟩] sc pos) (some (.Name y py)) spos.line X.env=pure true:=by rfl)
  (hf:X.fn y=true\/X.env.scope.names.lookup y=some .local:=by first | exact .inl rfl | exact .inr rfl | assumption) :
  PS X (.Assign [.Name y py] (.ListComp el [⟨tg,iter,ifs,0⟩] sc pos) spos) (kOP (tLC js wi g bd) (lV i)):=by
 intro pins s σ H D0 I h;have a8:closureFor sc X.env=pure (uQ sc X.env):=yD λ y Y hf=>I.ok.has y.1 (.inl (S.free y Y hf));rw[exec_Assign_Name_used _ _ _ _ a9];refine ae (yd (ae ?_));show cx _ X.A (do let _ <-comprehension (.ListComp el [⟨tg,iter,ifs,0⟩] sc pos) sc X.env _ (newList []) false (eval iter X.env) (some (assign (.Name y py) X.env))) _ _ s
 refine ae (xj (mh (use:=some (assign (.Name y py) X.env)) (Q:=λ _ B=>SP X pins D0 .next B) rfl hs a8 S.kind S.names
  (thn (hi pins s σ H _ I h) λ v s1 h1=>thn h1 λ ag f h2=>?_)) (λ _ B hq=>az (az hq)) λ _ _ e=>e)
 obtain⟨it,fp,tn,J,H2,e,Z,T,a3,f2,hw⟩:=h2;subst e;have U:∀ b∈fp,b<f.heap.objs.size:=λ b r=>let ⟨o,ho,_⟩:=T.obj _ _ a3 b r;cn ho;refine iQ (se S.nocell (by intro y Y;simp at Y) (λ n l d=>?_) S.kind);dsimp only at l d ⊢;generalize O:f.heap.push {cls:=.type "list",dict:=none,data:=.seq ([]:List ao).toArray}=G at l d ⊢;have ah:G.objs.size=f.heap.objs.size+1:=by rw[<-O,jq]
 have a1:f.heap.objs.size≠G.objs.size:=by omega
 have m:f.heap.objs.size<=G.objs.size:=by omega
 have a0:∀ b o,f.heap.get? b=some o->n.get? b=some o:=λ b o e=>d.extBut b o (df (dc (cn e) m)) (ar _ (O ▸ ar _ e));have a4:n.get? f.heap.objs.size=some {cls:=.type "list",dict:=none,data:=.seq ([]:List ao).toArray}:=d.extBut _ _ a1 (ar _ (O ▸ cg _ rfl));have new:ObjOk X.prog X.w (upd H2 f.heap.objs.size (.lst [])) n f.heap.objs.size (.lst []):=⟨fj _,[],_,.nil,a4⟩;have I4:=wK (js:=js) (Nc:=Nc) (tk:=f.toks+([]:List (Str×ao)).length) Z S f2 U a5 m (bg _) a1 a0 l new;have hn:H2 f.heap.objs.size=none:=Z.fresh
 have f4:∀ b∈fp,yN (cxC X Nc sc G.objs.size f H2 fp pins) [] (upd H2 f.heap.objs.size (.lst [])) b:=λ b r=>by
  obtain⟨h0,h1,h2,h3,h4,h5⟩:=f2 b r;refine⟨?_,df (dc (U b r) m),λ z=>?_,.inl r,λ x c z=>?_,λ p hp=>?_⟩
  ·rw[kK (df (U b r))];exact h0
  ·rcases cy.mp (Z.stkSub b z) with q | q
   ·exact h1 q
   ·exact h2 q
  ·exact h4 x c (bR sc.names [] (λ z=>nomatch z) z)
  ·rcases bu.mp hp with z | z
   ·exact h5 p z
   ·exact absurd z (by simp)
 have a2:tn 0 n:=T.keep _ _ _ a3 λ b r o e=>a0 b o e
 have u:codeAny (model X.prog X.w) X.A (.compLoop (.ListComp el [⟨tg,iter,ifs,0⟩] sc pos) 0 (.ref it) (.ref f.heap.objs.size) (compEnvC sc (uQ sc X.env) G.objs.size X.env))
   (compPost (model X.prog X.w) X.A X.xe (some (assign (.Name y py) X.env)) (λ _ B=>SP X pins D0 .next B) (.ref f.heap.objs.size) G.objs.size) {f with heap:=n,toks:=f.toks+([]:List (Str×ao)).length}:=by
  refine xQ (X:=cxC X Nc sc G.objs.size f H2 fp pins) (.inl ⟨el,rfl⟩) hx hc (kEU _ _ _ _ _ _ _ _ _) T (hg _ _ _ _ _) (r _ _ _ _ _ _ _) I4 a2 f4 (hw _ hn) λ ak H' B I' q=>?_;obtain⟨m',ab,_⟩:=I'.loc;have IB:Inv X pins σ H' {B with heap:=B.heap}:=wL Z f2 m I' (CM ..)
  have nC:H' G.objs.size=none:=I'.free;have fC:yN X pins H' G.objs.size:=Z.fpOk m nC;show cx _ X.A (assign (.Name y py) X.env (.ref f.heap.objs.size)) _ _ B;refine EN (nV (v:=.ref f.heap.objs.size) IB hN ac Y rfl (λ af IC a6=>?_) hf);obtain⟨a,sb,ha⟩:=a6
  have aC:G.objs.size≠a:=by
   rcases ha with rfl | ha
   ·exact fC.2.1
   ·exact λ z=>fC.2.2.2.2.1 y a ha z.symm
  refine⟨m',ab.sameBut sb aC,λ h' a7=>?_⟩;exact⟨_,H',IC.turnedL (t':=af.toks) (ch:=[G.objs.size]) (λ b o M e=>a7.extBut b o (λ z=>M (by simp[z])) e) (λ b M=>by rw[de.mp M];exact fC),q⟩
 exact jY (.inl ⟨el,rfl⟩) rfl rfl u (T.self _ _ _ _ _ a2 u)
end
def kNQ{k:Bool}{K:bb}{a:ay}{xs:List V}{g:TG}{f:TS}{D:Ends}{b:St}{H:Hp}(Pv:Nat->St->Hp->Prop)(h0:Pv 0 b H)(l:∀ i b H,i<=xs.length->Pv i b H->SqX K k H a xs)
  (h:∀ i x T b H,xs[i]?=some x->H T=none->Pv i b H->g (.ref T) b (upd H T (.tup [.int i,x])) λ σ2 H2=>f {D with nx:=Pv (i+1),ct:=Pv (i+1),bk:=D.nx} σ2 H2) (v:∀ b H,Pv xs.length b H->D.nx b H) :
  ∃ W:Nat->Nat->St->Hp->Prop,(∃ m,W 0 m b H)/\∀ i m b H,W i m b H ->
   ((Ite k K a).stop i H/\D.nx b H)\/((Ite k K a).go i H/\∃ N:St->Hp->Prop,(∀ σ' H',N σ' H'->∃ m',m'<m/\W (i+1) m' σ' H')/\∀ x H',(Ite k K a).yld i H x H'->g x b H' λ σ2 H2=>f {D with nx:=N,ct:=N,bk:=D.nx} σ2 H2):=by
 refine⟨λ i m b H=>m=xs.length-i/\i<=xs.length/\Pv i b H,⟨xs.length,by simp,fj _,h0⟩,?_⟩;rintro i m b H ⟨rfl,d,p⟩;have c:=l i b H d p;by_cases o:i<xs.length
 ·refine .inr ⟨⟨xs,xs[i],c,by simp[o]⟩,Pv (i+1),λ σ' H' q=>⟨xs.length-(i+1),by omega,rfl,by omega,q⟩,λ x H' s=>?_⟩
  obtain⟨T,u,r,rfl,n,rfl⟩:=s;exact h i u T b H (n xs c) r p
 ·have:i=xs.length:=by omega
  subst this;exact .inl ⟨⟨xs,c,rfl⟩,v b H p⟩
def kIK(bs:List Bool):(cz bs.length).all (λ i=>bs.getD i false)=bs.all id:=by
 rw[iL,ug,ug];constructor
 ·intro h b d
  obtain⟨i,a,rfl⟩:=fc.mp d;have:=h i (iB.mpr a);simpa[ai,a] using this
 ·intro h i a
  have c:i<bs.length:=iB.mp a;have:=h bs[i] (gh c);simpa[ai,c] using this
theorem kET:∀{bs:List Bool}{a:List ao},Vals (bs.map V.bl) a->a=bs.map Bd
 | [],_,r=>by cases r;rfl
 | b::bs,_,r=>by
  cases r with
  | cons r1 r2 =>
   cases r1
   rw[kET r2]
   rfl
section
variable {X:Cx}
def kKO{prog:eU}{w:gk}{A:fb}{bs:List Bool}{items:Array ao}(e:items=(bs.map Bd).toArray):TruthOf prog w A (λ i v=>items[i]?=some v) (λ i=>bs.getD i false):=by
 intro i v s Q E h q;rw[e]at h;have a:(bs.map Bd)[i]?=some v:=by simpa using h
 rw[bh]at a
 cases z:bs[i]? with
 | none=>rw[z]at a;cases a
 | some b =>
  rw[z]at a
  cases a
  refine kq ?_;simpa[ai,z] using q
inductive aN(K:bb)(xs:List V)(H:Hp)(Q:VK):Prop
 | mk:∀(a:ay)(bs:List Bool),(xs=[.ref a])->(SqL K H a (bs.map V.bl))->(Q (.bl (bs.all id)) H)->aN K xs H Q
def xG(m:X.calm=true):xR X (.builtin "all") (aN X.K):=by
 intro l s G H J D Q I r h;obtain⟨a,bs,rfl,x,q⟩:=h;obtain⟨u,rfl,n⟩:=zD r;cases n
 obtain⟨d,v,y,B⟩:=I.list x;have f:=y.isList;have g:a≠s.heap.objs.size:=by obtain⟨o,e,_⟩:=f;exact df (cn e)
 have c:=kET v;refine call_all_walk (AZ f ⟨_,_,_,_,_,_,_,rfl,Walks.list (A:=X.A.in1) (I.ok.hd m) _ a g d.toArray,⟨⟨_,cg _ rfl,rfl,rfl⟩,f.push _⟩,kKO (bs:=bs) (by rw[c]),λ C L p=>?_⟩);have e:d.toArray.size=bs.length:=by rw[c];simp
 rw[e,kIK];refine⟨.bl _,H,I.kept λ b o i=>p b o (λ z=>?_) (ar _ i),rfl,q⟩;rw[de.mp z]at i;exact absurd (cn i) (qw _)
inductive dO(K:bb)(xs:List V)(H:Hp)(Q:VK):Prop
 | mk:∀(a:ay)(d:Bn),(xs=[.ref a])->(Dt K H d (.ref a))->(d.showable=true)->(d.hasDict=false)->(d.depth<=60)->(d.shown.length<=sizeLine)->(Q (.str d.shown) H)->dO K xs H Q
def mJ(n:X.A.guards=some [])(D:X.A.units+64<cLine):xR X (.builtin "repr") (dO X.K):=by
 intro c s y H B x Q I r h;obtain⟨a,d,rfl,p,h1,m,G,l,q⟩:=h;obtain⟨u,rfl,f⟩:=zD r;cases f
 obtain⟨J,g⟩:=Dt.reads I d (.ref a) _ rfl p;exact repr_of_reads' g h1 (λ z=>by rw[m]at z;cases z) n (by omega) (λ b o e=>e) (λ v u C i=>⟨.str d.shown,H,I.kept i,⟨_,rfl⟩,q⟩) l
inductive mK(K:bb)(xs:List V)(H:Hp)(Q:VK):Prop
 | mk:∀(a:ay)(ns:List Int),(xs=[.ref a])->(SqL K H a (ns.map V.int))->(0<ns.length)->(∀ M,M∈ns->(∀ i∈ns,M<=i)->Q (.int M) H)->mK K xs H Q
def kJU(p:X.calm=true):xR X (.builtin "min") (mK X.K):=by
 intro i s S H c O Q I r h;obtain⟨a,o,rfl,D,f,q⟩:=h;obtain⟨u,rfl,x⟩:=zD r;cases x
 obtain⟨J,C,L,M⟩:=I.list D;have g:=uM C;obtain⟨c,e⟩:=g.allInts.items;have b:o=c.toList.map (·.1):=by rw[<-g.numsOf,<-nums_intItems,<-e]
 have d:0<c.size:=by
  have n:=f;rw[b,aj,fw]at n;exact n
 have m:=L.isList;rw[e]at m;refine min_intList (I.ok.hd p) m d λ v N T G A=>?_;obtain⟨t,rfl⟩:=intItems_at G;obtain⟨h1,B⟩:=argBest_lt (numAt c) (c.size-1);refine⟨.int _,H,I.kept A,⟨_,rfl⟩,q _ ?_ λ a l=>?_⟩
 ·rw[b,numAt_eq];exact getD_mem (by rw[aj,fw];omega)
 ·rw[b]at l
  obtain⟨j,y,rfl⟩:=mem_getD l;rw[aj,fw]at y;rw[<-numAt_eq];exact B j (by omega)
end
section
variable {X:Cx} {tg iter el tg2 iter2:iC} {ifs ifs2:List iC} {sc:wq} {pos:Pos} {Nc:List Str} {js:List (Option Nat)} {wi wi2:TI} {g g2:TG}
def kHI(a:TI)(c:TG)(f:TB):TB:=λ N b H=>a b H λ J d=>vP J c f N b d
def kMD{D:ay}{m:TB}{L:HX}{e:iC}(G:e=.ListComp el [⟨tg,iter,[],0⟩,⟨tg2,iter2,ifs2,0⟩] sc pos)(Q:X.xe=λ _ _=>False)(o:X.calm=true)(hi:PI X tg2 iter2 wi2)(S:PG X tg2 g2)
  (Y:∀ L,PTl X (xJ ifs2 X.env (do let _ <-call (.builtin "list.append") [.ref D,<-eval el X.env]) L) L m) (O:∀ x,foldedSetIterable iter2 X.env x=pure x) :
  PTl X (nQ [] X.env iter2 (λ i=>.compStart e 1 i (.ref D) X.env) L) L (kHI wi2 g2 m):=by
 subst G;intro b s M H N I h;unfold nQ;refine ae (DJ ?_);show cx _ _ (eval iter2 X.env >>= _) _ _ s;refine ae (thn (hi b s M H _ I h) λ v Z h1=>?_);refine ae (yd (ae (xg (O v) (ae (fq (thn h1 λ p y u=>?_))))));obtain⟨it,fp,tn,J,H2,e,C,T,f,U,B⟩:=u;subst e;refine ae (wpAny_runOwn ?_)
 have c:codeAny (model X.prog X.w) X.A (.compLoop (.ListComp el [⟨tg,iter,[],0⟩,⟨tg2,iter2,ifs2,0⟩] sc pos) 1 (.ref it) (.ref D) X.env)
   (λ r d=>match r with | .ok _=>cx (model X.prog X.w) X.A (again L) (λ l d=>l=.again L/\∃ a g,Inv X b a g d/\N a g) X.xe d | .error e=>cameBackBy (model X.prog X.w) X.A X.env X.xe e d) y :=
  xQ (.inl ⟨el,rfl⟩) Q o (kKK _ _ _ _ _ _ _ _ _ _ _ _) T S (Y _) C f U B λ a g d n q=>az ⟨rfl,a,g,n,q⟩
 exact jY (.inl ⟨el,rfl⟩) rfl rfl c (T.self _ _ _ _ _ f c)
def kPF{bd:ay->TB}(hx:X.xe=λ _ _=>False)(hc:X.calm=true)(hi:PI X tg iter wi)(S:CS sc X.env.scope)(a0:bS js Nc X.N sc.names=true)
  (hg:∀ C s₂ H₂ fp pins,PG (cxC X Nc sc C s₂ H₂ fp pins) tg g) (a5:∀ C s₂ H₂ fp pins,PI (cxC X Nc sc C s₂ H₂ fp pins) tg2 iter2 wi2) (a6:∀ C s₂ H₂ fp pins,PG (cxC X Nc sc C s₂ H₂ fp pins) tg2 g2)
  (m:∀ C s₂ H₂ fp pins D L,PTl (cxC X Nc sc C s₂ H₂ fp pins) (xJ ifs2 (cxC X Nc sc C s₂ H₂ fp pins).env (do let _ <-call (.builtin "list.append") [.ref D,<-eval el (cxC X Nc sc C s₂ H₂ fp pins).env]) L) L (bd D))
  (hs:∀ x,foldedSetIterable iter X.env x=pure x:=by intro _;rfl) (a2:∀ C s₂ H₂ fp pins x,foldedSetIterable iter2 (cxC X Nc sc C s₂ H₂ fp pins).env x=pure x:=by intro _ _ _ _ _ _;rfl) :
  PE X (.ListComp el [⟨tg,iter,[],0⟩,⟨tg2,iter2,ifs2,0⟩] sc pos) (tLC js wi g λ D=>kHI wi2 g2 (bd D)):=by
 intro pins s σ H Q I h;rw[eval_ListComp];have a4:closureFor sc X.env=pure (uQ sc X.env):=yD λ y hy hf=>I.ok.has y.1 (.inl (S.free y hy hf));refine mh (use:=none) rfl hs a4 S.kind S.names (thn (hi pins s σ H _ I h) λ v s1 h1=>thn h1 λ a8 d h2=>?_);obtain⟨it,fp,tn,J,B,e,I2,T,Z,f2,hw⟩:=h2;subst e;have r:∀ b∈fp,b<d.heap.objs.size:=λ b m=>let ⟨o,ho,_⟩:=T.obj _ _ Z b m;cn ho;refine iQ (se S.nocell (by intro y hy;simp at hy) (λ i f a=>?_) S.kind);dsimp only at f a ⊢;generalize u:d.heap.push {cls:=.type "list",dict:=none,data:=.seq ([]:List ao).toArray}=G at f a ⊢;have a7:G.objs.size=d.heap.objs.size+1:=by rw[<-u,jq]
 have U:d.heap.objs.size≠G.objs.size:=by omega
 have l:d.heap.objs.size<=G.objs.size:=by omega
 have O:∀ b o,d.heap.get? b=some o->i.get? b=some o:=λ b o e=>a.extBut b o (df (dc (cn e) l)) (ar _ (u ▸ ar _ e));have M:i.get? d.heap.objs.size=some {cls:=.type "list",dict:=none,data:=.seq ([]:List ao).toArray}:=a.extBut _ _ U (ar _ (u ▸ cg _ rfl));have new:ObjOk X.prog X.w (upd B d.heap.objs.size (.lst [])) i d.heap.objs.size (.lst []):=⟨fj _,[],_,.nil,M⟩;have I4:=wK (js:=js) (Nc:=Nc) (tk:=d.toks+([]:List (Str×ao)).length) I2 S f2 r a0 l (bg _) U O f new;have hn:B d.heap.objs.size=none:=I2.fresh
 have f4:∀ b∈fp,yN (cxC X Nc sc G.objs.size d B fp pins) [] (upd B d.heap.objs.size (.lst [])) b:=λ b m=>by
  obtain⟨h0,h1,h2,h3,h4,h5⟩:=f2 b m;refine⟨?_,df (dc (r b m) l),λ z=>?_,.inl m,λ x c z=>?_,λ p hp=>?_⟩
  ·rw[kK (df (r b m))];exact h0
  ·rcases cy.mp (I2.stkSub b z) with q | q
   ·exact h1 q
   ·exact h2 q
  ·exact h4 x c (bR sc.names [] (λ z=>nomatch z) z)
  ·rcases bu.mp hp with z | z
   ·exact h5 p z
   ·exact absurd z (by simp)
 have Y:tn 0 i:=T.keep _ _ _ Z λ b m o e=>O b o e
 have n:codeAny (model X.prog X.w) X.A (.compLoop (.ListComp el [⟨tg,iter,[],0⟩,⟨tg2,iter2,ifs2,0⟩] sc pos) 0 (.ref it) (.ref d.heap.objs.size) (compEnvC sc (uQ sc X.env) G.objs.size X.env))
   (compPost (model X.prog X.w) X.A X.xe none (EP X pins σ Q) (.ref d.heap.objs.size) G.objs.size) {d with heap:=i,toks:=d.toks+([]:List (Str×ao)).length}:=by
  refine xQ (X:=cxC X Nc sc G.objs.size d B fp pins) (.inl ⟨el,rfl⟩) hx hc (kKL _ _ _ _ _ _ _ _ _ _ _ _) T (hg _ _ _ _ _)
   (kMD (X:=cxC X Nc sc G.objs.size d B fp pins) rfl hx hc (a5 _ _ _ _ _) (a6 _ _ _ _ _) (λ L=>m _ _ _ _ _ _ L) (a2 _ _ _ _ _)) I4 Y f4 (hw _ hn) λ a9 H' s' I' q=>?_
  obtain⟨m',a1,_⟩:=I'.loc;exact⟨m',a1,λ h' a3=>⟨.ref d.heap.objs.size,H',wL I2 f2 l I' a3,rfl,q⟩⟩
 exact jY (.inl ⟨el,rfl⟩) rfl rfl n (T.self _ _ _ _ _ Y n)
end
open AutoSeq1 (wpAny_loadPart')
def kHZ(l:ay)(items:Array ao)(n:Nat)(J:Option ay)(H:Array (Option ao))(x:ao)(e:ao->Bool)(j:Nat)(O:j<items.size)(v:e items[j]=true)(u:∀ m (S:m<items.size),m<j->e items[m]=false) :
  Hc (ph.«tuple.index» ⟨[.ref l,x],[]⟩) (λ A R s=>s.heap.get? l=some {cls:=.type "tuple",dict:=J,data:=.seq items n,slots:=H}/\(∀ y,y∈items->Fm A.in1 s y x (e y))/\R (.ok (.ret (.int j s.toks))) {s with toks:=s.toks+1}) :=
 .of_wp λ a w A R s h=>by
  obtain⟨hp,g,d,M,os⟩:=s;obtain⟨L,I,h⟩:=h
  wp_walk using yb L
  have G:∀(f:Nat->Option uo×PUnit->Sem (ForInStep (Option uo×PUnit)))(Q:Option uo×PUnit->av->Prop)(E:ao->av->Prop)(B:av),
    cx (model a w) A.in1 (forIn (AV 0 items.size) ((none:Option uo),EC) f) Q E B->cx (model a w) A.in1 (forIn [:min items.size items.size] ((none:Option uo),EC) f) Q E B:=λ f Q E B z=>by
   rw[si];simpa[Ao] using z
  refine G (λ i __s=>match items[i]? with
      | some y=>do
       if <-eqBool y x then do
         let r <-retInt (i:Nat)
         pure (ym (some r,()))
        else pure (ik (none,()))
      | _=>pure (ik (none,()))) _ _ _ ?_
  refine Ax _ (λ rest b q=>b.1=none/\q=⟨hp,g,d,M,os⟩/\∃ i,i<=j/\rest=AV i (items.size-i)) _ ?_ ?_ _ _ ⟨rfl,rfl,0,fj _,by simp⟩
  ·rintro y rest b q ⟨D,rfl,i,C,p⟩
   have o:i<items.size:=by omega
   rw[show items.size-i=(items.size-(i+1))+1 by omega,wx]at p;injection p with e1 e2
   subst e1;have N:items[y]?=some items[y]:=by simp[o]
   simp only[N];refine ae (I _ (CN o) a w _ _ ?_);by_cases c:y=j
   ·subst c
    rw[v]
    wp_walk
    exact⟨_,rfl,h⟩
   ·rw[u y o (by omega)]
    wp_walk
    exact⟨rfl,rfl,y+1,by omega,e2⟩
  ·rintro b q ⟨D,rfl,i,C,p⟩
   have:iV ([]:List Nat)=items.size-i:=by rw[p,List.length_range']
   simp at this;omega
section
variable {X:Cx}
inductive kFY(K:bb)(x:V)(vs:List V)(H:Hp)(Q:VK):Prop
 | mk:∀(l:ay)(ns:List Int)(n:Int)(j:Nat),(x=.ref l)->(vs=[.int n])->(SqT K H l (ns.map V.int))->(uO ns n j)->(Q (.int j) H)->kFY K x vs H Q
def zB:MtM X "tuple.index" (kFY X.K):=by
 intro f s O H x N v M Q I G B h;obtain⟨l,J,n,j,rfl,rfl,A,g,q⟩:=h;cases G
 obtain⟨u,rfl,t,rfl⟩:=B.one;obtain⟨a,r,⟨⟨cls,C,dt,o⟩,d,b,m,c⟩,L⟩:=I.tuple A;simp only at b c;subst b c;obtain⟨h1,p,D⟩:=cO r g;refine Au F.slot_tuple_index ⟨_,d,rfl⟩ F.entry_tuple_index (F.args_tuple_index_2 _ _) (kHZ l a.toArray m C o (.int n t) (dG n) j h1 p D) ⟨d,λ y i=>(wR r n t y i).at _ _,?_⟩;exact⟨.int j,H,I.tok _,⟨_,rfl⟩,q⟩
end
def qE{N P:List Str}{f:wq}(a:f.kind=.function:=by rfl)(b:f.isCoroutine=false:=by rfl)(c:f.isGenerator=false:=by rfl)(d:N.Nodup:=by decide +kernel)(e:N.take P.length=P:=by rfl)
  (g:∀ x∈P,f.names.lookup x=some .local\/f.names.lookup x=some .cell:=by decide +kernel) (h:∀ y∈f.names,y.2≠.free:=by decide +kernel):FnScope N P f:=⟨a,b,c,d,e,g,h⟩
def kUZ{α:Type}{a:List α}(h:a.length=0):a=[]:=iq.mp h
def kPU{α:Type}{b:List α}{n:Nat}(h:b.length=n+1):∃ a r,b=a::r/\r.length=n:=by
 cases b with
 | nil=>exact nomatch h
 | cons a r=>exact⟨a,r,rfl,Nat.succ.inj h⟩
def kUY{α:Type}{b:List α}(h:b.length=1):∃ a,b=[a]:=by
 obtain⟨a,r,rfl,g⟩:=kPU h;exact⟨a,by rw[kUZ g]⟩
def kUX{α:Type}{c:List α}(h:c.length=2):∃ a b,c=[a,b]:=by
 obtain⟨a,r,rfl,g⟩:=kPU h;obtain⟨b,rfl⟩:=kUY g;exact⟨a,b,rfl⟩
def kUW{α:Type}{d:List α}(h:d.length=3):∃ a b c,d=[a,b,c]:=by
 obtain⟨a,r,rfl,g⟩:=kPU h;obtain⟨b,c,rfl⟩:=kUX g;exact⟨a,b,c,rfl⟩
def kWG{α:Type}{f:List α}(h:f.length=4):∃ a b c d,f=[a,b,c,d]:=by
 obtain⟨a,r,rfl,g⟩:=kPU h;obtain⟨b,c,d,rfl⟩:=kUW g;exact⟨a,b,c,d,rfl⟩
section
variable {P:eU} {w:gk} {K:bb} {mg:Str->Option ao} {base:iD}
def qI{n:Str}{st:lh}{N l:List Str}{k:Nat}{sp:Sp}(X:∃ h:iD,K.In h/\h.Ns ed mg)(d:jA K n st)(S:FnScope N l (kL st))
  (c:∀(f:ay)(a:ao)(A:fb)(outer:List Env)(s:av)(H:Hp)(i:List V)(Q:VK)(E:XK),N.Nodup->Room k (A.deeper (envOfC n (kL st) s.heap.objs.size f a))->sp i H Q E ->
   ∃ t,PSs (qQ CX0 P w K mg base N n (kL st) f a A outer s H E).nox (yZ st) t/\t {nx:=λ _ H'=>Q .non H',rt:=Q} (start N i) H)
  (len:∀ i H Q E,sp i H Q E->i.length=l.length:=by intro _ _ _ _ h;first | (cases h;subst_vars;rfl) | (rcases h with h | h<;>cases h<;>subst_vars<;>rfl))
  (b:∀(kV o p:ao)(q:Option ay)(a ct:ao)(m:List ao),m.length=l.length->bindArgs (vt n n (vD st) (yZ st) (kL st) .none kV o p q a ct) ⟨m,[]⟩=pure (l.zip m):=by
   intro _ _ _ _ _ _ m hl;first | (obtain⟨_,rfl⟩:=kUY hl;rfl) | (obtain⟨_,_,rfl⟩:=kUX hl;rfl) | (obtain⟨_,_,_,rfl⟩:=kUW hl;rfl) | (obtain⟨_,_,_,_,rfl⟩:=kWG hl;rfl) | (obtain⟨_,_,_,_,_,rfl⟩:=len5 hl;rfl) | (obtain rfl:=kUZ hl;rfl)):Own.Has P w K mg base n l (k+1) sp:=by
 obtain⟨h,x,g⟩:=X;exact kTL x g d (λ f r F=>F.ok S len λ a A outer s H i Q E=>c f a A outer s H i Q E S.nd) b
end
inductive nY(K:bb)(vs:List V)(H:Hp)(Q:VK)(E:XK):Prop
 | mk (a:ay) (ns:List Int):vs=[.ref a]->SqL K H a (ns.map V.int)->ns.length<=63->(∀ H',Q (.bl true) H')->nY K vs H Q E
structure Cn where
 P:eU
 w:gk
 K:bb
 mg:Str->Option ao
 base:iD
instance:Nonempty Cn:=⟨⟨default,⟨λ _ _=>0,{strHash:=λ _=>0,shareClass:=id,mergeTok:=id,idOf:=λ _=>0,idOfShared:=λ _ _=>0,followText:=λ _=>true,idOfImm:=λ _=>0}⟩,default,λ _=>none,default⟩⟩
section
variable {X:Cx} {e:iC} {es:List iC} {te:TE} {t:TA} {p pos pos':Pos} {x:Str}
def pf{j k:Nat}{l:List Str}{sp:Sp}(h:Own.Has X.prog X.w X.K X.mg X.base x l j sp)(c:Room k X.A)(d:PA X (e::es) t)(f:j<=k:=by decide)(g:Gl X x:=by rfl)
  (b:(x == ("__debug__" : Str))=false:=by decide) (i:starEach (e::es) X.env=(false,eval e X.env)::starEach es X.env:=by rfl) (a:(backTo pos (starEach es X.env)).any (·.1)=false:=by rfl) :
  PE X (.Call (.Name x p) (e::es) [] pos) (kFD sp [] E0 t):=Own.pe_has h (c.mono f) g d b i a
def pst(i:Nat)(f:X.N.Nodup)(d:PE X e te)(hi:X.N[i]?=some x:=by rfl)(c:Loc X.env.scope x:=by first | exact AJ rfl | exact FA rfl)(a:swapsWith e (some (.Name x pos')) pos.line X.env=pure false:=by rfl)
  (b:X.fn x=true\/X.env.scope.names.lookup x=some .local:=by first | exact .inl rfl | exact .inr rfl):PS X (.Assign [.Name x pos'] e pos) (kOP te (lV i)):=kSE f hi c d a b
def pgn(i:Nat)(a:X.N.Nodup)(hi:X.N[i]?=some x:=by rfl)(c:Loc X.env.scope x:=by first | exact AJ rfl | exact FA rfl)(b:X.fn x=true\/X.env.scope.names.lookup x=some .local:=by first | exact .inl rfl | exact .inr rfl):PG X (.Name x pos) (lV i):=yW a hi c b
def dZ{a iter:iC}{body:List lh}{b:TI}{g:TG}{c:TS}(hi:PI X a iter b)(h:PG X a g)(i:PSs X body c)(hp:Gr (model X.prog X.w) X.A X.env X.xe:=by exact FQ)(f:X.calm=true:=by rfl)
  (d:∀ x,foldedSetIterable iter X.env x=pure x:=by intro _;rfl):PS X (.For a iter body [] pos) (kUE b g c):=kSF hp f hi h i d
variable {a b c d:iC} {ta tb tc td:TE}
def pix{r:R2}(c:IxR X r)(f:PE X a ta)(g:PE X b tb)(d:kHO b:=by exact λ _ _=>rfl):PE X (.Subscript a b pos) (tOp r ta tb):=kUP c f g d
def p1(b:PE X a ta)(h1:starEach [a] X.env=(false,eval a X.env)::starEach [] X.env:=by rfl):PA X [a] (aR ta kCT):=kE b kU h1
def p2(c:PE X a ta)(f:PE X b tb)(h1:starEach [a,b] X.env=(false,eval a X.env)::starEach [b] X.env:=by rfl)(d:starEach [b] X.env=(false,eval b X.env)::starEach [] X.env:=by rfl):PA X [a,b] (aR ta (aR tb kCT)):=kE c (kE f kU d) h1
def nd1{a:Str}:[a].Nodup:=eK.mpr ⟨gj,yv⟩
def nd2{a b:Str}(h:a≠b):[a,b].Nodup:=eK.mpr ⟨λ m=>h (de.mp m),nd1⟩
def nd3{a b c:Str}(h:a≠b)(h':a≠c)(d:b≠c):[a,b,c].Nodup:=eK.mpr ⟨λ m=>(cy.mp m).elim h λ m=>h' (de.mp m),nd2 d⟩
def pgc(i:Nat)(a:X.N.Nodup:=by first | exact nd1 | exact nd2 (by decide) | exact nd3 (by decide) (by decide) (by decide))(hi:X.N[i]?=some x:=by rfl)(c:Loc X.env.scope x:=by first | exact AJ rfl | exact FA rfl)(b:X.fn x=true\/X.env.scope.names.lookup x=some .local:=by first | exact .inl rfl | exact .inr rfl):PG X (.Name x pos) (lV i):=yW a hi c b
section
variable {o:iC} {to:TE} {r:V->List V->Hp->VK->Prop} {apos cpos:Pos}
def jO{n:Str}{id:String}(f:Slot "list" n id)(g:typeOf (.builtin id)=pure (.type "method_descriptor"))(i:MtR X id r)(m:PE X o to)(l:PA X (e::es) t)
  (b:attributeBase o n X.env (eval o X.env)=eval o X.env:=by rfl)
  (d:((backTo cpos (starEach (e::es) X.env)).all (λ x=>!x.1) && (backToKw cpos (keywordEach [] X.env)).all (λ x=>x.1.isSome)
   && decide ((e::es).length+([]:List CJ).length+(if([]:List CJ).isEmpty then 0 else 1)<30))=true:=by rfl)
  (c:(apos.endLine == cpos.line)=true:=by rfl) (h:starEach (e::es) X.env=(false,eval e X.env)::starEach es X.env:=by rfl) (a:(backTo cpos (starEach es X.env)).any (·.1)=false:=by rfl) :
  PE X (.Call (.Attribute o n apos) (e::es) [] cpos) (tBM X.K "list" r to t):=dD PySem.F.plainAttrs_list f g i m l b d c h a
end
end
def snoc{α:Type}{xs:List α}{x y:α}{i:Nat}(h:(xs++[x])[i]?=some y):(i<xs.length/\xs[i]?=some y)\/(i=xs.length/\some x=some y):=by
 rcases iA i xs.length with c | c
 ·rw[cm c]at h
  exact .inl ⟨c,h⟩
 ·have e:i=xs.length:=by
   have:=(au.mp h).1;rw[cq,iR]at this;omega
  rw[e,gn]at h;exact .inr ⟨e,h⟩
def fI{X:Cx}{st:lh}:PS X st (λ _ _ _=>False):=λ _ _ _ _ _ _ h=>h.elim
section
variable {X:Cx} {tg iter kx vx:iC} {ifs:List iC} {sc:wq} {pos:Pos} {Nc:List Str} {js:List (Option Nat)} {wi:TI}
def dH(c b:iC)(env:Env)(a:ao):Sem Unit:=do
 let kv <-eval c env
 let vv <-holding [kv] (eval b env)
 match a with
 | .ref d=>do
  standAt (have __src:=c.pos;{line:=__src.line,col:=__src.col,endLine:=b.pos.endLine,endCol:=b.pos.endCol})
  holding [kv,vv] (dictSet d kv vv)
 | _=>unsupported "internal:dictcomp"
def kEV(f g d iter:iC)(c:List iC)(h:wq)(b:Pos)(it a:ao)(env:Env) :
  compTurn (.DictComp f g [⟨d,iter,c,0⟩] h b) 0 it a env=(standAt iter.pos >>= λ _=>pyNext it >>= λ r=>match r with
   | none=>pure (.done .next)
   | some v=>letOwnedTupleGo d it v >>= λ _=>assign d env v >>= λ _=>xJ c env (dH f g env a) (.compLoop (.DictComp f g [⟨d,iter,c,0⟩] h b) 0 it a env)):=by rfl
def tDC(js:List (Option Nat))(c:TI)(g:TG)(d:ay->TB):TE:=λ b H Q=>c b H λ J a=>∀ D,a D=none->vP J g (d D) (λ _ f=>Q (.ref D) f) (cP js b) (upd a D (.dK []))
def kPH{g:TG}{bd:ay->TB}(hx:X.xe=λ _ _=>False)(hc:X.calm=true)(hi:PI X tg iter wi)(S:CS sc X.env.scope)(a2:bS js Nc X.N sc.names=true)
  (hg:∀ C s₂ H₂ fp pins,PG (cxC X Nc sc C s₂ H₂ fp pins) tg g)
  (m:∀ C s₂ H₂ fp pins D L,PTl (cxC X Nc sc C s₂ H₂ fp pins) (xJ ifs (cxC X Nc sc C s₂ H₂ fp pins).env (dH kx vx (cxC X Nc sc C s₂ H₂ fp pins).env (.ref D)) L) L (bd D))
  (hs:∀ x,foldedSetIterable iter X.env x=pure x:=by intro _;rfl) :
  PE X (.DictComp kx vx [⟨tg,iter,ifs,0⟩] sc pos) (tDC js wi g bd):=by
 intro pins s σ H Q I h;rw[CO];have a5:closureFor sc X.env=pure (uQ sc X.env):=yD λ y hy hf=>I.ok.has y.1 (.inl (S.free y hy hf));refine mh (use:=none) rfl hs a5 S.kind S.names (thn (hi pins s σ H _ I h) λ v s1 h1=>thn h1 λ a7 d M=>?_);obtain⟨it,fp,tn,J,O,e,U,T,a1,f2,hw⟩:=M;subst e;have u:∀ b∈fp,b<d.heap.objs.size:=λ b m=>let ⟨o,ho,_⟩:=T.obj _ _ a1 b m;cn ho;refine iQ (se S.nocell (by intro y hy;simp at hy) (λ i f a=>?_) S.kind);dsimp only at f a ⊢;generalize r:d.heap.push {cls:=.type "dict",dict:=none,data:=.dict #[]}=G at f a ⊢;have a6:G.objs.size=d.heap.objs.size+1:=by rw[<-r,jq]
 have Z:d.heap.objs.size≠G.objs.size:=by omega
 have l:d.heap.objs.size<=G.objs.size:=by omega
 have Y:∀ b o,d.heap.get? b=some o->i.get? b=some o:=λ b o e=>a.extBut b o (df (dc (cn e) l)) (ar _ (r ▸ ar _ e));have B:i.get? d.heap.objs.size=some {cls:=.type "dict",dict:=none,data:=.dict #[]}:=a.extBut _ _ Z (ar _ (r ▸ cg _ rfl))
 have new:ObjOk X.prog X.w (upd O d.heap.objs.size (.dK [])) i d.heap.objs.size (.dK []):=by
  refine⟨fj _,beq_eq_false_iff_ne.mpr (qe (df U.big)),[],.nil,?_⟩;obtain⟨o,es,ep,h1,rest⟩:=DI (knd:=kX X.prog X.w) d.heap;have M:(d.heap.push {cls:=.type "dict",dict:=none,data:=.dict #[]}).get? d.heap.objs.size=some {cls:=.type "dict",dict:=none,data:=.dict #[]}:=cg _ rfl;have h3:=h1.symm.trans M;exact⟨o,es,ep,B.trans h3.symm,rest⟩
 have I4:=wK (js:=js) (Nc:=Nc) (tk:=d.toks+([]:List (Str×ao)).length) U S f2 u a2 l (bg _) Z Y f new;have hn:O d.heap.objs.size=none:=U.fresh
 have f4:∀ b∈fp,yN (cxC X Nc sc G.objs.size d O fp pins) [] (upd O d.heap.objs.size (.dK [])) b:=λ b m=>by
  obtain⟨h0,h1,M,h3,h4,h5⟩:=f2 b m;refine⟨?_,df (dc (u b m) l),λ z=>?_,.inl m,λ x c z=>?_,λ p hp=>?_⟩
  ·rw[kK (df (u b m))];exact h0
  ·rcases cy.mp (U.stkSub b z) with q | q
   ·exact h1 q
   ·exact M q
  ·exact h4 x c (bR sc.names [] (λ z=>nomatch z) z)
  ·rcases bu.mp hp with z | z
   ·exact h5 p z
   ·exact absurd z (by simp)
 have a0:tn 0 i:=T.keep _ _ _ a1 λ b m o e=>Y b o e
 have n:codeAny (model X.prog X.w) X.A (.compLoop (.DictComp kx vx [⟨tg,iter,ifs,0⟩] sc pos) 0 (.ref it) (.ref d.heap.objs.size) (compEnvC sc (uQ sc X.env) G.objs.size X.env))
   (compPost (model X.prog X.w) X.A X.xe none (EP X pins σ Q) (.ref d.heap.objs.size) G.objs.size) {d with heap:=i,toks:=d.toks+([]:List (Str×ao)).length}:=by
  refine xQ (X:=cxC X Nc sc G.objs.size d O fp pins) (.inr ⟨kx,vx,rfl⟩) hx hc (kEV _ _ _ _ _ _ _ _ _ _) T (hg _ _ _ _ _) (m _ _ _ _ _ _ _) I4 a0 f4 (hw _ hn) λ a8 H' s' I' q=>?_;obtain⟨m',a3,_⟩:=I'.loc;exact⟨m',a3,λ h' a4=>⟨.ref d.heap.objs.size,H',wL U f2 l I' a4,rfl,q⟩⟩
 exact jY (.inr ⟨kx,vx,rfl⟩) rfl rfl n (T.self _ _ _ _ _ a0 n)
def bM{prog:eU}{w:gk}{A:fb}{E:ao->av->Prop}{s:av}{t f:ay}{items:Array ao}{l m:ao}{lo hi:Option Int}{Q:ao->av->Prop}(a:FZ s.heap t items)(g:s.heap.IsSliceOf f l m .none)(n:Cs l lo)(p:Cs m hi)
  (i:HT.sIx items.size 0 lo=0/\HT.sIx items.size items.size hi=items.size) (h:Q (.ref t) s):cx (model prog w) A (getItem (.ref t) (.ref f)) Q E s:=by
 obtain⟨os,d,c,o⟩:=id g;have b:s.TypeIs (.ref f) "slice":=⟨os,d,c⟩;unfold getItem
 try with_reducible refine fq ?_
 first | refine ae (az ?_) | skip
 refine ae (EV a.typeIs (by decide) ?_)
 refine ae (iO (name:=gw "__getitem__") a.typeIs iz
  (je iz a.typeIs Dl ?_ (EA _ _)))
 show cx _ _ (Bl (.ref t) >>= _) _ _ s;refine ae (tupleItemsOf_ a ?_);refine ae (jz b ?_);rw[if_pos (by decide)];refine ae (HT.sliceApplied_gen g n p ?_);show cx _ _ (if(((HT.sIx items.size 0 lo:Nat):Int) == 0 && (1:Int) == 1 && (HT.sIx items.size items.size hi-HT.sIx items.size 0 lo) == items.size)=true then _ else _) _ _ s;rw[if_pos (by rw[i.1,i.2];simp)];unfold Fz
 first
  | refine ae (ae (jz a.typeIs (az ?_)))
  | refine ae (jz a.typeIs (az ?_))
 rw[if_pos (by decide)];exact ae (uz (az ⟨_,rfl,az h⟩))
inductive kSB(K:bb)(x:V)(lo:Option Int)(hi:Option Int)(H:Hp)(Q:VK):Prop
 | mk:∀ a xs,(x=.ref a)->(SqT K H a xs)->((HT.sIx xs.length 0 lo=0/\HT.sIx xs.length xs.length hi=xs.length))->(Q (.ref a) H)->kSB K x lo hi H Q
def kOT:SlR X (kSB X.K):=by
 intro d s B H x v C D lo u A Q I p n l i h;obtain⟨a,m,rfl,o,g,q⟩:=h;cases p
 obtain⟨c,r,f,y⟩:=I.tuple o;have b:c.toArray.size=m.length:=by rw[eR];exact r.length.symm
 refine⟨"tuple",_,iz.lookup,f.typeIs,?_⟩;exact bM f n l i (by rw[b];exact g) ⟨.ref a,H,I,rfl,q⟩
def kWE(K:bb):V->Option Int->Option Int->Hp->VK->Prop:=λ x lo a H Q=>kRZ K x lo a H Q\/kSB K x lo a H Q
def rC:SlR X (kWE X.K):=sl_tup.or kOT
end
end L2
namespace Cyc
def Adj:List Nat->Nat->Nat->Prop
 | x::y::r,a,b=>(a=x/\b=y)\/Adj (y::r) a b
 | _,_,_=>False
def Nx(row:List Nat)(a b:Nat):Prop:=Adj (row++row.head?.toList) a b
def kHM(x a b:Nat):¬ Adj [x] a b:=id
def zU(x y:Nat)(r:List Nat)(a b:Nat):Adj (x::y::r) a b↔(a=x/\b=y)\/Adj (y::r) a b:=Cw
theorem qT:∀(l:List Nat)(x:Nat)(r:List Nat)(a b:Nat),Adj (l++x::r) a b↔Adj (l++[x]) a b\/Adj (x::r) a b
 | [],x,r,a,b=>⟨.inr,λ h=>h.elim (λ z=>(kHM x a b z).elim) id⟩
 | [y],x,r,a,b=>by
  show(a=y/\b=x)\/Adj (x::r) a b↔((a=y/\b=x)\/Adj [x] a b)\/Adj (x::r) a b;have:=kHM x a b;exact⟨λ h=>h.elim (λ z=>.inl (.inl z)) .inr,λ h=>h.elim (λ z=>z.elim .inl λ q=>(this q).elim) .inr⟩
 | y::z::l,x,r,a,b=>by
  have c:=qT (z::l) x r a b;show(a=y/\b=z)\/Adj (z::l++x::r) a b↔((a=y/\b=z)\/Adj (z::l++[x]) a b)\/Adj (x::r) a b;rw[c];exact⟨λ h=>h.elim (λ q=>.inl (.inl q)) λ q=>q.elim (λ q=>.inl (.inr q)) .inr,λ h=>h.elim (λ q=>q.elim .inl λ q=>.inr (.inl q)) λ q=>.inr (.inr q)⟩
theorem jI:∀{l:List Nat}{a b:Nat},Adj l a b->a∈l/\b∈l.tail
 | [],_,_,h=>h.elim
 | [_],_,_,h=>h.elim
 | x::y::r,a,b,h=>by
  rcases h with⟨rfl,rfl⟩ | h
  ·exact⟨eV,eV⟩
  ·have:=jI h
   exact⟨dq _ this.1,dq _ this.2⟩
def sJ(x:Nat)(r:List Nat)(a b:Nat):Nx (x::r) a b↔Adj (x::r++[x]) a b:=Cw
def jX(A C:List Nat)(a b:Nat):Nx (A++C) a b↔Nx (C++A) a b:=by
 cases A with
 | nil=>rw[ub,iY]
 | cons a0 A' =>
  cases C with
  | nil=>rw[ub,iY]
  | cons c0 C' =>
   have c:Nx (a0::A'++c0::C') a b↔Adj ((a0::A')++c0::(C'++[a0])) a b:=by
    show Adj ((a0::A'++c0::C')++[a0]) a b↔_;rw[dr];exact Cw
   have d:Nx (c0::C'++a0::A') a b↔Adj ((c0::C')++a0::(A'++[c0])) a b:=by
    show Adj ((c0::C'++a0::A')++[c0]) a b↔_;rw[dr];exact Cw
   rw[c,d,qT (a0::A') c0,qT (c0::C') a0];exact Or.comm
def zP(v:Nat)(R:List Nat)(a b:Nat):Nx (v::R) a b↔(a=v/\b=(R++[v]).headD 0)\/Adj (R++[v]) a b:=by
 rw[sJ]
 cases R with
 | nil=>exact Cw
 | cons y r=>exact Cw
theorem jP:∀{R:List Nat}{v a b:Nat},v∉R->Adj (R++[v]) a b->a≠v
 | [],_,_,_,_,h=>h.elim
 | x::r,v,a,b,hv,h=>by
  have c:v∉r:=λ z=>hv (dq _ z);have d:x≠v:=λ z=>hv (by rw[z];exact eV)
  cases r with
  | nil =>
   rcases h with⟨rfl,_⟩ | h
   ·exact d
   ·exact h.elim
  | cons y r' =>
   rcases h with⟨rfl,_⟩ | h
   ·exact d
   ·exact jP c h
def kSS{A B:List Nat}{v w:Nat}(nd:(A++v::B).Nodup)(f:w∉A++v::B)(a b:Nat) :
  Nx (A++v::w::B) a b↔(a=v/\b=w)\/(a=w/\Nx (A++v::B) v b)\/(a≠v/\Nx (A++v::B) a b):=by
 rw[jX A (v::w::B),jX A (v::B),jX A (v::B)];simp only[iE]
 have d:v∉B++A:=λ z=>by
  rw[bj]at nd;rcases bu.mp z with z | z
  ·exact(eK.mp nd.2.1).1 z
  ·exact nd.2.2 v z v eV rfl
 have m:w≠v:=λ z=>f (by rw[z];simp);generalize l:B++A=R at d;rw[zP,zP,zP];have g:(w::R++[v]).headD 0=w:=rfl
 have i:Adj (w::R++[v]) a b↔(a=w/\b=(R++[v]).headD 0)\/Adj (R++[v]) a b:=by
  cases R with
  | nil=>exact Cw
  | cons y r=>exact Cw
 rw[g,i];constructor
 ·rintro(h | h | h)
  ·exact .inl h
  ·exact .inr (.inl ⟨h.1,.inl ⟨rfl,h.2⟩⟩)
  ·exact .inr (.inr ⟨jP d h,.inr h⟩)
 ·rintro(h | ⟨h,c⟩ | ⟨h,c⟩)
  ·exact .inl h
  ·rcases c with⟨_,z⟩ | z
   ·exact .inr (.inl ⟨h,z⟩)
   ·exact(jP d z rfl).elim
  ·rcases c with⟨z,_⟩ | z
   ·exact(h z).elim
   ·exact .inr (.inr z)
theorem dS:∀{l:List Nat}{a f b:Nat},l.tail.Nodup->Adj l a b->Adj l f b->a=f
 | [],_,_,_,_,h,_=>h.elim
 | [_],_,_,_,_,h,_=>h.elim
 | x::y::r,a,f,b,nd,h,d=>by
  have c:(y::r).Nodup:=nd;rcases h with⟨rfl,rfl⟩ | h
  ·rcases d with⟨rfl,_⟩ | d
   ·rfl
   ·exact((eK.mp c).1 (jI d).2).elim
  ·rcases d with⟨rfl,rfl⟩ | d
   ·exact((eK.mp c).1 (jI h).2).elim
   ·exact dS (l:=y::r) (eK.mp c).2 h d
def wG{row:List Nat}{v:Nat}(h:v∈row):∃ A B,row=A++v::B:=xr h
def uH{A B:List Nat}{v:Nat}(nd:(A++v::B).Nodup):v∉B++A/\(B++A).Nodup:=by
 rw[bj]at nd;obtain⟨i,g,c⟩:=nd;obtain⟨f,l⟩:=eK.mp g;refine⟨λ z=>?_,?_⟩
 ·rcases bu.mp z with z | z
  ·exact f z
  ·exact c v z v eV rfl
 ·rw[bj]
  exact⟨l,i,λ a d b h e=>c b h a (dq _ d) e.symm⟩
def kT{row:List Nat}{a b:Nat}(h:Nx row a b):a∈row/\b∈row:=by
 cases row with
 | nil=>exact h.elim
 | cons x r =>
  have q:=jI h;constructor
  ·rcases bu.mp q.1 with z | z
   ·exact z
   ·exact cy.mpr (.inl (by simpa using z))
  ·rcases bu.mp q.2 with z | z
   ·exact dq _ z
   ·exact cy.mpr (.inl (by simpa using z))
def jN{row:List Nat}{a b c:Nat}(nd:row.Nodup)(h:Nx row a b)(h':Nx row a c):b=c:=by
 obtain⟨A,B,rfl⟩:=wG (kT h).1;rw[jX]at h h';simp only[iE]at h h';obtain⟨d,f⟩:=uH nd;rw[zP]at h h';rcases h with⟨_,rfl⟩ | h
 ·rcases h' with⟨_,rfl⟩ | h'
  ·rfl
  ·exact(jP d h' rfl).elim
 ·exact(jP d h rfl).elim
def yF{row:List Nat}{a c b:Nat}(nd:row.Nodup)(h:Nx row a b)(h':Nx row c b):a=c:=by
 obtain⟨A,B,rfl⟩:=wG (kT h).2;rw[jX]at h h';simp only[iE]at h h';obtain⟨i,g⟩:=uH nd;rw[sJ]at h h';refine dS ?_ h h';show(B++A++[b]).Nodup;rw[bj];exact⟨g,by simp,λ x f y d e=>i (by simp at d;rw[<-d,<-e];exact f)⟩
def kST{A B:List Nat}{q:Nat}(nd:(A++q::B).Nodup)(a b:Nat) :
  Nx (A++B) a b↔(a≠q/\b≠q/\Nx (A++q::B) a b)\/(a≠q/\b≠q/\Nx (A++q::B) a q/\Nx (A++q::B) q b):=by
 rw[jX A B,jX A (q::B),jX A (q::B),jX A (q::B)];simp only[iE];obtain⟨i,s⟩:=uH nd;generalize B++A=R at i s;clear nd
 cases R with
 | nil =>
  constructor
  ·intro h;exact h.elim
  ·rintro(⟨h1,g,f⟩ | ⟨h1,g,f,_⟩)
   ·rcases f with⟨z,_⟩ | z
    ·exact(h1 z).elim
    ·exact z.elim
   ·rcases f with⟨z,_⟩ | z
    ·exact(h1 z).elim
    ·exact z.elim
 | cons x T =>
  rw[zP q (x::T) a b,zP q (x::T) a q,zP q (x::T) q b,sJ x T];have m:(x::T++[q]).headD 0=x:=rfl;rw[m]
  have o:x≠q:=λ z=>i (by rw[z];exact eV)
  have key:∀(T:List Nat)(x z a b:Nat),Adj (x::T++[z]) a b↔Adj (x::T) a b\/(a=(x::T).getLast (by simp)/\b=z):=by
   intro T
   induction T with
   | nil=>intro x z a b;exact⟨λ h=>h.elim .inr λ q=>q.elim,λ h=>h.elim (λ q=>q.elim) .inl⟩
   | cons y r ih =>
    intro x z a b;show(a=x/\b=y)\/Adj (y::r++[z]) a b↔((a=x/\b=y)\/Adj (y::r) a b)\/_;rw[ih y z a b,Ec (yw y r)];exact or_assoc.symm
  rw[key T x x,key T x q,key T x q,key T x q]
  have mem:∀{c d},Adj (x::T) c d->c≠q/\d≠q:=λ{c d} h=>by
   have:=jI h;exact⟨λ z=>i (z ▸ this.1),λ z=>i (z ▸ dq _ this.2)⟩
  have l:(x::T).getLast (by simp)≠q:=λ z=>i (z ▸ List.getLast_mem _);constructor
  ·rintro(h | ⟨h1,g⟩)
   ·exact .inl ⟨(mem h).1,(mem h).2,.inr (.inl h)⟩
   ·refine .inr ⟨by rw[h1];exact l,by rw[g];exact o,.inr (.inr ⟨h1,rfl⟩),.inl ⟨rfl,g⟩⟩
  ·rintro(⟨h1,g,f⟩ | ⟨h1,g,f,u⟩)
   ·rcases f with⟨z,_⟩ | z | ⟨_,z⟩
    ·exact(h1 z).elim
    ·exact .inl z
    ·exact(g z).elim
   ·have n:a=(x::T).getLast (by simp):=by
     rcases f with⟨z,_⟩ | z | ⟨z,_⟩
     ·exact(h1 z).elim
     ·exact((mem z).2 rfl).elim
     ·exact z
    have p:b=x:=by
     rcases u with⟨_,z⟩ | z | ⟨z,_⟩
     ·exact z
     ·exact((mem z).1 rfl).elim
     ·exact(l z.symm).elim
    exact .inr ⟨n,p⟩
end Cyc
namespace Tri
open Cyc
abbrev Rows:=List (List Nat)
def R(L:Rows)(q a b:Nat):Prop:=∃ row,L[q]?=some row/\Nx row a b
def E(L:Rows)(a b:Nat):Prop:=∃ row,L[a]?=some row/\b∈row
inductive Reach(L:Rows):Nat->Nat->Prop
 | here (a:Nat):Reach L a a
 | more {a b c:Nat}:Reach L a b->E L b c->Reach L a c
def Reach.trans{L:Rows}{a b c:Nat}(h:Reach L a b)(h':Reach L b c):Reach L a c:=by
 induction h' with
 | here=>exact h
 | more _ e ih=>exact .more ih e
theorem Reach.by{L c:Rows}(h:∀ a b,E L a b->Reach c a b){a b:Nat}(r:Reach L a b):Reach c a b:=by
 induction r with
 | here=>exact .here _
 | more _ e ih=>exact ih.trans (h _ _ e)
structure Good(L:Rows):Prop where
 three:3<=L.length
 ne:∀(p:Nat)(row:List Nat),L[p]?=some row->row≠[]
 nd:∀(p:Nat)(row:List Nat),L[p]?=some row->row.Nodup
 rng:∀(p:Nat)(row:List Nat)(a:Nat),L[p]?=some row->a∈row->a<L.length/\a≠p
 tri:∀ q a b,R L q a b->R L a b q
 con:∀ p,p<L.length->Reach L 0 p
 tot:(L.map iV).sum+12=6*L.length
def gP{L:Rows}{p:Nat}{row:List Nat}(hp:p<L.length)(x a b:Nat):R (L.set p row) x a b↔(x=p/\Nx row a b)\/(x≠p/\R L x a b):=by
 unfold R;by_cases h:x=p
 ·subst h
  simp[jm hp]
 ·simp[eW (qe h),h]
def kUL{L:Rows}{row:List Nat}(x a b:Nat):R (L++[row]) x a b↔R L x a b\/(x=L.length/\Nx row a b):=by
 unfold R;rcases yk x L.length with h | h | h
 ·rw[cm h]
  constructor
  ·exact .inl
  ·rintro(z | ⟨z,_⟩)
   ·exact z
   ·omega
 ·subst h
  rw[ck (bg _),iZ (bg _)];simp
 ·rw[iZ (by simp;omega),iZ (by omega)]
  constructor
  ·rintro⟨_,z,_⟩;cases z
  ·rintro(⟨_,z,_⟩ | ⟨z,_⟩)
   ·cases z
   ·omega
def yP{L:Rows}{q a b:Nat}(h:R L q a b):E L q a/\E L q b:=by
 obtain⟨row,e,n⟩:=h;exact⟨⟨row,e,(kT n).1⟩,⟨row,e,(kT n).2⟩⟩
def xS{L:Rows}(G:Good L){q a b c:Nat}(h:R L q a b)(h':R L q a c):b=c:=by
 obtain⟨row,e,n⟩:=h;obtain⟨f,d,g⟩:=h';rw[e]at d
 cases d
 exact jN (G.nd q row e) n g
def kLZ{L:Rows}(G:Good L){q a d b:Nat}(h:R L q a b)(h':R L q d b):a=d:=by
 obtain⟨row,e,n⟩:=h;obtain⟨f,c,g⟩:=h';rw[e]at c
 cases c
 exact yF (G.nd q row e) n g
def yQ{L:Rows}(G:Good L){q a b:Nat}(h:R L q a b):q<L.length/\a<L.length/\b<L.length/\a≠q/\b≠q:=by
 obtain⟨row,e,n⟩:=h;have m:=kT n;have:=G.rng q row a e m.1;have:=G.rng q row b e m.2;have:q<L.length:=(au.mp e).1;omega
def kUT{row:List Nat}{b:Nat}(h:b∈row):∃ a,Nx row a b:=by
 obtain⟨A,B,rfl⟩:=wG h
 have key:∀(R:List Nat),∃ a,Nx (b::R) a b:=by
  intro R
  cases R with
  | nil=>exact⟨b,.inl ⟨rfl,rfl⟩⟩
  | cons y r =>
   have:∀(r:List Nat)(y:Nat),∃ a,Adj (y::r++[b]) a b:=by
    intro r
    induction r with
    | nil=>intro y;exact⟨y,.inl ⟨rfl,rfl⟩⟩
    | cons z r ih=>intro y;obtain⟨a,q⟩:=ih z;exact⟨a,.inr q⟩
   obtain⟨a,q⟩:=this r y;exact⟨a,.inr q⟩
 obtain⟨a,q⟩:=key (B++A);exact⟨a,(jX A (b::B) a b).mpr q⟩
def cF{row:List Nat}{a:Nat}(h:a∈row):∃ b,Nx row a b:=by
 obtain⟨A,B,rfl⟩:=wG h;refine⟨(B++A++[a]).headD 0,(jX A (a::B) _ _).mpr ?_⟩;exact(zP a (B++A) a _).mpr (.inl ⟨rfl,rfl⟩)
def Good.sym{L:Rows}(G:Good L){a b:Nat}(h:E L a b):E L b a:=by
 obtain⟨row,e,m⟩:=h;obtain⟨c,n⟩:=cF m;have:=G.tri a b c ⟨row,e,n⟩;exact(yP this).2
def jH(row:List Nat)(v w:Nat):List Nat:=row.take (row.idxOf v+1)++w::row.drop (row.idxOf v+1)
def jS(row:List Nat)(q:Nat):List Nat:=row.eraseIdx (row.idxOf q)
def cL{A B:List Nat}{v:Nat}(h:v∉A):(A++v::B).idxOf v=A.length:=by
 rw[List.idxOf_append,if_neg h];simp
def jV{row:List Nat}{v:Nat}(h:v∈row)(nd:row.Nodup):∃ A B,row=A++v::B/\v∉A/\v∉B:=by
 obtain⟨A,B,rfl⟩:=wG h;have q:=uH nd;exact⟨A,B,rfl,λ z=>q.1 (cw _ z),λ z=>q.1 (cj _ z)⟩
def sL{A B:List Nat}{v w:Nat}(h:v∉A):jH (A++v::B) v w=A++v::w::B:=by
 unfold jH;rw[cL h];have e:A++v::B=(A++[v])++B:=by simp
 rw[e,AD (by simp),BN (by simp)];simp
def sQ{A B:List Nat}{q:Nat}(h:q∉A):jS (A++q::B) q=A++B:=by
 unfold jS;rw[cL h,AX (bg _)];simp
def xN{row:List Nat}{v w:Nat}(h:v∈row):(jH row v w).length=row.length+1:=by
 unfold jH;simp only[cq,eJ,eh,iN];have:=fe h;omega
def kBW{row:List Nat}{q:Nat}(h:q∈row):(jS row q).length+1=row.length:=by
 unfold jS;have:=fe h;rw[List.length_eraseIdx_of_lt this];omega
def xM{row:List Nat}{v w x:Nat}(h:v∈row)(nd:row.Nodup):x∈jH row v w↔x∈row\/x=w:=by
 obtain⟨A,B,rfl,hA,hB⟩:=jV h nd;rw[sL hA];simp only[bu,cy]
 grind
def wP{row:List Nat}{q x:Nat}(h:q∈row)(nd:row.Nodup):x∈jS row q↔x∈row/\x≠q:=by
 obtain⟨A,B,rfl,hA,hB⟩:=jV h nd;rw[sQ hA];simp only[bu,cy]
 grind
def bI{row:List Nat}{v w:Nat}(h:v∈row)(nd:row.Nodup)(a:w∉row):(jH row v w).Nodup:=by
 obtain⟨A,B,rfl,hA,hB⟩:=jV h nd;rw[sL hA];simp only[bj,eK,cy,bu]at nd a ⊢
 grind
def kGY{row:List Nat}{q:Nat}(h:q∈row)(nd:row.Nodup):(jS row q).Nodup:=by
 obtain⟨A,B,rfl,hA,hB⟩:=jV h nd;rw[sQ hA];simp only[bj,eK,cy]at nd ⊢
 grind
def bC{row:List Nat}{v w:Nat}(h:v∈row)(nd:row.Nodup)(c:w∉row)(a b:Nat):Nx (jH row v w) a b↔(a=v/\b=w)\/(a=w/\Nx row v b)\/(a≠v/\Nx row a b):=by
 obtain⟨A,B,rfl,hA,hB⟩:=jV h nd;rw[sL hA];exact kSS nd c a b
def kGK{row:List Nat}{q:Nat}(h:q∈row)(nd:row.Nodup)(a b:Nat):Nx (jS row q) a b↔(a≠q/\b≠q/\Nx row a b)\/(a≠q/\b≠q/\Nx row a q/\Nx row q b):=by
 obtain⟨A,B,rfl,hA,hB⟩:=jV h nd;rw[sQ hA];exact kST nd a b
theorem yU:∀(L:Rows)(p:Nat)(row new:List Nat),L[p]?=some row->((L.set p new).map iV).sum+row.length=(L.map iV).sum+new.length
 | [],p,row,new,h=>by simp at h
 | x::r,0,row,new,h=>by
  simp at h;subst h;simp;omega
 | x::r,p+1,row,new,h=>by
  simp at h;have q:=yU r p row new h;simp only[List.set_cons_succ,eX,Dc];omega
def aO(L:Rows)(p q r:Nat)(a c b:List Nat):Rows :=
 ((L.set p (jH a q L.length)).set q (jH c r L.length)).set r (jH b p L.length)++[[p,q,r]]
def nx3(p q r a b:Nat):Nx [p,q,r] a b↔(a=p/\b=q)\/(a=q/\b=r)\/(a=r/\b=p):=by
 show((a=p/\b=q)\/(a=q/\b=r)\/(a=r/\b=p)\/False)↔_;simp
def zR{L:Rows}{p:Nat}{new:List Nat}(hp:p<L.length){x:Nat}{row:List Nat}(h:(L.set p new)[x]?=some row):(x=p/\row=new)\/(x≠p/\L[x]?=some row):=by
 by_cases e:x=p
 ·subst e
  rw[jm hp]at h;exact .inl ⟨rfl,(cc h).symm⟩
 ·rw[eW (qe e)]at h
  exact .inr ⟨e,h⟩
def mB{L:Rows}{p:Nat}{new:List Nat}(hp:p<L.length)(x b:Nat):E (L.set p new) x b↔(x=p/\b∈new)\/(x≠p/\E L x b):=by
 unfold E;by_cases h:x=p
 ·subst h
  simp[jm hp]
 ·simp[eW (qe h),h]
def kTQ{L:Rows}{row:List Nat}{x b:Nat}(h:E L x b):E (L++[row]) x b:=by
 obtain⟨r,e,m⟩:=h;exact⟨r,by rw[cm (au.mp e).1];exact e,m⟩
section
variable {L:Rows} {p q r:Nat} {rp rq rr:List Nat}
def kOG(G:Good L)(hp:L[p]?=some rp)(C:L[q]?=some rq)(B:L[r]?=some rr)(f:Nx rq r p):Good (aO L p q r rp rq rr):=by
 have Y:R L q r p:=⟨rq,C,f⟩;have Fr:R L r p q:=G.tri _ _ _ Y;have Fp:R L p q r:=G.tri _ _ _ Fr;have S:Nx rr p q:=by obtain⟨x,e,n⟩:=Fr;rw[B]at e;cases e;exact n
 have T:Nx rp q r:=by obtain⟨x,e,n⟩:=Fp;rw[hp]at e;cases e;exact n
 obtain⟨lq,lr,lp,s,o⟩:=yQ G Y;obtain⟨-,-,-,l,-⟩:=yQ G Fr;have M:=G.nd p rp hp;have J:=G.nd q rq C;have N:=G.nd r rr B;have vp:L.length∉rp:=λ z=>qw _ (G.rng p rp _ hp z).1;have vq:L.length∉rq:=λ z=>qw _ (G.rng q rq _ C z).1;have X:L.length∉rr:=λ z=>qw _ (G.rng r rr _ B z).1;have mp:=(kT T).1;have D:=(kT f).1;have H:=(kT S).1;have U:p<L.length:=lp;have O:q<(L.set p (jH rp q L.length)).length:=by simpa using lq
 have Q:r<((L.set p (jH rp q L.length)).set q (jH rq r L.length)).length:=by simpa using lr
 have len:(aO L p q r rp rq rr).length=L.length+1:=by simp[aO]
 have g:(((L.set p (jH rp q L.length)).set q (jH rq r L.length)).set r (jH rr p L.length)).length=L.length:=by simp
 have look:∀(x:Nat)(row:List Nat),(aO L p q r rp rq rr)[x]?=some row->(x=L.length/\row=[p,q,r])\/(x=r/\row=jH rr p L.length)\/(x=q/\row=jH rq r L.length)\/(x=p/\row=jH rp q L.length)\/(x≠p/\x≠q/\x≠r/\L[x]?=some row):=by
  intro x row h;unfold aO at h;by_cases hx:x<L.length
  ·rw[cm (by rw[g];exact hx)]at h
   rcases zR Q h with z | ⟨n3,h⟩
   ·exact .inr (.inl z)
   ·rcases zR O h with z | ⟨n2,h⟩
    ·exact .inr (.inr (.inl z))
    ·rcases zR U h with z | ⟨n1,h⟩
     ·exact .inr (.inr (.inr (.inl z)))
     ·exact .inr (.inr (.inr (.inr ⟨n1,n2,n3,h⟩)))
  ·rw[ck (by rw[g];omega),g]at h
   have:x-L.length=0:=by
    rcases Nat.eq_zero_or_pos (x-L.length) with z | z
    ·exact z
    ·rw[iZ (by simp;omega)]at h;cases h
   rw[this]at h;exact .inl ⟨by omega,(cc h).symm⟩
 have u:∀ x a b,R (aO L p q r rp rq rr) x a b↔(x=L.length/\((a=p/\b=q)\/(a=q/\b=r)\/(a=r/\b=p)))\/(x=r/\((a=p/\b=L.length)\/(a=L.length/\b=q)\/(a≠p/\R L r a b)))\/(x=q/\((a=r/\b=L.length)\/(a=L.length/\b=p)\/(a≠r/\R L q a b)))\/(x=p/\((a=q/\b=L.length)\/(a=L.length/\b=r)\/(a≠q/\R L p a b)))\/(x≠p/\x≠q/\x≠r/\R L x a b):=by
  intro x a b;have e1:Nx rp q b↔b=r:=⟨λ z=>jN M z T,λ z=>z ▸ T⟩;have e2:Nx rq r b↔b=p:=⟨λ z=>jN J z f,λ z=>z ▸ f⟩;have e3:Nx rr p b↔b=q:=⟨λ z=>jN N z S,λ z=>z ▸ S⟩;have g1:R L p a b↔Nx rp a b:=⟨λ⟨z,e,n⟩=>by rw[hp]at e;cases e;exact n,λ n=>⟨rp,hp,n⟩⟩;have g2:R L q a b↔Nx rq a b:=⟨λ⟨z,e,n⟩=>by rw[C]at e;cases e;exact n,λ n=>⟨rq,C,n⟩⟩;have g3:R L r a b↔Nx rr a b:=⟨λ⟨z,e,n⟩=>by rw[B]at e;cases e;exact n,λ n=>⟨rr,B,n⟩⟩;unfold aO;rw[kUL,gP Q,gP O,gP U,bC mp M vp,bC D J vq,bC H N X,nx3,g,e1,e2,e3,g1,g2,g3];have no:¬ R L L.length a b:=λ z=>by have:=yQ G z;omega
  clear Y Fr Fp S T M J N vp vq X mp D H U O Q len g look hp C B f e1 e2 e3 g1 g2 g3 G;by_cases x0:x=L.length
  ·subst x0
   have n1:¬ L.length=p:=jb lp;have n2:¬ L.length=q:=jb lq;have n3:¬ L.length=r:=jb lr;simp only[n1,n2,n3,no,ne_eq,not_false_eq_true,false_and,true_and,and_false,or_false,false_or,not_true_eq_false]
  ·by_cases A:x=r
   ·subst A
    have n1:¬ x=q:=s;have n2:¬ x=p:=λ z=>l z.symm;simp only[x0,n1,n2,ne_eq,not_false_eq_true,false_and,true_and,and_false,or_false,false_or,not_true_eq_false]
   ·by_cases I:x=q
    ·subst I
     have n2:¬ x=p:=λ z=>o z.symm;simp only[x0,A,n2,ne_eq,not_false_eq_true,false_and,true_and,and_false,or_false,false_or,not_true_eq_false]
    ·by_cases Z:x=p
     ·subst Z
      simp only[x0,A,I,ne_eq,not_false_eq_true,false_and,true_and,and_false,or_false,false_or,not_true_eq_false]
     ·simp only[x0,A,I,Z,ne_eq,not_false_eq_true,false_and,true_and,and_false,or_false,false_or,not_true_eq_false]
 have v1:L.length≠p:=jb lp;have v2:L.length≠q:=jb lq
 have v3:L.length≠r:=jb lr
 have v:∀ x a b,R L x a b->¬ (x=p/\a=q)->¬ (x=q/\a=r)->¬ (x=r/\a=p)->R (aO L p q r rp rq rr) x a b:=by
  intro x a b h h1 h2 h3;rw[u];clear Y Fr Fp S T lq lr lp s o l M J N vp vq X mp D H U O Q len g look hp C B f u G v1 v2 v3;by_cases A:x=r
  ·subst A;exact .inr (.inl ⟨rfl,.inr (.inr ⟨λ z=>h3 ⟨rfl,z⟩,h⟩)⟩)
  ·by_cases I:x=q
   ·subst I;exact .inr (.inr (.inl ⟨rfl,.inr (.inr ⟨λ z=>h2 ⟨rfl,z⟩,h⟩)⟩))
   ·by_cases Z:x=p
    ·subst Z;exact .inr (.inr (.inr (.inl ⟨rfl,.inr (.inr ⟨λ z=>h1 ⟨rfl,z⟩,h⟩)⟩)))
    ·exact .inr (.inr (.inr (.inr ⟨Z,I,A,h⟩)))
 have d:∀ x a b,R L x a b->¬ (x=p/\a=q)->¬ (x=q/\a=r)->¬ (x=r/\a=p)->R (aO L p q r rp rq rr) a b x:=by
  intro x a b h h1 h2 h3;have i:=G.tri _ _ _ h;clear S T lq lr lp s o l M J N vp vq X mp D H U O Q len g look hp C B f u v1 v2 v3;refine v _ _ _ i (λ z=>?_) (λ z=>?_) (λ z=>?_)
  ·obtain⟨rfl,rfl⟩:=z
   exact h3 ⟨xS G i Fp,rfl⟩
  ·obtain⟨rfl,rfl⟩:=z
   exact h1 ⟨xS G i Y,rfl⟩
  ·obtain⟨rfl,rfl⟩:=z
   exact h2 ⟨xS G i Fr,rfl⟩
 have c:∀ x a b,((x=L.length/\((a=p/\b=q)\/(a=q/\b=r)\/(a=r/\b=p)))\/(x=r/\((a=p/\b=L.length)\/(a=L.length/\b=q)))\/(x=q/\((a=r/\b=L.length)\/(a=L.length/\b=p)))\/(x=p/\((a=q/\b=L.length)\/(a=L.length/\b=r))))->R (aO L p q r rp rq rr) x a b:=by
  intro x a b h;rw[u];rcases h with h | ⟨h,i | i⟩ | ⟨h,i | i⟩ | ⟨h,i | i⟩
  ·exact .inl h
  ·exact .inr (.inl ⟨h,.inl i⟩)
  ·exact .inr (.inl ⟨h,.inr (.inl i)⟩)
  ·exact .inr (.inr (.inl ⟨h,.inl i⟩))
  ·exact .inr (.inr (.inl ⟨h,.inr (.inl i)⟩))
  ·exact .inr (.inr (.inr (.inl ⟨h,.inl i⟩)))
  ·exact .inr (.inr (.inr (.inl ⟨h,.inr (.inl i)⟩)))
 have y:∀ a b,E L a b->E (aO L p q r rp rq rr) a b:=by
  intro a b h;unfold aO;refine kTQ ?_;rw[mB Q,mB O,mB U,xM mp M,xM D J,xM H N];obtain⟨row,e,m⟩:=h;clear Y Fr Fp S T lq lr lp s o l M J N vp vq X mp D H U O Q len g look f u v d c G v1 v2 v3;by_cases A:a=r
  ·subst A;rw[B]at e;cases e;exact .inl ⟨rfl,.inl m⟩
  ·by_cases I:a=q
   ·subst I;rw[C]at e;cases e;exact .inr ⟨A,.inl ⟨rfl,.inl m⟩⟩
   ·by_cases Z:a=p
    ·subst Z;rw[hp]at e;cases e;exact .inr ⟨A,.inr ⟨I,.inl ⟨rfl,.inl m⟩⟩⟩
    ·exact .inr ⟨A,.inr ⟨I,.inr ⟨Z,row,e,m⟩⟩⟩
 refine⟨by rw[len];have:=G.three;omega,?_,?_,?_,?_,?_,?_⟩
 ·intro x row h
  rcases look x row h with⟨_,rfl⟩ | ⟨_,rfl⟩ | ⟨_,rfl⟩ | ⟨_,rfl⟩ | ⟨_,_,_,h⟩
  ·simp
  ·intro z;have:=xN (w:=L.length) H;rw[z]at this;simp at this
  ·intro z;have:=xN (w:=L.length) D;rw[z]at this;simp at this
  ·intro z;have:=xN (w:=L.length) mp;rw[z]at this;simp at this
  ·exact G.ne _ _ h
 ·intro x row h
  rcases look x row h with⟨_,rfl⟩ | ⟨_,rfl⟩ | ⟨_,rfl⟩ | ⟨_,rfl⟩ | ⟨_,_,_,h⟩
  ·simp only[eK,cy,gj,or_false,yv,and_true,not_false_eq_true]
   exact⟨λ z=>z.elim o l,λ z=>s z.symm⟩
  ·exact bI H N X
  ·exact bI D J vq
  ·exact bI mp M vp
  ·exact G.nd _ _ h
 ·intro x row a h m
  rw[len]
  replace h:=look x row h
  clear Y Fr Fp S T vp vq X U O Q len g look f u v d c y;rcases h with⟨rfl,rfl⟩ | ⟨rfl,rfl⟩ | ⟨rfl,rfl⟩ | ⟨rfl,rfl⟩ | ⟨_,_,_,h⟩
  ·simp only[cy,gj,or_false]at m
   clear s o l v1 v2 v3;omega
  ·rcases(xM H N).mp m with z | z
   ·have:=G.rng _ _ _ B z
    exact⟨tf this.1,this.2⟩
   ·subst z
    exact⟨Ay _,jb lr⟩
  ·rcases(xM D J).mp m with z | z
   ·have:=G.rng _ _ _ C z
    exact⟨tf this.1,this.2⟩
   ·subst z
    exact⟨Ay _,jb lq⟩
  ·rcases(xM mp M).mp m with z | z
   ·have:=G.rng _ _ _ hp z
    exact⟨tf this.1,this.2⟩
   ·subst z
    exact⟨Ay _,jb lp⟩
  ·have:=G.rng _ _ _ h m
   exact⟨tf this.1,this.2⟩
 ·intro x a b h
  rw[u]at h;clear Y Fr Fp S T lq lr lp M J N vp vq X mp D H U O Q len g look hp C B f u v y G v1 v2 v3;rcases h with⟨rfl,⟨rfl,rfl⟩ | ⟨rfl,rfl⟩ | ⟨rfl,rfl⟩⟩ | ⟨rfl,⟨rfl,rfl⟩ | ⟨rfl,rfl⟩ | ⟨h,i⟩⟩ | ⟨rfl,⟨rfl,rfl⟩ | ⟨rfl,rfl⟩ | ⟨h,i⟩⟩ | ⟨rfl,⟨rfl,rfl⟩ | ⟨rfl,rfl⟩ | ⟨h,i⟩⟩ | ⟨h1,h2,h3,i⟩
  ·exact c _ _ _ (.inr (.inr (.inr ⟨rfl,.inl ⟨rfl,rfl⟩⟩)))
  ·exact c _ _ _ (.inr (.inr (.inl ⟨rfl,.inl ⟨rfl,rfl⟩⟩)))
  ·exact c _ _ _ (.inr (.inl ⟨rfl,.inl ⟨rfl,rfl⟩⟩))
  ·exact c _ _ _ (.inr (.inr (.inr ⟨rfl,.inr ⟨rfl,rfl⟩⟩)))
  ·exact c _ _ _ (.inl ⟨rfl,.inr (.inl ⟨rfl,rfl⟩)⟩)
  ·exact d _ _ _ i (λ z=>l z.1.symm) (λ z=>s z.1) λ z=>h z.2
  ·exact c _ _ _ (.inr (.inl ⟨rfl,.inr ⟨rfl,rfl⟩⟩))
  ·exact c _ _ _ (.inl ⟨rfl,.inl ⟨rfl,rfl⟩⟩)
  ·exact d _ _ _ i (λ z=>o z.1.symm) (λ z=>h z.2) λ z=>s z.1.symm
  ·exact c _ _ _ (.inr (.inr (.inl ⟨rfl,.inr ⟨rfl,rfl⟩⟩)))
  ·exact c _ _ _ (.inl ⟨rfl,.inr (.inr ⟨rfl,rfl⟩)⟩)
  ·exact d _ _ _ i (λ z=>h z.2) (λ z=>o z.1) λ z=>l z.1
  ·exact d _ _ _ i (λ z=>h1 z.1) (λ z=>h2 z.1) λ z=>h3 z.1
 ·intro x hx
  rw[len]at hx;by_cases h:x=L.length
  ·subst h
   refine .more ((G.con p lp).by λ a b e=>.more (.here _) (y a b e)) ?_;exact(yP (c p q L.length (.inr (.inr (.inr ⟨rfl,.inl ⟨rfl,rfl⟩⟩))))).2
  ·exact(G.con x (by omega)).by λ a b e=>.more (.here _) (y a b e)
 ·rw[len]
  unfold aO;have t:=G.tot;have s1:=yU L p rp (jH rp q L.length) hp;have a1:(L.set p (jH rp q L.length))[q]?=some rq:=by rw[eW o];exact C
  have s2:=yU _ q rq (jH rq r L.length) a1;have a0:((L.set p (jH rp q L.length)).set q (jH rq r L.length))[r]?=some rr:=by rw[eW (λ z=>s z.symm),eW l];exact B
  have s3:=yU _ r rr (jH rr p L.length) a0;rw[xN mp]at s1;rw[xN D]at s2;rw[xN H]at s3;rw[eN,FR];simp only[eX,Cu,Dc,List.sum_nil,eh,qv];omega
end
def zL(L:Rows)(p q r s:Nat)(a d b c:List Nat):Rows :=
 (((L.set p (jS a q)).set q (jS d p)).set r (jH b p s)).set s (jH c q r)
section
variable {L:Rows} {p q r s:Nat} {rp rq rr rs:List Nat}
def kJK(G:Good L)(hp:L[p]?=some rp)(U:L[q]?=some rq)(T:L[r]?=some rr)(S:L[s]?=some rs)(f:Nx rq r p)(g:Nx rp s q)(I:r≠s)(sr:s∉rr):Good (zL L p q r s rp rq rr rs):=by
 have C:R L q r p:=⟨rq,U,f⟩;have u:R L r p q:=G.tri _ _ _ C;have D:R L p q r:=G.tri _ _ _ u;have H:R L p s q:=⟨rp,hp,g⟩;have v:R L s q p:=G.tri _ _ _ H;have J:R L q p s:=G.tri _ _ _ v;have un:∀{x row a b},L[x]?=some row->R L x a b->Nx row a b:=λ{x row a b} e ⟨z,e',n⟩=>by rw[e]at e';cases e';exact n
 obtain⟨lq,lr,lp,l,B⟩:=yQ G C;obtain⟨-,-,-,y,-⟩:=yQ G u;obtain⟨-,ls,-,o,-⟩:=yQ G H;obtain⟨-,-,-,A,-⟩:=yQ G v;have np:=G.nd p rp hp;have nq:=G.nd q rq U;have nr:=G.nd r rr T;have ns:=G.nd s rs S;have mp:q∈rp:=(kT (un hp D)).1;have mq:p∈rq:=(kT f).2;have Z:p∈rr:=(kT (un T u)).1;have X:q∈rs:=(kT (un S v)).1
 have N:r∉rs:=λ z=>by
  obtain⟨row,e,m⟩:=G.sym (a:=s) (b:=r) ⟨rs,S,z⟩;rw[T]at e;cases e;exact sr m
 have l1:p<L.length:=lp;have l2:q<(L.set p (jS rp q)).length:=by simpa using lq
 have l3:r<((L.set p (jS rp q)).set q (jS rq p)).length:=by simpa using lr
 have l4:s<(((L.set p (jS rp q)).set q (jS rq p)).set r (jH rr p s)).length:=by simpa using ls
 have len:(zL L p q r s rp rq rr rs).length=L.length:=by simp[zL]
 have look:∀(x:Nat)(row:List Nat),(zL L p q r s rp rq rr rs)[x]?=some row->(x=s/\row=jH rs q r)\/(x=r/\row=jH rr p s)\/(x=q/\row=jS rq p)\/(x=p/\row=jS rp q)\/(x≠p/\x≠q/\x≠r/\x≠s/\L[x]?=some row):=by
  intro x row h;unfold zL at h;rcases zR l4 h with z | ⟨n4,h⟩
  ·exact .inl z
  ·rcases zR l3 h with z | ⟨n3,h⟩
   ·exact .inr (.inl z)
   ·rcases zR l2 h with z | ⟨n2,h⟩
    ·exact .inr (.inr (.inl z))
    ·rcases zR l1 h with z | ⟨n1,h⟩
     ·exact .inr (.inr (.inr (.inl z)))
     ·exact .inr (.inr (.inr (.inr ⟨n1,n2,n3,n4,h⟩)))
 have M:∀ x a b,R (zL L p q r s rp rq rr rs) x a b↔(x=s/\((a=q/\b=r)\/(a=r/\b=p)\/(a≠q/\R L s a b)))\/(x=r/\((a=p/\b=s)\/(a=s/\b=q)\/(a≠p/\R L r a b)))\/(x=q/\((a≠p/\b≠p/\R L q a b)\/(a=r/\b=s)))\/(x=p/\((a≠q/\b≠q/\R L p a b)\/(a=s/\b=r)))\/(x≠p/\x≠q/\x≠r/\x≠s/\R L x a b):=by
  intro x a b;have g1:∀ a b,Nx rp a b↔R L p a b:=λ a b=>⟨λ n=>⟨rp,hp,n⟩,un hp⟩;have g2:∀ a b,Nx rq a b↔R L q a b:=λ a b=>⟨λ n=>⟨rq,U,n⟩,un U⟩;have g3:∀ a b,Nx rr a b↔R L r a b:=λ a b=>⟨λ n=>⟨rr,T,n⟩,un T⟩;have g4:∀ a b,Nx rs a b↔R L s a b:=λ a b=>⟨λ n=>⟨rs,S,n⟩,un S⟩;have e1:R L p a q↔a=s:=⟨λ z=>kLZ G z H,λ z=>z ▸ H⟩;have e2:R L p q b↔b=r:=⟨λ z=>xS G z D,λ z=>z ▸ D⟩;have e3:R L q a p↔a=r:=⟨λ z=>kLZ G z C,λ z=>z ▸ C⟩;have e4:R L q p b↔b=s:=⟨λ z=>xS G z J,λ z=>z ▸ J⟩;have e5:R L r p b↔b=q:=⟨λ z=>xS G z u,λ z=>z ▸ u⟩;have e6:R L s q b↔b=p:=⟨λ z=>xS G z v,λ z=>z ▸ v⟩;unfold zL;rw[gP l4,gP l3,gP l2,gP l1,kGK mp np,kGK mq nq,bC Z nr sr,bC X ns N];simp only[g1,g2,g3,g4,e1,e2,e3,e4,e5,e6];have c1:(a≠q/\b≠q/\a=s/\b=r)↔(a=s/\b=r):=⟨λ z=>z.2.2,λ z=>⟨λ h=>A (h.symm.trans z.1),λ h=>l (z.2.symm.trans h),z⟩⟩;have c2:(a≠p/\b≠p/\a=r/\b=s)↔(a=r/\b=s):=⟨λ z=>z.2.2,λ z=>⟨λ h=>y (h.symm.trans z.1),λ h=>o (z.2.symm.trans h),z⟩⟩;rw[c1,c2];clear look g1 g2 g3 g4 e1 e2 e3 e4 e5 e6 c1 c2 C u D H v J un np nq nr ns mp mq Z X N l1 l2 l3 l4 len hp U T S f g sr lq lr lp ls;by_cases Q:x=s
  ·subst Q
   have n1:¬ x=r:=λ z=>I z.symm;have n2:¬ x=q:=λ z=>A z.symm;have n3:¬ x=p:=o;simp only[n1,n2,n3,ne_eq,not_false_eq_true,false_and,true_and,and_false,or_false,false_or,not_true_eq_false]
  ·by_cases Y:x=r
   ·subst Y
    have n1:¬ x=q:=l;have n2:¬ x=p:=λ z=>y z.symm;simp only[Q,n1,n2,ne_eq,not_false_eq_true,false_and,true_and,and_false,or_false,false_or,not_true_eq_false]
   ·by_cases x2:x=q
    ·subst x2
     have n2:¬ x=p:=λ z=>B z.symm;simp only[Q,Y,n2,ne_eq,not_false_eq_true,false_and,true_and,and_false,or_false,false_or,not_true_eq_false]
    ·by_cases x1:x=p
     ·subst x1
      simp only[Q,Y,x2,ne_eq,not_false_eq_true,false_and,true_and,and_false,or_false,false_or,not_true_eq_false]
     ·simp only[Q,Y,x2,x1,ne_eq,not_false_eq_true,false_and,true_and,and_false,or_false,false_or,not_true_eq_false]
 have O:∀ x a b,R L x a b->¬ (x=p/\a=q)->¬ (x=p/\b=q)->¬ (x=q/\a=p)->¬ (x=q/\b=p)->¬ (x=r/\a=p)->¬ (x=s/\a=q)->R (zL L p q r s rp rq rr rs) x a b:=by
  intro x a b h h1 h2 h3 h4 h5 h6;rw[M];clear C u D H v J un np nq nr ns mp mq Z X N l1 l2 l3 l4 len hp U T S f g sr lq lr lp ls I l B y o A look M G;by_cases Q:x=s
  ·subst Q;exact .inl ⟨rfl,.inr (.inr ⟨λ z=>h6 ⟨rfl,z⟩,h⟩)⟩
  ·by_cases Y:x=r
   ·subst Y;exact .inr (.inl ⟨rfl,.inr (.inr ⟨λ z=>h5 ⟨rfl,z⟩,h⟩)⟩)
   ·by_cases x2:x=q
    ·subst x2;exact .inr (.inr (.inl ⟨rfl,.inl ⟨λ z=>h3 ⟨rfl,z⟩,λ z=>h4 ⟨rfl,z⟩,h⟩⟩))
    ·by_cases x1:x=p
     ·subst x1;exact .inr (.inr (.inr (.inl ⟨rfl,.inl ⟨λ z=>h1 ⟨rfl,z⟩,λ z=>h2 ⟨rfl,z⟩,h⟩⟩)))
     ·exact .inr (.inr (.inr (.inr ⟨x1,x2,Y,Q,h⟩)))
 have c:∀ x a b,R L x a b->¬ (x=p/\a=q)->¬ (x=p/\b=q)->¬ (x=q/\a=p)->¬ (x=q/\b=p)->¬ (x=r/\a=p)->¬ (x=s/\a=q)->R (zL L p q r s rp rq rr rs) a b x:=by
  intro x a b h h1 h2 h3 h4 h5 h6;have i:=G.tri _ _ _ h;clear C H un np nq nr ns mp mq Z X N l1 l2 l3 l4 len hp U T S f g sr lq lr lp ls I l B y o A look M;refine O _ _ _ i (λ z=>?_) (λ z=>?_) (λ z=>?_) (λ z=>?_) (λ z=>?_) (λ z=>?_)
  ·obtain⟨rfl,rfl⟩:=z
   exact h5 ⟨xS G i D,rfl⟩
  ·obtain⟨rfl,rfl⟩:=z
   exact h3 ⟨rfl,rfl⟩
  ·obtain⟨rfl,rfl⟩:=z
   exact h6 ⟨xS G i J,rfl⟩
  ·obtain⟨rfl,rfl⟩:=z
   exact h1 ⟨rfl,rfl⟩
  ·obtain⟨rfl,rfl⟩:=z
   exact h4 ⟨xS G i u,rfl⟩
  ·obtain⟨rfl,rfl⟩:=z
   exact h2 ⟨xS G i v,rfl⟩
 have d:∀ x a b,((x=s/\((a=q/\b=r)\/(a=r/\b=p)))\/(x=r/\((a=p/\b=s)\/(a=s/\b=q)))\/(x=q/\(a=r/\b=s))\/(x=p/\(a=s/\b=r)))->R (zL L p q r s rp rq rr rs) x a b:=by
  intro x a b h;rw[M];rcases h with⟨h,i | i⟩ | ⟨h,i | i⟩ | ⟨h,i⟩ | ⟨h,i⟩
  ·exact .inl ⟨h,.inl i⟩
  ·exact .inl ⟨h,.inr (.inl i)⟩
  ·exact .inr (.inl ⟨h,.inl i⟩)
  ·exact .inr (.inl ⟨h,.inr (.inl i)⟩)
  ·exact .inr (.inr (.inl ⟨h,.inr i⟩))
  ·exact .inr (.inr (.inr (.inl ⟨h,.inr i⟩)))
 have a0:∀ a b,E L a b->¬ (a=p/\b=q)->¬ (a=q/\b=p)->E (zL L p q r s rp rq rr rs) a b:=by
  intro a b h h1 h2;unfold zL;rw[mB l4,mB l3,mB l2,mB l1,wP mp np,wP mq nq,xM Z nr,xM X ns];obtain⟨row,e,m⟩:=h;clear C u D H v J un np nq nr ns mp mq Z X N l1 l2 l3 l4 len f g sr lq lr lp ls I l B y o A look M O c d G;by_cases Q:a=s
  ·subst Q;rw[S]at e;cases e;exact .inl ⟨rfl,.inl m⟩
  ·by_cases Y:a=r
   ·subst Y;rw[T]at e;cases e;exact .inr ⟨Q,.inl ⟨rfl,.inl m⟩⟩
   ·by_cases x2:a=q
    ·subst x2;rw[U]at e;cases e;exact .inr ⟨Q,.inr ⟨Y,.inl ⟨rfl,m,λ z=>h2 ⟨rfl,z⟩⟩⟩⟩
    ·by_cases x1:a=p
     ·subst x1;rw[hp]at e;cases e;exact .inr ⟨Q,.inr ⟨Y,.inr ⟨x2,.inl ⟨rfl,m,λ z=>h1 ⟨rfl,z⟩⟩⟩⟩⟩
     ·exact .inr ⟨Q,.inr ⟨Y,.inr ⟨x2,.inr ⟨x1,row,e,m⟩⟩⟩⟩
 have path:∀ a b,E L a b->Reach (zL L p q r s rp rq rr rs) a b:=by
  intro a b h;clear C u D H v J un np nq nr ns mp mq Z X N l1 l2 l3 l4 len hp U T S f g sr lq lr lp ls I l B y o A look M O c G;by_cases h1:a=p/\b=q
  ·obtain⟨rfl,rfl⟩:=h1
   refine Reach.more (b:=r) (Reach.more (Reach.here _) ?_) ?_
   ·exact(yP (d a s r (.inr (.inr (.inr ⟨rfl,rfl,rfl⟩))))).2
   ·exact(yP (d r s b (.inr (.inl ⟨rfl,.inr ⟨rfl,rfl⟩⟩)))).2
  ·by_cases h2:a=q/\b=p
   ·obtain⟨rfl,rfl⟩:=h2
    refine Reach.more (b:=r) (Reach.more (Reach.here _) ?_) ?_
    ·exact(yP (d a r s (.inr (.inr (.inl ⟨rfl,rfl,rfl⟩))))).1
    ·exact(yP (d r b s (.inr (.inl ⟨rfl,.inl ⟨rfl,rfl⟩⟩)))).1
   ·exact .more (.here _) (a0 a b h h1 h2)
 refine⟨by rw[len];exact G.three,?_,?_,?_,?_,?_,?_⟩
 ·intro x row h
  rcases look x row h with⟨_,rfl⟩ | ⟨_,rfl⟩ | ⟨_,rfl⟩ | ⟨_,rfl⟩ | ⟨_,_,_,_,h⟩
  ·intro z;have:=xN (w:=r) X;rw[z]at this;simp at this
  ·intro z;have:=xN (w:=s) Z;rw[z]at this;simp at this
  ·intro z
   have:s∈jS rq p:=(wP mq nq).mpr ⟨(kT (un U J)).2,o⟩;rw[z]at this;cases this
  ·intro z
   have:r∈jS rp q:=(wP mp np).mpr ⟨(kT (un hp D)).2,l⟩;rw[z]at this;cases this
  ·exact G.ne _ _ h
 ·intro x row h
  rcases look x row h with⟨_,rfl⟩ | ⟨_,rfl⟩ | ⟨_,rfl⟩ | ⟨_,rfl⟩ | ⟨_,_,_,_,h⟩
  ·exact bI X ns N
  ·exact bI Z nr sr
  ·exact kGY mq nq
  ·exact kGY mp np
  ·exact G.nd _ _ h
 ·intro x row a h m
  rw[len]
  replace h:=look x row h
  clear C u D H v J un N l1 l2 l3 l4 len f g sr lq lp l B y o A look M O c d a0 path;rcases h with⟨rfl,rfl⟩ | ⟨rfl,rfl⟩ | ⟨rfl,rfl⟩ | ⟨rfl,rfl⟩ | ⟨_,_,_,_,h⟩
  ·rcases(xM X ns).mp m with z | z
   ·exact G.rng _ _ _ S z
   ·subst z
    exact⟨lr,I⟩
  ·rcases(xM Z nr).mp m with z | z
   ·exact G.rng _ _ _ T z
   ·subst z
    exact⟨ls,λ h=>I h.symm⟩
  ·exact G.rng _ _ _ U ((wP mq nq).mp m).1
  ·exact G.rng _ _ _ hp ((wP mp np).mp m).1
  ·exact G.rng _ _ _ h m
 ·intro x a b h
  rw[M]at h;clear C u D H v J un np nq nr ns mp mq Z X N l1 l2 l3 l4 len hp U T S f g sr lq lr lp ls look M O a0 path G;rcases h with⟨rfl,⟨rfl,rfl⟩ | ⟨rfl,rfl⟩ | ⟨h,i⟩⟩ | ⟨rfl,⟨rfl,rfl⟩ | ⟨rfl,rfl⟩ | ⟨h,i⟩⟩ | ⟨rfl,⟨h,k,i⟩ | ⟨rfl,rfl⟩⟩ | ⟨rfl,⟨h,k,i⟩ | ⟨rfl,rfl⟩⟩ | ⟨h1,h2,h3,h4,i⟩
  ·exact d _ _ _ (.inr (.inr (.inl ⟨rfl,rfl,rfl⟩)))
  ·exact d _ _ _ (.inr (.inl ⟨rfl,.inl ⟨rfl,rfl⟩⟩))
  ·exact c _ _ _ i (λ z=>o z.1) (λ z=>o z.1) (λ z=>A z.1.symm) (λ z=>A z.1.symm) (λ z=>I z.1.symm) λ z=>h z.2
  ·exact d _ _ _ (.inr (.inr (.inr ⟨rfl,rfl,rfl⟩)))
  ·exact d _ _ _ (.inl ⟨rfl,.inl ⟨rfl,rfl⟩⟩)
  ·exact c _ _ _ i (λ z=>y z.1.symm) (λ z=>y z.1.symm) (λ z=>l z.1) (λ z=>l z.1) (λ z=>h z.2) λ z=>I z.1
  ·exact c _ _ _ i (λ z=>B z.1.symm) (λ z=>B z.1.symm) (λ z=>h z.2) (λ z=>k z.2) (λ z=>l z.1.symm) λ z=>A z.1
  ·exact d _ _ _ (.inr (.inl ⟨rfl,.inr ⟨rfl,rfl⟩⟩))
  ·exact c _ _ _ i (λ z=>h z.2) (λ z=>k z.2) (λ z=>B z.1) (λ z=>B z.1) (λ z=>y z.1) λ z=>o z.1.symm
  ·exact d _ _ _ (.inl ⟨rfl,.inr ⟨rfl,rfl⟩⟩)
  ·exact c _ _ _ i (λ z=>h1 z.1) (λ z=>h1 z.1) (λ z=>h2 z.1) (λ z=>h2 z.1) (λ z=>h3 z.1) λ z=>h4 z.1
 ·intro x hx
  rw[len]at hx;exact(G.con x hx).by path
 ·rw[len]
  unfold zL;have t:=G.tot;have s1:=yU L p rp (jS rp q) hp;have a3:(L.set p (jS rp q))[q]?=some rq:=by rw[eW B];exact U
  have s2:=yU _ q rq (jS rq p) a3;have a1:((L.set p (jS rp q)).set q (jS rq p))[r]?=some rr:=by rw[eW (λ z=>l z.symm),eW y];exact T
  have s3:=yU _ r rr (jH rr p s) a1;have a2:(((L.set p (jS rp q)).set q (jS rq p)).set r (jH rr p s))[s]?=some rs:=by rw[eW I,eW A,eW (λ z=>o z.symm)];exact S
  have s4:=yU _ s rs (jH rs q r) a2;have k1:=kBW mp;have k2:=kBW mq;rw[xN Z]at s3;rw[xN X]at s4;clear I l B y o A l1 l2 l3 l4 lp lq lr ls;omega
def kEJ:Good [[1,2],[2,0],[0,1]]:=by
 have look:∀(x:Nat)(row:List Nat),([[1,2],[2,0],[0,1]]:Rows)[x]?=some row->(x=0/\row=[1,2])\/(x=1/\row=[2,0])\/(x=2/\row=[0,1]):=by
  intro x row h
  match x,h with
  | 0,h=>exact .inl ⟨rfl,(cc h).symm⟩
  | 1,h=>exact .inr (.inl ⟨rfl,(cc h).symm⟩)
  | 2,h=>exact .inr (.inr ⟨rfl,(cc h).symm⟩)
  | n+3,h=>simp at h
 have c:∀ x y a b:Nat,Nx [x,y] a b↔(a=x/\b=y)\/(a=y/\b=x):=by
  intro x y a b;show((a=x/\b=y)\/(a=y/\b=x)\/False)↔_;simp
 refine⟨by decide,?_,?_,?_,?_,?_,by decide⟩
 ·intro x row h
  rcases look x row h with⟨_,rfl⟩ | ⟨_,rfl⟩ | ⟨_,rfl⟩<;>simp
 ·intro x row h
  rcases look x row h with⟨_,rfl⟩ | ⟨_,rfl⟩ | ⟨_,rfl⟩<;>decide
 ·intro x row a h m
  rcases look x row h with⟨rfl,rfl⟩ | ⟨rfl,rfl⟩ | ⟨rfl,rfl⟩<;>simp at m ⊢<;>omega
 ·rintro x a b ⟨row,h,n⟩
  rcases look x row h with⟨rfl,rfl⟩ | ⟨rfl,rfl⟩ | ⟨rfl,rfl⟩<;>rw[c]at n<;>rcases n with⟨rfl,rfl⟩ | ⟨rfl,rfl⟩
  ·exact⟨[2,0],rfl,(c _ _ _ _).mpr (.inl ⟨rfl,rfl⟩)⟩
  ·exact⟨[0,1],rfl,(c _ _ _ _).mpr (.inr ⟨rfl,rfl⟩)⟩
  ·exact⟨[0,1],rfl,(c _ _ _ _).mpr (.inl ⟨rfl,rfl⟩)⟩
  ·exact⟨[1,2],rfl,(c _ _ _ _).mpr (.inr ⟨rfl,rfl⟩)⟩
  ·exact⟨[1,2],rfl,(c _ _ _ _).mpr (.inl ⟨rfl,rfl⟩)⟩
  ·exact⟨[2,0],rfl,(c _ _ _ _).mpr (.inr ⟨rfl,rfl⟩)⟩
 ·intro x d
  match x,d with
  | 0,_=>exact .here _
  | 1,_=>exact .more (.here _) ⟨[1,2],rfl,by decide⟩
  | 2,_=>exact .more (.here _) ⟨[1,2],rfl,by decide⟩
end
def xI(row:List Nat)(p:Nat):Option Nat:=if row.idxOf p=0 then row.getLast? else row[row.idxOf p-1]?
def yV{row:List Nat}{p v:Nat}(nd:row.Nodup)(hp:p∈row)(h:xI row p=some v):Nx row v p:=by
 obtain⟨A,B,rfl,hA,hB⟩:=jV hp nd;unfold xI at h;rw[cL hA]at h;by_cases h0:A.length=0
 ·have:A=[]:=iq.mp h0
  subst this;rw[if_pos h0,ub]at h;show Adj (p::B++[p]) v p
  have e:p::B=(p::B).dropLast++[v]:=by
   rw[fk (yw p B)]at h;rw[<-cc h];exact(fh (yw p B)).symm
  rw[e,dr];exact(qT _ v [p] v p).mpr (.inr (.inl ⟨rfl,rfl⟩))
 ·rw[if_neg h0]at h
  rw[cm (by omega)]at h;have a:A≠[]:=λ z=>h0 (by rw[z];rfl)
  have e:A=A.dropLast++[v]:=by
   have z:A.getLast?=some v:=by rw[iU];exact h
   rw[fk a]at z;rw[<-cc z];exact(fh a).symm
  rw[e,dr];rw[jX];show Nx (v::(p::B)++A.dropLast) v p;exact .inl ⟨rfl,rfl⟩
def wS{row:List Nat}{p:Nat}(hp:p∈row):∃ v,xI row p=some v:=by
 have b:=fe hp;unfold xI
 split
 ·have a:row≠[]:=λ z=>by rw[z]at hp;cases hp
  exact⟨_,fk a⟩
 ·exact⟨_,aa (show row.idxOf p-1<row.length by omega)⟩
end Tri
namespace Rnd
open Cyc Tri
section
variable {α:Type} [DecidableEq α]
def it(f:α->α):Nat->α->α
 | 0,x=>x
 | n+1,x=>f (it f n x)
def uC(f:α->α)(m n:Nat)(x:α):it f (m+n) x=it f m (it f n x):=by
 induction m with
 | zero=>rw[Ed];rfl
 | succ m ih=>rw[Nat.succ_add];show f _=f _;rw[ih]
structure Perm(f:α->α)(S:List α):Prop where
 to:∀ x,x∈S->f x∈S
 one:∀ x y,x∈S->y∈S->f x=f y->x=y
theorem Perm.it{f:α->α}{S:List α}(h:Perm f S)(n:Nat){x:α}(a:x∈S):it f n x∈S:=by
 induction n with
 | zero=>exact a
 | succ n ih=>exact h.to _ ih
def Perm.back{f:α->α}{S:List α}(h:Perm f S)(n:Nat){x y:α}(a:x∈S)(b:y∈S)(e:Rnd.it f n x=Rnd.it f n y):x=y:=by
 induction n with
 | zero=>exact e
 | succ n ih=>exact ih (h.one _ _ (h.it n a) (h.it n b) e)
theorem cG{f:Nat->α}:∀(n:Nat),(∀ i j,i<j->j<n->f i≠f j)->((cz n).map f).Nodup
 | 0,_=>by simp
 | n+1,h=>by
  rw[Bo,eN,bj];refine⟨cG n λ i j a b=>h i j a (by omega),by simp,λ a c b g=>?_⟩;obtain⟨i,d,rfl⟩:=iK.mp c;have:b=f n:=by simpa using g
  subst this;exact h i n (iB.mp d) (by omega)
def Perm.comes{f:α->α}{S:List α}(h:Perm f S){x:α}(d:x∈S):∃ k,0<k/\k<=S.length/\Rnd.it f k x=x/\∀ j,0<j->j<k->Rnd.it f j x≠x:=by
 have some:∃ k,0<k/\k<=S.length/\Rnd.it f k x=x:=by
  refine iH λ g=>?_
  have nd:((cz (S.length+1)).map λ i=>Rnd.it f i x).Nodup:=cG _ λ i j v B e=>by
   refine g ⟨j-i,by omega,by omega,?_⟩
   have u:Rnd.it f i (Rnd.it f (j-i) x)=Rnd.it f i x:=by
    rw[<-uC,show i+(j-i)=j by omega];exact e.symm
   exact h.back i (h.it _ d) d u
  have le:=eI nd (l₂:=S) λ y p=>by
   obtain⟨i,_,rfl⟩:=iK.mp p;exact h.it i d
  rw[aj,eY]at le;omega
 obtain⟨r,p0,s,l⟩:=some
 have kGN:∀ n,(∃ k,0<k/\k<=n/\Rnd.it f k x=x)->∃ k,0<k/\k<=n/\Rnd.it f k x=x/\∀ j,0<j->j<k->Rnd.it f j x≠x:=λ n=>by
  induction n with
  | zero=>rintro⟨k,a,b,_⟩;omega
  | succ n ih =>
   intro o;by_cases c:∃ k,0<k/\k<=n/\Rnd.it f k x=x
   ·obtain⟨k,a,b,e,m⟩:=ih c
    exact⟨k,a,by omega,e,m⟩
   ·obtain⟨k,a,b,e⟩:=o
    refine⟨k,a,b,e,λ j q C A=>c ⟨j,q,by omega,A⟩⟩
 exact kGN S.length ⟨r,p0,s,l⟩
def Perm.round_nodup{f:α->α}{S:List α}(h:Perm f S){x:α}(a:x∈S){k:Nat}(m:∀ j,0<j->j<k->Rnd.it f j x≠x):((cz k).map λ i=>Rnd.it f i x).Nodup:=cG _ λ i j b d e=>by
 refine m (j-i) (by omega) (by omega) ?_
 have c:Rnd.it f i (Rnd.it f (j-i) x)=Rnd.it f i x:=by
  rw[<-uC,show i+(j-i)=j by omega];exact e.symm
 exact h.back i (h.it _ a) a c
end
def kO(W:Rows):List (Nat×Nat):=(cz W.length).flatMap λ p=>(W.getD p []).map λ q=>(p,q)
def mem_steps{W:Rows}{p q:Nat}:(p,q)∈kO W↔E W p q:=by
 unfold kO E;rw[Az];constructor
 ·rintro⟨c,hp,h⟩
  obtain⟨d,b,e⟩:=iK.mp h;cases e
  have a:=iB.mp hp;refine⟨W[p],aa a,?_⟩;simpa[ai,a] using b
 ·rintro⟨row,e,h⟩
  have a:=(au.mp e).1;refine⟨p,iB.mpr a,iK.mpr ⟨q,?_,rfl⟩⟩;rw[ai,e];exact h
def nxt(W:Rows)(s:Nat×Nat):Nat×Nat:=(s.2,(xI (W.getD s.2 []) s.1).getD 0)
def gZ{W:Rows}(nd:∀(p:Nat)(row:List Nat),W[p]?=some row->row.Nodup)(sym:∀ a b,E W a b->E W b a):Perm (nxt W) (kO W):=by
 have look:∀ p q,(p,q)∈kO W->∃ row v,W[q]?=some row/\p∈row/\xI row p=some v/\nxt W (p,q)=(q,v)/\Nx row v p:=λ p q h=>by
  obtain⟨row,e,m⟩:=sym p q (mem_steps.mp h);obtain⟨v,g⟩:=wS m;refine⟨row,v,e,m,g,?_,yV (nd q row e) m g⟩;unfold nxt;rw[ai,e];show(q,(xI row p).getD 0)=(q,v);rw[g]
  rfl
 refine⟨λ s h=>?_,λ s t C G e=>?_⟩
 ·obtain⟨p,q⟩:=s
  obtain⟨row,v,c,B,o,f,d⟩:=look p q h;rw[f];exact mem_steps.mpr ⟨row,c,(kT d).1⟩
 ·obtain⟨p,q⟩:=s
  obtain⟨x,n⟩:=t;obtain⟨row,v,c,B,o,f,d⟩:=look p q C;obtain⟨l,A,i,H,I,y,u⟩:=look x n G;rw[f,y]at e;have r:q=n:=congrArg Bp e;have D:v=A:=congrArg Bq e;subst r D;rw[c]at i;cases i
  rw[jN (nd q row c) d u]
end Rnd
namespace Tri
section
variable {R R':Nat->Nat->Nat->Prop} {N N' K:Nat->Nat->Prop} {inP:Nat->Prop} {f l w:Nat}
end
open Cyc
section
variable {A M C:List Nat} {f l w:Nat}
def nxP(M:List Nat)(f l a b:Nat):Nx (f::M++[l]) a b↔Adj (f::M++[l]) a b\/(a=l/\b=f):=by
 show Adj (f::M++[l]++[f]) a b↔_;rw[show f::M++[l]++[f]=(f::M)++l::[f] by simp,qT];simp only[Adj,or_false]
def nxO(a b:Nat):Nx (A++(f::M++[l])++C) a b↔Adj (f::M++[l]) a b\/Adj (l::(C++A)++[f]) a b:=by
 rw[show A++(f::M++[l])++C=A++(f::M++l::C) by simp,jX];show Adj (f::M++l::C++A++[f]) a b↔_;rw[show f::M++l::C++A++[f]=(f::M)++l::(C++A++[f]) by simp,qT];rw[show l::(C++A)++[f]=l::(C++A++[f]) by simp]
def kWF(a b:Nat):Nx (A++[f,w,l]++C) a b↔(a=f/\b=w)\/(a=w/\b=l)\/Adj (l::(C++A)++[f]) a b:=by
 rw[show A++[f,w,l]++C=A++(f::w::l::C) by simp,jX];show Adj (f::w::l::C++A++[f]) a b↔_;rw[show f::w::l::C++A++[f]=f::w::l::(C++A++[f]) by simp,zU,zU];rw[show l::(C++A)++[f]=l::(C++A++[f]) by simp]
structure Str(A M C:List Nat)(f l w:Nat):Prop where
 nd:(A++(f::M++[l])++C).Nodup
 fr:w∉A++(f::M++[l])++C
def Str.facts(h:Str A M C f l w):f≠l/\f∉M/\l∉M/\(∀ x,x∈C++A->x≠f/\x≠l/\x∉M)/\f≠w/\l≠w/\w∉M/\w∉C++A:=by
 have q:=(bj.mp h.nd).1;have v:=(bj.mp h.nd).2.2;have p:=(bj.mp q).2.1;have D:=(bj.mp q).2.2;have B:=(bj.mp p).1;have n:=(bj.mp p).2.2;have g:=h.fr;have s:f∈f::M++[l]:=cj _ eV;have o:l∈f::M++[l]:=cw _ (de.mpr rfl);have u:∀{x},x∈M->x∈f::M++[l]:=λ z=>cj _ (dq _ z);have m:∀{x},x∈f::M++[l]->x∈A++(f::M++[l]):=λ z=>cw _ z;have d:∀{x},x∈f::M++[l]->x≠w:=λ z e=>g (e ▸ cj _ (m z));have i:∀{x y},x∈C++A->y∈f::M++[l]->x≠y:=λ b r e=>(bu.mp b).elim (λ c=>v _ (m r) _ c e.symm) λ a=>D _ a _ r e
 exact⟨n _ eV _ (de.mpr rfl),(eK.mp B).1,λ z=>n _ (dq _ z) _ (de.mpr rfl) rfl,
  λ x b=>⟨i b s,i b o,λ z=>i b (u z) rfl⟩,d s,d o,λ z=>d (u z) rfl,
  λ z=>g ((bu.mp z).elim (λ c=>cw _ c) λ a=>cj _ (cj _ a))⟩
theorem Str.j(h:Str A M C f l w){a b:Nat}(j:Adj (l::(C++A)++[f]) a b):(a=l\/a∈C++A)/\(b=f\/b∈C++A):=by
 obtain⟨h1,p,o,c,q,g,n,d⟩:=h.facts;have m:=jI j;have i:=jP (R:=l::(C++A)) (v:=f) (by simp only[cy,not_or];exact⟨h1,λ z=>(c _ z).1 rfl⟩) j;simp only[iE,cy,bu,de,Br,gj,or_false]at m ⊢
 grind
def Str.kk(h:Str A M C f l w){a b:Nat}(k:Adj (f::M++[l]) a b):a∈f::M++[l]/\b∈f::M++[l]/\a≠l/\b≠f:=by
 obtain⟨h1,p,d,o,q,i,n,g⟩:=h.facts;have m:=jI k;have c:=jP (R:=f::M) (v:=l) (by simp only[cy,not_or];exact⟨λ e=>h1 e.symm,d⟩) k;refine⟨m.1,yc m.2,c,λ e=>?_⟩;have:=m.2;simp only[iE,Br,bu,de]at this
 grind
end
section
variable {L L2:Rows} {A M C:List Nat} {f l:Nat}
end
section
variable {L:Rows} {A M C:List Nat} {f l u:Nat}
end
open Cyc Rnd
section
variable {W:Rows}
def rV{row:List Nat}{p v:Nat}(nd:row.Nodup)(h:Nx row v p):xI row p=some v:=by
 obtain⟨u,a⟩:=wS (kT h).2;rw[a,yF nd h (yV nd (kT h).2 a)]
def sI(nd:∀(p:Nat)(row:List Nat),W[p]?=some row->row.Nodup){p q v:Nat}(h:R W q v p):nxt W (p,q)=(q,v):=by
 obtain⟨row,e,n⟩:=h;unfold nxt;rw[ai,e];show(q,(xI row p).getD 0)=(q,v);rw[rV (nd q row e) n]
 rfl
def cS(nd:∀(p:Nat)(row:List Nat),W[p]?=some row->row.Nodup):(kO W).Nodup:=by
 unfold kO;rw[Bs,DU];refine⟨λ p hp=>?_,?_⟩
 ·have b:=iB.mp hp
  have e:W[p]?=some (W.getD p []):=by rw[ai,aa b];rfl
  have n:=nd p _ e;refine Hd _ (λ x y (z:x≠y) e=>z (congrArg Bq e)) n
 ·refine sj.imp λ{p q} a=>?_
  intro x c y d e;obtain⟨_,_,rfl⟩:=iK.mp c;obtain⟨_,_,rfl⟩:=iK.mp d;exact a (congrArg Bp e)
def yE:∀(W:Rows) ,(kO W).length=(W.map iV).sum:=by
 intro W;unfold kO;rw[Dm]
 congr 1
 refine Cg (by simp) λ i h1 a=>?_;simp at h1 a;simp[ai,h1]
end
theorem kHN(f:Nat->Nat):∀(l:List Nat)(a b:Nat),Adj (l.map f) a b↔∃ x y,Adj l x y/\a=f x/\b=f y
 | [],a,b=>⟨λ h=>h.elim,λ⟨_,_,h,_⟩=>h.elim⟩
 | [z],a,b=>⟨λ h=>h.elim,λ⟨_,_,h,_⟩=>h.elim⟩
 | z::z'::r,a,b=>by
  have c:=kHN f (z'::r) a b;constructor
  ·rintro(⟨rfl,rfl⟩ | h)
   ·exact⟨z,z',.inl ⟨rfl,rfl⟩,rfl,rfl⟩
   ·obtain⟨x,y,h,e⟩:=c.mp h
    exact⟨x,y,.inr h,e⟩
  ·rintro⟨x,y,⟨rfl,rfl⟩ | h,rfl,rfl⟩
   ·exact .inl ⟨rfl,rfl⟩
   ·exact .inr (c.mpr ⟨x,y,h,rfl,rfl⟩)
def kMR(f:Nat->Nat)(l:List Nat)(a b:Nat):Nx (l.map f) a b↔∃ x y,Nx l x y/\a=f x/\b=f y:=by
 unfold Nx;rw[show l.map f++(l.map f).head?.toList=(l++l.head?.toList).map f by cases l<;>simp];exact kHN f _ a b
def Reach.symm{W:Rows}(sym:∀ a b,E W a b->E W b a){a b:Nat}(h:Reach W a b):Reach W b a:=by
 induction h with
 | here=>exact .here _
 | more _ e ih=>exact(Reach.more (.here _) (sym _ _ e)).trans ih
structure Ren(L W:Rows)(ns:List Nat):Prop where
 perm:ns.Perm (cz L.length)
 len:W.length=L.length
 at':∀(p:Nat)(row:List Nat),L[p]?=some row->∃ n A B,ns[p]?=some n/\row.map (λ q=>ns.getD q 0)=A++B/\W[n]?=some (B++A)
section
variable {L W:Rows} {ns:List Nat}
def Ren.nlen(h:Ren L W ns):ns.length=L.length:=by rw[h.perm.length_eq,eY]
def Ren.get(h:Ren L W ns){p:Nat}(hp:p<L.length):ns[p]?=some (ns.getD p 0):=by
 rw[ai,aa (by rw[h.nlen];exact hp)]
 rfl
def Ren.lt(h:Ren L W ns){p:Nat}(hp:p<L.length):ns.getD p 0<L.length:=iB.mp (h.perm.mem_iff.mp (eA (h.get hp)))
def Ren.inj(h:Ren L W ns){p q:Nat}(hp:p<L.length)(a:q<L.length)(e:ns.getD p 0=ns.getD q 0):p=q:=by
 have nd:ns.Nodup:=h.perm.nodup_iff.mpr sj;have h1:=h.get hp;have b:=h.get a;rw[e,<-b]at h1;exact(Ad (by rw[h.nlen];exact hp) nd).mp h1
def Ren.sur(h:Ren L W ns){x:Nat}(a:x<L.length):∃ p,p<L.length/\ns.getD p 0=x:=by
 obtain⟨p,hp,e⟩:=wy (h.perm.mem_iff.mpr (iB.mpr a));rw[h.nlen]at hp;refine⟨p,hp,?_⟩;rw[ai,aa (by rw[h.nlen];exact hp),e]
 rfl
theorem Ren.row(h:Ren L W ns){x:Nat}{c:List Nat}(e:W[x]?=some c):∃ p row,p<L.length/\L[p]?=some row/\x=ns.getD p 0/\c.Perm (row.map λ q=>ns.getD q 0)/\∀ a b,Nx c a b↔Nx (row.map λ q=>ns.getD q 0) a b:=by
 have i:x<L.length:=by rw[<-h.len];exact(au.mp e).1
 obtain⟨p,hp,rfl⟩:=h.sur i;obtain⟨n,A,B,f,g,d⟩:=h.at' p _ (aa hp);rw[h.get hp]at f;cases f
 rw[e]at d;cases d
 refine⟨p,_,hp,aa hp,rfl,?_,λ a b=>?_⟩
 ·rw[g];exact ju
 ·rw[g];exact jX B A a b
def Ren.to(h:Ren L W ns){p:Nat}{row:List Nat}(e:L[p]?=some row):∃ row',W[ns.getD p 0]?=some row'/\row'.Perm (row.map λ q=>ns.getD q 0)/\∀ a b,Nx row' a b↔Nx (row.map λ q=>ns.getD q 0) a b:=by
 have hp:=(au.mp e).1;obtain⟨n,A,B,c,d,f⟩:=h.at' p _ e;rw[h.get hp]at c;cases c
 exact⟨_,f,by rw[d];exact ju,λ a b=>by rw[d];exact jX B A a b⟩
def Ren.r_to(h:Ren L W ns){q a b:Nat}(r:R L q a b):R W (ns.getD q 0) (ns.getD a 0) (ns.getD b 0):=by
 obtain⟨row,e,n⟩:=r;obtain⟨c,f,_,d⟩:=h.to e;exact⟨c,f,(d _ _).mpr ((kMR _ _ _ _).mpr ⟨a,b,n,rfl,rfl⟩)⟩
def Ren.r_of(h:Ren L W ns){q a b:Nat}(r:R W q a b):∃ q' a' b',R L q' a' b'/\q=ns.getD q' 0/\a=ns.getD a' 0/\b=ns.getD b' 0:=by
 obtain⟨c,d,n⟩:=r;obtain⟨p,row,hp,e,rfl,_,g⟩:=h.row d;obtain⟨x,y,f,rfl,rfl⟩:=(kMR _ _ _ _).mp ((g _ _).mp n);exact⟨p,x,y,⟨row,e,f⟩,rfl,rfl,rfl⟩
def Ren.e_to(h:Ren L W ns){a b:Nat}(r:E L a b):E W (ns.getD a 0) (ns.getD b 0):=by
 obtain⟨row,e,m⟩:=r;obtain⟨c,d,f,_⟩:=h.to e;exact⟨c,d,f.mem_iff.mpr (iK.mpr ⟨b,m,rfl⟩)⟩
def Ren.e_of(h:Ren L W ns){a b:Nat}(r:E W a b):∃ x y,E L x y/\a=ns.getD x 0/\b=ns.getD y 0:=by
 obtain⟨c,d,m⟩:=r;obtain⟨p,row,hp,e,rfl,g,_⟩:=h.row d;obtain⟨y,f,rfl⟩:=iK.mp (g.mem_iff.mp m);exact⟨p,y,⟨row,e,f⟩,rfl,rfl⟩
def kLY(G:Good L)(h:Ren L W ns):Good W:=by
 have sym:∀ a b,E W a b->E W b a:=λ a b r=>by
  obtain⟨x,y,s,rfl,rfl⟩:=h.e_of r;exact h.e_to (G.sym s)
 have reach:∀{x y:Nat},Reach L x y->Reach W (ns.getD x 0) (ns.getD y 0):=λ r=>by
  induction r with
  | here=>exact .here _
  | more _ e ih=>exact .more ih (h.e_to e)
 have d:∀ x,x<L.length->Reach W (ns.getD 0 0) x:=λ x n=>by
  obtain⟨p,hp,rfl⟩:=h.sur n;exact reach (G.con p hp)
 refine⟨by rw[h.len];exact G.three,λ p c e=>?_,λ p c e=>?_,λ p c a e m=>?_,λ q a b r=>?_,λ p hp=>?_,?_⟩
 ·obtain⟨x,row,n,f,rfl,l,_⟩:=h.row e
  intro z;subst z;have:=l.length_eq;rw[aj]at this;exact G.ne _ _ f (iq.mp this.symm)
 ·obtain⟨x,row,n,f,rfl,l,_⟩:=h.row e
  refine l.nodup_iff.mpr ?_;rw[Bs,ip];exact Gk (λ{u v} H J z e=>z (h.inj (G.rng _ _ _ f H).1 (G.rng _ _ _ f J).1 e)) (G.nd _ _ f)
 ·obtain⟨x,row,n,f,rfl,l,_⟩:=h.row e
  obtain⟨y,B,rfl⟩:=iK.mp (l.mem_iff.mp m);obtain⟨A,I⟩:=G.rng _ _ _ f B;exact⟨by rw[h.len];exact h.lt A,λ e=>I (h.inj A n e)⟩
 ·obtain⟨O,N,Q,s,rfl,rfl,rfl⟩:=h.r_of r
  exact h.r_to (G.tri _ _ _ s)
 ·rw[h.len]at hp
  have three:=G.three;exact(d 0 (by omega)).symm sym |>.trans (d p hp)
 ·have g:∀(V:Rows),V.map iV=(cz V.length).map λ x=>(V.getD x []).length:=λ V=>by
   refine Cg (by simp) λ i h1 o=>?_;simp at h1 o;simp[ai,h1]
  have f:(W.map iV).sum=(ns.map λ x=>(W.getD x []).length).sum:=by
   rw[g W,h.len];exact(h.perm.symm.map _).sum_nat
  have D:(ns.map λ x=>(W.getD x []).length)=L.map iV:=by
   refine Cg (by simp[h.nlen]) λ i h1 o=>?_;simp at h1 o;obtain⟨c,C,l,_⟩:=h.to (aa o);have M:ns[i]=ns.getD i 0:=by simp[ai,h1]
   have:=l.length_eq;rw[aj]at this;simp only[BA];rw[M,ai,C];exact this
  rw[f,D,h.len];exact G.tot
end
def Ro(r a:List Nat):Prop:=∃ A B,r=A++B/\a=B++A
def Ro.trans{r d b:List Nat}:Ro r d->Ro d b->Ro r b:=by
 rintro⟨A,B,rfl,rfl⟩ ⟨C,D,h1,rfl⟩;rcases List.append_eq_append_iff.mp h1 with⟨a,rfl,rfl⟩ | ⟨c,rfl,rfl⟩
 ·exact⟨a,D++B,by simp,by simp⟩
 ·exact⟨A++C,c,by simp,by simp⟩
def Ro.perm{r a:List Nat}:Ro r a->r.Perm a:=by
 rintro⟨A,B,rfl,rfl⟩;exact ju
def Ro.mem{r a:List Nat}(h:Ro r a)(x:Nat):x∈r↔x∈a:=h.perm.mem_iff
def Ro.nd{r a:List Nat}(h:Ro r a):r.Nodup↔a.Nodup:=h.perm.nodup_iff
def Ro.nx{r c:List Nat}(h:Ro r c)(a b:Nat):Nx r a b↔Nx c a b:=by
 obtain⟨A,B,rfl,rfl⟩:=h;exact jX A B a b
def Can(r:List Nat):Prop:=∀ x∈r,r.headD 0<=x
def rot(row:List Nat)(M:Nat):List Nat:=row.drop (row.idxOf M)++row.take (row.idxOf M)
def gM(row:List Nat)(M:Nat):Ro row (rot row M):=⟨row.take (row.idxOf M),row.drop (row.idxOf M),(gi _ _).symm,rfl⟩
def kOW{row:List Nat}{M:Nat}(h:M∈row)(c:∀ i∈row,M<=i):Can (rot row M):=by
 intro x d;have a:=c x (((gM row M).mem x).mpr d);have b:=fe h;unfold rot;rw[vf b,Bt b];exact a
structure Nb(L:Rows):Prop where
 nd:∀(p:Nat)(row:List Nat),L[p]?=some row->row.Nodup
 rng:∀(p:Nat)(row:List Nat)(a:Nat),L[p]?=some row->a∈row->a<L.length/\a≠p
 sym:∀ a b,E L a b->E L b a
structure Wb(L:Rows):Prop extends Nb L where
 three:3<=L.length
 con:∀ p,p<L.length->Reach L 0 p
theorem Nb.e{L:Rows}(S:Nb L){p q:Nat}(h:E L p q):p<L.length/\q<L.length/\q≠p:=by
 obtain⟨row,e,m⟩:=h;exact⟨(au.mp e).1,(S.rng p row q e m).1,(S.rng p row q e m).2⟩
def Nb.len{L:Rows}(S:Nb L){p:Nat}{row:List Nat}(h:L[p]?=some row):row.length<=L.length:=by
 have:=eI (S.nd p row h) (l₂:=cz L.length) λ x a=>iB.mpr (S.rng p row x h a).1;rwa[eY]at this
def Wb.of{L:Rows}(G:Good L):Wb L:=⟨⟨G.nd,G.rng,λ a b h=>G.sym h⟩,G.three,G.con⟩
def xO{W:Rows}(S:Nb W){x y:Nat}(h:E W x y):∃ z,R W y z x/\nxt W (x,y)=(y,z)/\E W y z:=by
 obtain⟨row,e,m⟩:=S.sym _ _ h;obtain⟨z,n⟩:=kUT m;exact⟨z,⟨row,e,n⟩,sI S.nd ⟨row,e,n⟩,⟨row,e,(kT n).1⟩⟩
def kGU{W:Rows}(S:Nb W){x y:Nat}(h:E W x y)(n:Nat):E W (it (nxt W) n (x,y)).1 (it (nxt W) n (x,y)).2:=by
 have:=(gZ S.nd S.sym).it n (mem_steps.mpr h);exact mem_steps.mp this
def kTH{α:Type}[DecidableEq α](f:α->α)(x:α){k:Nat}(h:it f k x=x)(n:Nat):it f (k*n) x=x:=by
 induction n with
 | zero=>rfl
 | succ n ih=>rw[Nat.mul_succ,uC,h,ih]
def kEF{α:Type}[DecidableEq α](f:α->α)(x:α){k:Nat}(h:it f k x=x)(n:Nat):it f n x=it f (n % k) x:=by
 conv=>lhs;rw[<-Nat.mod_add_div n k]
 rw[uC,kTH f x h]
end Tri
local macro_rules | `(tactic| walk_at "sort_open gallop")=>`(tactic| delta $(Lean.mkIdent (Lean.mkPrivateNameCore `PySem.Builtin.List.W1All `PySem.Builtin.gallop)):ident)
namespace Srt
set_option autoImplicit false
open PySem PyProof.Rows
def vB:Bool->bp->Array bp->Nat->Nat->Nat->StateT eP Sem (Option Nat):=sortPriv% PySem.Builtin.gallop
def bT(left:Bool)(key:bp)(arr:Array bp)(base:Nat)(i:Nat):StateT eP Sem (Option Bool):=do
 let x <-elem' arr (base+i)
 if left then lt' x key else return (<-lt' key x).map (!·)
section
variable {M:yy} {A:fb} {E:ao->av->Prop} {s:av}
def kRD(left:Bool)(key:bp)(arr:Array bp)(base n a b:Nat):StateT eP Sem (Option Nat):=do
 let mut lo:=a
 let mut hi:=b
 for _ in [0:n] do
  if lo >= hi then break
  let m:=lo+(hi-lo) / 2
  let some more <-bT left key arr base m | return none
  if more then lo:=m+1 else hi:=m
 return some hi
variable {left:Bool} {key:bp} {arr:Array bp} {base n hint:Nat} {Q:Option Nat->eP->Prop} {st:eP}
def nF(b:Nat->Bool){lo hi:Nat}
  (v:∀ i,i<n->∀ Q:Option Bool->eP->Prop,Q (some (b i)) st->wpS M A E s (bT left key arr base i) Q st)
  (mono:∀ i j,i<=j->j<n->b j=true->b i=true) (p:lo<=hi) (D:hi<=n) (h1:∀ i,i<lo->b i=true) (y:∀ i,hi<=i->i<n->b i=false)
  (h:∀ k,k<=n->(∀ i,i<k->b i=true)->(∀ i,k<=i->i<n->b i=false)->Q (some k) st):wpS M A E s (kRD left key arr base n lo hi) Q st:=by
 unfold kRD
 refine cu (vw (jc (I:=λ x c a=>a=st/\∃ l r,c=(none,l,r)/\l<=r/\r<=n/\r-l<=n-x/\(∀ i,i<l->b i=true)/\∀ i,r<=i->i<n->b i=false)
  (Q:=λ c a=>a=st/\∃ l,c=(none,l,l)/\l<=n/\(∀ i,i<l->b i=true)/\∀ i,l<=i->i<n->b i=false) ?step ?fin ⟨rfl,lo,hi,rfl,p,D,by omega,h1,y⟩) ?post)
 case post =>
  rintro c a ⟨rfl,l,rfl,B,g,f⟩;exact dj (h l B g f)
 case fin =>
  rintro c a ⟨rfl,l,r,rfl,C,o,d,g,f⟩;have:l=r:=by omega
  subst this;exact⟨rfl,l,rfl,o,g,f⟩
 case step =>
  rintro x c a _ G ⟨rfl,l,r,rfl,C,o,d,g,f⟩;dsimp only;by_cases m:l >= r
  ·rw[if_pos m]
   have:l=r:=by omega
   subst this;exact dj ⟨rfl,l,rfl,o,g,f⟩
  ·rw[if_neg m]
   refine cu (v _ (by omega) _ ?_)
   cases e:b (l+(r-l) / 2)
   case true =>
    simp only[if_true];exact dj ⟨rfl,_,r,rfl,by omega,o,by omega,λ i hi=>mono i _ (by omega) (by omega) e,f⟩
   case false =>
    simp only[eO,if_false];refine dj ⟨rfl,l,_,rfl,by omega,by omega,by omega,g,λ i q u=>?_⟩
    cases z:b i with
    | false=>rfl
    | true=>rw[mono _ i q u z]at e;cases e
def kCL(b:Nat->Bool)
  (m:∀ i,i<n->∀ Q:Option Bool->eP->Prop,Q (some (b i)) st->wpS M A E s (bT left key arr base i) Q st)
  (mono:∀ i j,i<=j->j<n->b j=true->b i=true) (G:hint<n)
  (h:∀ k,k<=n->(∀ i,i<k->b i=true)->(∀ i,k<=i->i<n->b i=false)->Q (some k) st):wpS M A E s (vB left key arr base n hint) Q st:=by
 unfold vB
 walk_at "sort_open gallop"
 dsimp only
 have nf:∀{i j:Nat},i<=j->j<n->b i=false->b j=false:=λ{i j} h1 B e=>by
  cases z:b j with
  | false=>rfl
  | true=>rw[mono i j h1 B z]at e;cases e
 refine cu (m hint G _ ?_)
 cases e:b hint
 case true =>
  simp only[if_true]
  refine cu (vw (jc (I:=λ x c a=>a=st/\∃ l o,c=(none,l,o)/\l<o/\x+1<=o/\hint+l<n/\b (hint+l)=true)
   (Q:=λ c a=>a=st/\∃ l o,c=(none,l,o)/\l<o/\hint+l<n/\b (hint+l)=true/\(n-hint<=o\/(hint+o<n/\b (hint+o)=false))) ?step ?fin ⟨rfl,0,1,rfl,by omega,by omega,by omega,e⟩) ?post)
  case fin =>
   rintro c a ⟨rfl,l,o,rfl,lo,v,g,f⟩;exact⟨rfl,l,o,rfl,lo,g,f,.inl (by omega)⟩
  case step =>
   rintro x c a _ C ⟨rfl,l,o,rfl,lo,v,g,f⟩;dsimp only;by_cases d:o >= n-hint
   ·rw[if_pos d]
    exact dj ⟨rfl,l,o,rfl,lo,g,f,.inl d⟩
   ·rw[if_neg d]
    refine cu (m _ (by omega) _ ?_)
    cases z:b (hint+o)
    case true =>
     simp only[zr,eO,if_false];exact dj ⟨rfl,o,_,rfl,by omega,by omega,by omega,z⟩
    case false =>
     simp only[GA,if_true];exact dj ⟨rfl,l,o,rfl,lo,g,f,.inr ⟨by omega,z⟩⟩
  case post =>
   rintro c a ⟨rfl,l,o,rfl,lo,g,f,p⟩;refine nF (lo:=hint+l+1) (hi:=hint+min o (n-hint)) b m mono (by omega) (by omega) (λ i q=>mono i (hint+l) (by omega) g f) (λ i y r=>?_) h;rcases p with z | ⟨D,u⟩
   ·omega
   ·exact nf (i:=hint+o) (by omega) r u
 case false =>
  simp only[eO,if_false]
  refine cu (vw (jc (I:=λ x c a=>a=st/\∃ l o,c=(none,l,o)/\l<o/\x+1<=o/\l<=hint/\b (hint-l)=false)
   (Q:=λ c a=>a=st/\∃ l o,c=(none,l,o)/\l<o/\l<=hint/\b (hint-l)=false/\(hint+1<=o\/(o<=hint/\b (hint-o)=true))) ?step ?fin ⟨rfl,0,1,rfl,by omega,by omega,by omega,e⟩) ?post)
  case fin =>
   rintro c a ⟨rfl,l,o,rfl,lo,v,g,f⟩;exact⟨rfl,l,o,rfl,lo,g,f,.inl (by omega)⟩
  case step =>
   rintro x c a _ C ⟨rfl,l,o,rfl,lo,v,g,f⟩;dsimp only;by_cases d:o >= hint+1
   ·rw[if_pos d]
    exact dj ⟨rfl,l,o,rfl,lo,g,f,.inl d⟩
   ·rw[if_neg d]
    refine cu (m _ (by omega) _ ?_)
    cases z:b (hint-o)
    case false =>
     simp only[eO,if_false];exact dj ⟨rfl,o,_,rfl,by omega,by omega,by omega,z⟩
    case true =>
     simp only[if_true];exact dj ⟨rfl,l,o,rfl,lo,g,f,.inr ⟨by omega,z⟩⟩
  case post =>
   rintro c a ⟨rfl,l,o,rfl,lo,g,f,p⟩;refine nF (lo:=hint+1-min o (hint+1)) (hi:=hint-l) b m mono (by omega) (by omega) (λ i q=>?_) (λ i y r=>nf (i:=hint-l) y r f) h;rcases p with z | ⟨D,u⟩
   ·omega
   ·exact mono i (hint-o) (by omega) (by omega) u
end
section
variable {α:Type}
structure Wk(lb:α->α->Bool):Prop where
 irr:∀ a,lb a a=false
 neg:∀ a b c,lb a c=true->lb a b=true\/lb b c=true
 tr:∀ a b c,lb a b=true->lb b c=true->lb a c=true
variable {lb:α->α->Bool}
def le(lb:α->α->Bool)(a b:α):Prop:=lb b a=false
def Wk.refl(W:Wk lb)(a:α):le lb a a:=W.irr a
def Wk.of_lt(W:Wk lb){a b:α}(h:lb a b=true):le lb a b:=by
 unfold le
 cases e:lb b a with
 | false=>rfl
 | true=>have:=W.tr _ _ _ h e;rw[W.irr]at this;cases this
def Wk.trans(W:Wk lb){a b c:α}(h:le lb a b)(k:le lb b c):le lb a c:=by
 unfold le at *
 cases e:lb c a with
 | false=>rfl
 | true =>
  rcases W.neg c b a e with z | z
  ·rw[k]at z;cases z
  ·rw[h]at z;cases z
def qZ(lb:α->α->Bool)(l:List α):Prop:=l.Pairwise (le lb)
structure Mg(lb:α->α->Bool)(A B:List α)(out ra rb:List α):Prop where
 sa:qZ lb (out++ra)
 sb:qZ lb (out++rb)
 pm:(out++(ra++rb)).Perm (A++B)
def Mg.moveA{A B a c f b:List α}(h:Mg lb A B a (c++f) b)(i:∀ x∈c,∀ y∈b,le lb x y):Mg lb A B (a++c) f b:=by
 refine⟨by rw[dr];exact h.sa,?_,?_⟩
 ·have h1:=eB.mp h.sa
  have g:=eB.mp h.sb;have m:=eB.mp h1.2.1;rw[qZ,dr];refine eB.mpr ⟨h1.1,eB.mpr ⟨m.1,g.2.1,i⟩,λ x d y l=>?_⟩;rcases bu.mp l with z | z
  ·exact h1.2.2 x d y (cj _ z)
  ·exact g.2.2 x d y z
 ·refine vh ?_ h.pm
  simp only[dr];exact Ae _
def Mg.swap{A B a b c:List α}(h:Mg lb A B a b c):Mg lb B A a c b :=
 ⟨h.sb,h.sa,((ju).append_left a).trans (h.pm.trans ju)⟩
def Mg.moveB{A B a c b d:List α}(h:Mg lb A B a b (c++d))(f:∀ x∈c,∀ y∈b,le lb x y):Mg lb A B (a++c) b d:=(h.swap.moveA f).swap
def Res(lb:α->α->Bool)(A B r:List α):Prop:=qZ lb r/\r.Perm (A++B)
def Mg.endA{A B a b:List α}(h:Mg lb A B a b []):Res lb A B (a++b++[]):=⟨by simpa using h.sa,by simpa using h.pm⟩
def Mg.endB{A B a b:List α}(h:Mg lb A B a [] b):Res lb A B (a++[]++b):=⟨by simpa using h.sb,by simpa using h.pm⟩
def Mg.last{A B a b:List α}{z:α}(h:Mg lb A B a [z] b)(hz:∀ y∈b,le lb y z):Res lb A B (a++b++[z]):=by
 refine⟨?_,?_⟩
 ·have h1:=eB.mp h.sa
  have f:=eB.mp h.sb;refine eB.mpr ⟨h.sb,om _ _,λ x c y d=>?_⟩;have:y=z:=by simpa using d
  subst this;rcases bu.mp c with w | w
  ·exact h1.2.2 x w y (by simp)
  ·exact hz x w
 ·refine vh ?_ h.pm
  rw[dr];exact ju.append_left a
end
def lE:Array bp->Array bp->StateT eP Sem (Array bp):=sortPriv% PySem.Builtin.mergeLo
def xK:Nat->StateT eP Sem Unit:=sortPriv% PySem.Builtin.setMinGallop
abbrev zY(st:eP)(g:Nat):eP:=Cy (kindOf st) (di st) (dh st) g (vy st)
def setMinGallop'_eq(g:Nat):xK g=modify λ s=>zY s g:=rfl
end Srt
local macro_rules | `(tactic| walk_at "sort_open mergeLo")=>`(tactic| delta $(Lean.mkIdent (Lean.mkPrivateNameCore `PySem.Builtin.List.W1All `PySem.Builtin.mergeLo)):ident)
namespace Srt
set_option autoImplicit false
open PySem PyProof.Rows
section
variable {M:yy} {A:fb} {E:ao->av->Prop} {s:av} {lb:bp->bp->Bool} {D:bp->Prop} {kd:mj}
def vM(M:yy)(A:fb)(E:ao->av->Prop)(s:av)(lb:bp->bp->Bool)(D:bp->Prop)(kd:mj):Prop :=
 ∀ x y,D x->D y->∀(st:eP)(Q:Option Bool->eP->Prop),kindOf st=kd->Q (some (lb x y)) st->wpS M A E s (lt' x y) Q st
def qA{arr:Array bp}{i:Nat}{p:bp}{Q:bp->eP->Prop}{st:eP}(h:arr[i]?=some p)(q:Q p st):wpS M A E s (elem' arr i) Q st:=by
 rw[elem'_eq,h];exact dj q
def Sm(st a:eP):Prop:=kindOf a=kindOf st/\di a=di st/\dh a=dh st/\vy a=vy st
def Sm.refl(st:eP):Sm st st:=⟨rfl,rfl,rfl,rfl⟩
def Sm.gal{st a:eP}(h:Sm st a)(g:Nat):Sm st (zY a g):=h
def wD{x:String}{Q:Unit->eP->Prop}{st:eP}(q:Q () st):wpS M A E s (liftM (rule x):StateT eP Sem Unit) Q st:=HP (uz ⟨rfl,q⟩)
def kCN(d:vM M A E s lb D kd){left:Bool}{key x:bp}{arr:Array bp}{base i:Nat}{Q:Option Bool->eP->Prop}{st:eP}(c:kindOf st=kd)(f:arr[base+i]?=some x)(a:D key)(b:D x)
  (q:Q (some (if left then lb x key else !lb key x)) st):wpS M A E s (bT left key arr base i) Q st:=by
 unfold bT;refine cu (qA f ?_)
 cases left with
 | true =>
  simp only[if_true]at q ⊢;exact d _ _ b a st _ c q
 | false =>
  simp only[eO,if_false]at q ⊢;exact cu (d _ _ a b st _ c (dj q))
def uG(W:Wk lb)(p:vM M A E s lb D kd){left:Bool}{key:bp}{arr:Array bp}{base n b:Nat}{Q:Option Nat->eP->Prop}{st:eP}(m:kindOf st=kd)(l:D key)(o:∀ x∈arr.toList,D x)
  (v:base+n<=arr.size) (f:∀ i j (hi:i<=j) (d:j<n),le lb (arr[base+i]'(by omega)) (arr[base+j]'(by omega))) (u:b<n)
  (h:∀ k,k<=n->(∀ i (hi:i<k) (a:i<n),if left then lb (arr[base+i]'(by omega)) key=true else le lb (arr[base+i]'(by omega)) key) ->
   (∀ i (hi:k<=i) (a:i<n),if left then le lb key (arr[base+i]'(by omega)) else lb key (arr[base+i]'(by omega))=true)->Q (some k) st):wpS M A E s (vB left key arr base n b) Q st:=by
 have g:∀ i,i<n->arr[base+i]?=some (arr.getD (base+i) key):=λ i hi=>by
  rw[getElem?_pos arr (base+i) (by omega)]
  congr 1
  simp[HY,show base+i<arr.size by omega]
 have c:∀ i (hi:i<n),arr.getD (base+i) key=arr[base+i]'(by omega):=λ i hi=>by simp[HY,show base+i<arr.size by omega]
 refine kCL (λ i=>if left then lb (arr.getD (base+i) key) key else !lb key (arr.getD (base+i) key)) (λ i hi Q q=>kCN p m (g i hi) l (by rw[c i hi];exact o _ (by simp)) q) (λ i j hi d e=>?_) u (λ k kn h1 r=>h k kn (λ i hi a=>?_) (λ i hi a=>?_))
 ·have:=f i j hi d
  rw[c i (by omega)];rw[c j d]at e
  cases left with
  | true =>
   simp only[if_true]at e ⊢;rcases W.neg _ (arr[base+i]'(by omega)) _ e with z | z
   ·rw[show lb _ _=false from this]at z;cases z
   ·exact z
  | false =>
   simp only[eO,if_false,Ee]at e ⊢;exact W.trans (lb:=lb) this (show le lb _ _ from e)
 ·have:=h1 i hi
  rw[c i a]at this
  cases left with
  | true=>simpa using this
  | false=>simp only[eO,if_false,Ee]at this ⊢;exact this
 ·have:=r i hi a
  rw[c i a]at this
  cases left with
  | true=>simp only[if_true]at this ⊢;exact this
  | false=>simp only[eO,if_false,Bool.not_eq_false']at this ⊢;exact this
abbrev LS:=Option (Array bp)×Array bp×Nat×Nat×Nat×Nat×Nat
section
variable (a b:Array bp)
def pC(c:Array bp)(d h g k f:Nat):StateT eP Sem (ForInStep LS):=do
 let x <-elem' a d
 if(d+1+1 == a.size)=true then pure (.done (some (c.push x++b.extract h++a.extract (d+1)),c.push x,d+1,h,g,k,f))
 else if(decide (k<7) && decide (f<7))=true then pure (.done (none,c.push x,d+1,h,g,k,f)) else pure (.yield (none,c.push x,d+1,h,g,k,f))
def pB(d:Array bp)(f c g k ob:Nat):StateT eP Sem (ForInStep LS):=do
 let y <-elem' b c
 if(c+1 == b.size)=true then pure (.done (some (d.push y++a.extract f++b.extract (c+1)),d.push y,f,c+1,g,k,ob))
 else do
  let x <-elem' a f
  let r <-vB true x b (c+1) (b.size-(c+1)) 0
  match r with
  | some k1 =>
   if k1>0 then
    if(c+1+k1 == b.size)=true then pure (.done (some (d.push y++b.extract (c+1) (c+1+k1)++a.extract f++b.extract (c+1+k1)),d.push y++b.extract (c+1) (c+1+k1),f,c+1+k1,g,k,k1))
    else pC a b (d.push y++b.extract (c+1) (c+1+k1)) f (c+1+k1) g k k1
   else pC a b (d.push y) f (c+1) g k k1
  | x=>pure (.done (some (d.push y++a.extract f++b.extract (c+1)),d.push y,f,c+1,g,k,ob))
def pA(d:Array bp)(c f g h ob:Nat):StateT eP Sem (ForInStep LS):=do
 xK g
 let y <-elem' b f
 let r <-vB false y a c (a.size-c) 0
 match r with
 | some k =>
  if k>0 then
   if(c+k+1 == a.size)=true then pure (.done (some (d++a.extract c (c+k)++b.extract f++a.extract (c+k)),d++a.extract c (c+k),c+k,f,g,k,ob))
   else if(c+k == a.size)=true then pure (.done (some (d++a.extract c (c+k)++a.extract (c+k)++b.extract f),d++a.extract c (c+k),c+k,f,g,k,ob))
   else pB a b (d++a.extract c (c+k)) (c+k) f g k ob
  else pB a b d c f g k ob
 | x=>pure (.done (some (d++a.extract c++b.extract f),d,c,f,g,h,ob))
abbrev LS1:=Option (Array bp)×Array bp×Nat×Nat×Nat×Nat
def p1(mg:Nat)(c:LS1):StateT eP Sem (ForInStep LS1):=do
 let y <-elem' b c.2.2.2.1
 let x <-elem' a c.2.2.1
 let r <-lt' y x
 match r with
 | some bw =>
  if bw=true then do
   let y <-elem' b c.2.2.2.1
   if(c.2.2.2.1+1 == b.size)=true then pure (.done (some (c.2.1.push y++a.extract c.2.2.1++b.extract (c.2.2.2.1+1)),c.2.1.push y,c.2.2.1,c.2.2.2.1+1,0,c.2.2.2.2.2+1))
   else if c.2.2.2.2.2+1 >= mg then pure (.done (none,c.2.1.push y,c.2.2.1,c.2.2.2.1+1,0,c.2.2.2.2.2+1))
   else pure (.yield (none,c.2.1.push y,c.2.2.1,c.2.2.2.1+1,0,c.2.2.2.2.2+1))
  else do
   let x <-elem' a c.2.2.1
   if(c.2.2.1+1+1 == a.size)=true then pure (.done (some (c.2.1.push x++b.extract c.2.2.2.1++a.extract (c.2.2.1+1)),c.2.1.push x,c.2.2.1+1,c.2.2.2.1,c.2.2.2.2.1+1,0))
   else if c.2.2.2.2.1+1 >= mg then pure (.done (none,c.2.1.push x,c.2.2.1+1,c.2.2.2.1,c.2.2.2.2.1+1,0))
   else pure (.yield (none,c.2.1.push x,c.2.2.1+1,c.2.2.2.1,c.2.2.2.2.1+1,0))
 | x=>pure (.done (some (c.2.1++a.extract c.2.2.1++b.extract c.2.2.2.1),c.2.1,c.2.2.1,c.2.2.2.1,c.2.2.2.2.1,c.2.2.2.2.2))
abbrev LS0:=Option (Array bp)×Array bp×Nat×Nat×Nat
def p0(c:LS0):StateT eP Sem (ForInStep LS0):=do
 let d <-forIn [:a.size+b.size] ((none,c.2.1,c.2.2.1,c.2.2.2.1,0,0):LS1) λ x d=>p1 a b c.2.2.2.2 d
 match d.1 with
 | some r=>pure (.done (some r,d.2.1,d.2.2.1,d.2.2.2.1,c.2.2.2.2))
 | none=>do
  liftM (rule "list.sort.gallop")
  let f <-forIn [:a.size+b.size] ((none,d.2.1,d.2.2.1,d.2.2.2.1,c.2.2.2.2+1,d.2.2.2.2.1,d.2.2.2.2.2):LS) λ x f =>
   if f.2.2.2.2.1>1 then pA a b f.2.1 f.2.2.1 f.2.2.2.1 (f.2.2.2.2.1-1) f.2.2.2.2.2.1 f.2.2.2.2.2.2 else pA a b f.2.1 f.2.2.1 f.2.2.2.1 f.2.2.2.2.1 f.2.2.2.2.2.1 f.2.2.2.2.2.2
  match f.1 with
  | some r=>pure (.done (some r,f.2.1,f.2.2.1,f.2.2.2.1,f.2.2.2.2.1))
  | none=>do
   xK (f.2.2.2.2.1+1)
   pure (.yield (none,f.2.1,f.2.2.1,f.2.2.2.1,f.2.2.2.2.1+1))
def mergeLo'_parts:lE a b=(do
  liftM (rule "list.sort.merge-lo")
  let y <-elem' b 0
  if(1 == b.size)=true then pure (#[y]++a.extract 0++b.extract 1)
  else if(0+1 == a.size)=true then pure (#[y]++b.extract 1++a.extract 0)
  else do
   let st <-get
   let c <-forIn [:a.size+b.size] ((none,#[y],0,1,gallopOf st):LS0) λ x c=>p0 a b c
   match c.1 with
   | some r=>pure r
   | none=>unsupported "internal:list.sort.merge-bound"):=by
 unfold lE
 walk_at "sort_open mergeLo"
 dsimp only;refine congrArg _ (funext λ _=>?_);refine congrArg _ (funext λ y=>?_);refine congrArg _ ?_;refine congrArg _ ?_;refine congrArg _ (funext λ st=>?_);refine congr (congrArg _ (congrArg _ (funext λ x=>funext λ c=>?_))) (funext λ c=>by cases c.1<;>rfl);unfold p0;refine congr (congrArg _ (congrArg _ (funext λ x=>funext λ d=>?_))) (funext λ d=>?_)
 ·unfold p1
  refine congrArg _ (funext λ _=>?_);refine congrArg _ (funext λ _=>?_);refine congrArg _ (funext λ r=>?_);cases r<;>rfl
 ·cases d.1 with
  | some r=>rfl
  | none =>
   dsimp only;refine congrArg _ (funext λ _=>?_);refine congr (congrArg _ (congrArg _ (funext λ x=>funext λ f=>?_))) (funext λ f=>by cases f.1<;>rfl);have tail:∀(h:Array bp)(i l g k m:Nat),True:=λ _ _ _ _ _ _=>trivial;refine ite_congr rfl (λ _=>?_) (λ _=>?_)
   all_goals
    unfold pA;refine congrArg _ (funext λ _=>?_);refine congrArg _ (funext λ y=>?_);refine congrArg _ (funext λ r=>?_)
    cases r with
    | none=>rfl
    | some k =>
     dsimp only;refine ite_congr rfl (λ _=>ite_congr rfl (λ _=>rfl) (λ _=>ite_congr rfl (λ _=>rfl) (λ _=>?_))) (λ _=>?_)
     all_goals
      unfold pB;refine congrArg _ (funext λ y=>?_);refine ite_congr rfl (λ _=>rfl) (λ _=>?_);refine congrArg _ (funext λ x=>?_);refine congrArg _ (funext λ r=>?_);cases r<;>rfl
end
end
section
variable {α:Type}
def wO(a:Array α)(i:Nat):(a.extract i).toList=a.toList.drop i:=by
 rw[wa,qq];exact ka (by simp)
def xF(a:Array α)(i k:Nat):(a.extract i (i+k)).toList=(a.toList.drop i).take k:=by
 rw[wa,qq]
 congr 1
 omega
def drop_one{a:Array α}{i:Nat}(h:i<a.size):a.toList.drop i=[a[i]]++a.toList.drop (i+1):=by
 rw[vf (by simpa using h)]
 rfl
def kEK(l:List α)(i k:Nat):l.drop i=(l.drop i).take k++l.drop (i+k):=by
 conv=>lhs;rw[<-gi k (l.drop i)]
 rw[Af]
end
section
variable {M:yy} {A:fb} {E:ao->av->Prop} {s:av} {lb:bp->bp->Bool} {D:bp->Prop} {kd:mj} {a b:Array bp}
structure Hy(M:yy)(A:fb)(E:ao->av->Prop)(s:av)(lb:bp->bp->Bool)(D:bp->Prop)(kd:mj)(a b:Array bp):Prop where
 W:Wk lb
 L:vM M A E s lb D kd
 da:∀ x∈a.toList,D x
 db:∀ x∈b.toList,D x
 sa:qZ lb a.toList
 sb:qZ lb b.toList
 last:∀(h:0<a.size),∀ y∈b.toList,le lb y a[a.size-1]
def MI(lb:bp->bp->Bool)(a b:Array bp)(c:Array bp)(d f:Nat):Prop :=
 Mg lb a.toList b.toList c.toList (a.toList.drop d) (b.toList.drop f)/\d+1<a.size/\f<b.size/\c.size=d+f
def Yd(lb:bp->bp->Bool)(a b:Array bp)(n:Nat){d:Type}(c:Option (Array bp)×Array bp×Nat×Nat×d):Prop:=c.1=none/\MI lb a b c.2.1 c.2.2.1 c.2.2.2.1/\n<=c.2.1.size
def Dn(lb:bp->bp->Bool)(a b:Array bp)(n:Nat){d:Type}(c:Option (Array bp)×Array bp×Nat×Nat×d):Prop:=(∃ r,c.1=some r/\Res lb a.toList b.toList r.toList)\/Yd lb a b n c
def RR(lb:bp->bp->Bool)(a b:Array bp)(n:Nat){d:Type}:ForInStep (Option (Array bp)×Array bp×Nat×Nat×d)->Prop
 | .done c=>Dn lb a b n c
 | .yield c=>Yd lb a b n c
def zW(W:Wk lb){a:Array bp}(h:qZ lb a.toList){i j:Nat}(b:i<=j)(c:j<a.size):le lb (a[i]'(by omega)) a[j]:=by
 by_cases e:i=j
 ·subst e;exact W.refl _
 ·have:=jl.mp h i j (by simp;omega) (by simp;omega) (by omega)
  simpa using this
def yJ{a:Array bp}{i:Nat}{x:bp}(h:x∈a.toList.drop i):∃ j,∃ hj:j<a.size,i<=j/\x=a[j]:=by
 obtain⟨k,b,e⟩:=fc.mp h;rw[iN]at b;refine⟨i+k,by simp at b;omega,by omega,?_⟩;rw[<-e,CP];simp
def kGZ{c:Array bp}{f d:Nat}(h:Mg lb a.toList b.toList c.toList (a.toList.drop f) (b.toList.drop d))(e:d=b.size):Res lb a.toList b.toList (c++a.extract f++b.extract d).toList:=by
 rw[gm,gm,wO,wO];have z:b.toList.drop d=[]:=kr (by simp;omega);rw[z]at h ⊢;exact h.endA
def kVG{c:Array bp}{d f:Nat}(h:Mg lb a.toList b.toList c.toList (a.toList.drop d) (b.toList.drop f))(e:d=a.size):Res lb a.toList b.toList (c++a.extract d++b.extract f).toList:=by
 rw[gm,gm,wO,wO];have z:a.toList.drop d=[]:=kr (by simp;omega);rw[z]at h ⊢;exact h.endB
def bP(H:Hy M A E s lb D kd a b){d:Array bp}{c f:Nat}(h:Mg lb a.toList b.toList d.toList (a.toList.drop c) (b.toList.drop f))(e:c+1=a.size):Res lb a.toList b.toList (d++b.extract f++a.extract c).toList:=by
 rw[gm,gm,wO,wO]
 have z:a.toList.drop c=[a[a.size-1]'(by omega)]:=by
  rw[drop_one (show c<a.size by omega),kr (by simp;omega)];simp only[iY]
  congr 2
  omega
 rw[z]at h ⊢;exact h.last λ y g=>H.last (by omega) y (List.mem_of_mem_drop g)
def kCV(H:Hy M A E s lb D kd a b){f:Array bp}{g d:Nat}(p:g<a.size)(o:d<b.size)(h:Mg lb a.toList b.toList f.toList (a.toList.drop g) (b.toList.drop d))(c:le lb b[d] a[g]):Mg lb a.toList b.toList (f.push b[d]).toList (a.toList.drop g) (b.toList.drop (d+1)):=by
 rw[drop_one o]at h;rw[wb];refine h.moveB λ x i y n=>?_;have:x=b[d]:=by simpa using i
 subst this;obtain⟨j,m,l,rfl⟩:=yJ n;exact H.W.trans c (zW H.W H.sa l m)
def kLB(H:Hy M A E s lb D kd a b){f:Array bp}{d g:Nat}(l:d<a.size)(h:Mg lb a.toList b.toList f.toList (a.toList.drop d) (b.toList.drop g))(c:∀ y∈b.toList.drop g,le lb a[d] y):Mg lb a.toList b.toList (f.push a[d]).toList (a.toList.drop (d+1)) (b.toList.drop g):=by
 rw[drop_one l]at h;rw[wb];refine h.moveA λ x i y m=>?_;have:x=a[d]:=by simpa using i
 subst this;exact c y m
def kVN(H:Hy M A E s lb D kd a b){d:Nat}{x:bp}(i:d<b.size)(c:le lb x b[d]):∀ y∈b.toList.drop d,le lb x y:=λ y h=>by
 obtain⟨j,g,f,rfl⟩:=yJ h;exact H.W.trans c (zW H.W H.sb f g)
def kRH(H:Hy M A E s lb D kd a b){st:eP}(o:kindOf st=kd){d:Array bp}{f g u v mg:Nat}(h:MI lb a b d f g){Q:ForInStep LS1->eP->Prop}
  (q:∀ r,RR lb a b (d.size+1) r->Q r st):wpS M A E s (p1 a b mg (none,d,f,g,u,v)) Q st:=by
 obtain⟨m,h1,l,p⟩:=h;have n:f<a.size:=by omega
 unfold p1;dsimp only;refine cu (qA (getElem?_pos b g l) ?_);refine cu (qA (getElem?_pos a f n) ?_);refine cu (H.L _ _ (H.db _ (by simp)) (H.da _ (by simp)) st _ o ?_)
 cases e:lb b[g] a[f]
 case true =>
  simp only[if_true];refine cu (qA (getElem?_pos b g l) ?_);have i:=kCV H n l m (H.W.of_lt e);by_cases c:g+1=b.size
  ·rw[if_pos (by simpa using c)]
   exact dj (q _ (.inl ⟨_,rfl,kGZ i c⟩))
  ·rw[if_neg (by simpa using c)]
   have y:Yd lb a b (d.size+1) (none,d.push b[g],f,g+1,(0,v+1)):=⟨rfl,⟨i,h1,by show g+1<b.size;omega,by show(d.push b[g]).size=f+(g+1);rw[iX];omega⟩,by show d.size+1<=(d.push b[g]).size;rw[iX];omega⟩
   split
   ·exact dj (q _ (.inr y))
   ·exact dj (q _ y)
 case false =>
  simp only[eO,if_false];refine cu (qA (getElem?_pos a f n) ?_);have i:=kLB H n m (kVN H l e);by_cases c:f+1+1=a.size
  ·rw[if_pos (by simpa using c)]
   exact dj (q _ (.inl ⟨_,rfl,bP H i c⟩))
  ·rw[if_neg (by simpa using c)]
   have y:Yd lb a b (d.size+1) (none,d.push a[f],f+1,g,(u+1,0)):=⟨rfl,⟨i,by show f+1+1<a.size;omega,l,by show(d.push a[f]).size=f+1+g;rw[iX];omega⟩,by show d.size+1<=(d.push a[f]).size;rw[iX];omega⟩
   split
   ·exact dj (q _ (.inr y))
   ·exact dj (q _ y)
def zQ{a:Array bp}{i k:Nat}{x:bp}(h:x∈(a.toList.drop i).take k):∃ j,∃ hj:i+j<a.size,j<k/\x=a[i+j]:=by
 obtain⟨j,hj,e⟩:=fc.mp h;rw[eJ,iN]at hj;refine⟨j,by simp at hj;omega,by omega,?_⟩;rw[<-e,xt,CP];simp
def kQI{f:Array bp}{g d k:Nat}(h:Mg lb a.toList b.toList f.toList (a.toList.drop g) (b.toList.drop d))(c:∀ x∈(b.toList.drop d).take k,∀ y∈a.toList.drop g,le lb x y):Mg lb a.toList b.toList (f++b.extract d (d+k)).toList (a.toList.drop g) (b.toList.drop (d+k)):=by
 rw[gm,xF];rw[kEK b.toList d k]at h;exact h.moveB c
def kQJ{f:Array bp}{d g k:Nat}(h:Mg lb a.toList b.toList f.toList (a.toList.drop d) (b.toList.drop g))(c:∀ x∈(a.toList.drop d).take k,∀ y∈b.toList.drop g,le lb x y):Mg lb a.toList b.toList (f++a.extract d (d+k)).toList (a.toList.drop (d+k)) (b.toList.drop g):=by
 rw[gm,xF];rw[kEK a.toList d k]at h;exact h.moveA c
def kKA(H:Hy M A E s lb D kd a b){st:eP}{f:Array bp}{d i g k p n:Nat}(h:MI lb a b f d i)(x:n<=f.size+1)(c:∀(v:d<a.size),∀ y∈b.toList.drop i,le lb a[d] y){Q:ForInStep LS->eP->Prop}
  (q:∀ r,RR lb a b n r->Q r st):wpS M A E s (pC a b f d i g k p) Q st:=by
 obtain⟨m,h1,u,B⟩:=h;have l:d<a.size:=by omega
 unfold pC;refine cu (qA (getElem?_pos a d l) ?_);have o:=kLB H l m (c l);by_cases e:d+1+1=a.size
 ·rw[if_pos (by simpa using e)]
  exact dj (q _ (.inl ⟨_,rfl,bP H o e⟩))
 ·rw[if_neg (by simpa using e)]
  have y:Yd lb a b n (none,f.push a[d],d+1,i,(g,k,p)):=⟨rfl,⟨o,by show d+1+1<a.size;omega,u,by show(f.push a[d]).size=d+1+i;rw[iX];omega⟩,by show n<=(f.push a[d]).size;rw[iX];omega⟩
  split
  ·exact dj (q _ (.inr y))
  ·exact dj (q _ y)
def kKB(H:Hy M A E s lb D kd a b){st:eP}(U:kindOf st=kd){f:Array bp}{l d g k ob n:Nat}(h:MI lb a b f l d)(hn:n<=f.size+1)(c:∀(p:l<a.size)(hb:d<b.size),le lb b[d] a[l]){Q:ForInStep LS->eP->Prop}
  (q:∀ r,RR lb a b n r->Q r st):wpS M A E s (pB a b f l d g k ob) Q st:=by
 obtain⟨m,h1,v,h3⟩:=h;have p:l<a.size:=by omega
 unfold pB;refine cu (qA (getElem?_pos b d v) ?_);have G:=kCV H p v m (c p v);have sz:(f.push b[d]).size=l+(d+1):=by rw[iX];omega
 by_cases e:d+1=b.size
 ·rw[if_pos (by simpa using e)]
  exact dj (q _ (.inl ⟨_,rfl,kGZ G e⟩))
 ·rw[if_neg (by simpa using e)]
  refine cu (qA (getElem?_pos a l p) ?_);refine cu (uG H.W H.L U (H.da _ (by simp)) H.db (by omega) (λ i j I J=>zW H.W H.sb (by omega) (by omega)) (by omega) λ o kn N S=>?_);simp only[if_true]at N S
  have rest:∀ y∈b.toList.drop (d+1+o),le lb a[l] y:=λ y u=>by
   obtain⟨j,J,ij,rfl⟩:=yJ u;have:=S (j-(d+1)) (by omega) (by omega);simp only[show d+1+(j-(d+1))=j by omega]at this;exact this
  dsimp only;by_cases O:o>0
  ·rw[if_pos O]
   have T:=kQI (k:=o) G λ x Z y u=>by
    obtain⟨j,J,Y,rfl⟩:=zQ Z;obtain⟨i,I,X,rfl⟩:=yJ u;exact H.W.trans (H.W.of_lt (N j Y (by omega))) (zW H.W H.sa X I)
   have C:(f.push b[d]++b.extract (d+1) (d+1+o)).size=l+(d+1+o):=by
    rw[yl,sz,jo];omega
   by_cases B:d+1+o=b.size
   ·rw[if_pos (by simpa using B)]
    exact dj (q _ (.inl ⟨_,rfl,kGZ T B⟩))
   ·rw[if_neg (by simpa using B)]
    exact kKA H ⟨T,h1,by omega,C⟩ (by omega) (λ _=>rest) q
  ·rw[if_neg O]
   have:o=0:=by omega
   subst this;exact kKA H ⟨G,h1,by omega,sz⟩ (by omega) (λ _=>rest) q
def kRG(H:Hy M A E s lb D kd a b){st:eP}(l:kindOf st=kd){c:Array bp}{d f g X ob n:Nat}(h:MI lb a b c d f)(Y:n<=c.size+1){Q:ForInStep LS->eP->Prop}
  (q:∀ r,RR lb a b n r->Q r (zY st g)):wpS M A E s (pA a b c d f g X ob) Q st:=by
 obtain⟨m,h1,G,h3⟩:=id h;have Z:d<a.size:=by omega
 unfold pA;rw[setMinGallop'_eq];refine cu (ou ?_);refine cu (qA (getElem?_pos b f G) ?_);refine cu (uG (st:=zY st g) H.W H.L l (H.db _ (by simp)) H.da (by omega) (λ i j C N=>zW H.W H.sa (by omega) (by omega)) (by omega) λ k kn I v=>?_);simp only[eO,if_false]at I v;dsimp only;by_cases J:k>0
 ·rw[if_pos J]
  have B:=kQJ (k:=k) m λ x U y O=>by
   obtain⟨j,N,T,rfl⟩:=zQ U;obtain⟨i,C,S,rfl⟩:=yJ O;exact H.W.trans (I j T (by omega)) (zW H.W H.sb S C)
  have u:(c++a.extract d (d+k)).size=d+k+f:=by
   rw[yl,jo];omega
  by_cases o:d+k+1=a.size
  ·rw[if_pos (by simpa using o)]
   exact dj (q _ (.inl ⟨_,rfl,bP H B o⟩))
  ·rw[if_neg (by simpa using o)]
   by_cases p:d+k=a.size
   ·rw[if_pos (by simpa using p)]
    exact dj (q _ (.inl ⟨_,rfl,kVG B p⟩))
   ·rw[if_neg (by simpa using p)]
    exact kKB (st:=zY st g) H l ⟨B,by omega,G,u⟩ (by omega) (λ _ _=>H.W.of_lt (v k (by omega) (by omega))) q
 ·rw[if_neg J]
  have:k=0:=by omega
  subst this;exact kKB (st:=zY st g) H l h Y (λ _ _=>H.W.of_lt (v 0 (by omega) (by omega))) q
def Yd.mono{n d:Nat}{f:Type}{c:Option (Array bp)×Array bp×Nat×Nat×f}(h:Yd lb a b n c)(k:d<=n):Yd lb a b d c:=⟨h.1,h.2.1,fz k h.2.2⟩
theorem Dn.mono{n d:Nat}{f:Type}{c:Option (Array bp)×Array bp×Nat×Nat×f}(h:Dn lb a b n c)(k:d<=n):Dn lb a b d c:=h.imp id λ z=>z.mono k
def kRI(H:Hy M A E s lb D kd a b){st:eP}(L:kindOf st=kd){l:Array bp}{N O g:Nat}(h:MI lb a b l N O){Q:ForInStep LS0->eP->Prop}
  (S:∀ r c st',Sm st st'->Res lb a.toList b.toList r.toList->Q (.done (some r,c)) st') (X:∀ c st',Sm st st'->Yd lb a b (l.size+1) c->Q (.yield c) st'):wpS M A E s (p0 a b (none,l,N,O,g)) Q st:=by
 unfold p0;dsimp only;have U:0<a.size+b.size:=by have:=h.2.2.1;omega
 refine cu (vw (jc (I:=λ x d st'=>st'=st/\Yd lb a b (l.size+x) d) (Q:=λ d st'=>st'=st/\Dn lb a b (l.size+1) d) ?step ?fin ⟨rfl,rfl,h,bg _⟩) ?post)
 case fin =>
  rintro d st' ⟨rfl,y⟩;exact⟨rfl,.inr (y.mono (by omega))⟩
 case step =>
  rintro x ⟨r,o,i,j,u,v⟩ st' _ _ ⟨rfl,e,G,le⟩
  cases(show r=none from e)
  have le:l.size+x<=o.size:=le;refine kRH H L G λ r B=>?_
  cases r with
  | done c=>exact⟨rfl,Dn.mono B (by omega)⟩
  | yield c=>exact⟨rfl,Yd.mono B (by omega)⟩
 case post =>
  rintro⟨r,o,i,j,u,v⟩ st' ⟨rfl,C⟩
  cases r with
  | some r =>
   dsimp only;rcases C with⟨J,e,p⟩ | ⟨e,_⟩
   ·cases e
    exact dj (S _ _ _ (Sm.refl _) p)
   ·cases e
  | none =>
   dsimp only
   have y:Yd lb a b (l.size+1) (none,o,i,j,(u,v)):=by
    rcases C with⟨J,e,p⟩ | y
    ·cases e
    ·exact y
   refine cu (wD ?_);refine cu (vw (jc (I:=λ x f m=>Sm st' m/\Yd lb a b (l.size+1) f) (Q:=λ f m=>Sm st' m/\Dn lb a b (l.size+1) f) ?step2 ?fin2 ⟨Sm.refl _,y⟩) ?post2)
   case fin2 =>
    rintro f m ⟨q,y⟩;exact⟨q,.inr y⟩
   case step2 =>
    rintro x ⟨r,o,i,j,T,u,v⟩ m _ _ ⟨q,e,G,le⟩
    cases(show r=none from e)
    have le:l.size+1<=o.size:=le;dsimp only
    split
    all_goals
     refine kRG (n:=l.size+1) H (q.1.trans L) G (by omega) λ r B=>?_
     cases r with
     | done c=>exact⟨q.gal _,B⟩
     | yield c=>exact⟨q.gal _,B⟩
   case post2 =>
    rintro⟨r,o,i,j,T,u,v⟩ m ⟨q,C⟩
    cases r with
    | some r =>
     dsimp only;rcases C with⟨J,e,p⟩ | ⟨e,_⟩
     ·cases e
      exact dj (S _ _ _ q p)
     ·cases e
    | none =>
     dsimp only;rcases C with⟨J,e,p⟩ | y
     ·cases e
     ·rw[setMinGallop'_eq]
      exact cu (ou (dj (X _ _ (q.gal _) y)))
def tG(H:Hy M A E s lb D kd a b){st:eP}(G:kindOf st=kd)(L:0<a.size)(v:0<b.size)(first:le lb b[0] a[0]){Q:Array bp->eP->Prop}
  (q:∀ r st',Sm st st'->Res lb a.toList b.toList r.toList->Q r st'):wpS M A E s (lE a b) Q st:=by
 rw[mergeLo'_parts];refine cu (wD ?_);refine cu (qA (getElem?_pos b 0 v) ?_);have C:Mg lb a.toList b.toList (#[]:Array bp).toList (a.toList.drop 0) (b.toList.drop 0):=⟨H.sa,H.sb,Ae _⟩;have m:Mg lb a.toList b.toList (#[b[0]]:Array bp).toList (a.toList.drop 0) (b.toList.drop 1):=kCV H L v C first;by_cases l:1=b.size
 ·rw[if_pos (by simpa using l)]
  exact dj (q _ _ (Sm.refl _) (kGZ m l))
 rw[if_neg (by simpa using l)];by_cases n:0+1=a.size
 ·rw[if_pos (by simpa using n)]
  exact dj (q _ _ (Sm.refl _) (bP H m n))
 rw[if_neg (by simpa using n)];refine cu (AE ?_);refine cu (vw (jc (I:=λ x c st'=>Sm st st'/\Yd lb a b (1+x) c) (Q:=λ c st'=>Sm st st'/\∃ r,c.1=some r/\Res lb a.toList b.toList r.toList) ?step ?fin ⟨Sm.refl _,rfl,⟨m,by show 0+1<a.size;omega,by show 1<b.size;omega,rfl⟩,bg _⟩) ?post)
 case post =>
  rintro⟨r,c⟩ st' ⟨f,N,e,h⟩;cases e
  exact dj (q _ _ f h)
 case fin =>
  rintro⟨r,o,i,j,g⟩ st' ⟨f,e,⟨_,h1,u,B⟩,le⟩;have B:o.size=i+j:=B;have le:1+max 0 (a.size+b.size)<=o.size:=le;have h1:i+1<a.size:=h1;have u:j<b.size:=u;omega
 case step =>
  rintro x ⟨r,o,i,j,g⟩ st' _ _ ⟨f,e,J,le⟩
  cases(show r=none from e)
  have le:1+x<=o.size:=le;exact kRI H (f.1.trans G) J (λ r c p d h=>⟨⟨d.1.trans f.1,d.2.1.trans f.2.1,d.2.2.1.trans f.2.2.1,d.2.2.2.trans f.2.2.2⟩,r,rfl,h⟩) λ c p d y=>⟨⟨d.1.trans f.1,d.2.1.trans f.2.1,d.2.2.1.trans f.2.2.1,d.2.2.2.trans f.2.2.2⟩,y.mono (by omega)⟩
end
end Srt
local macro_rules | `(tactic| walk_at "sort_open mergeHi")=>`(tactic| delta $(Lean.mkIdent (Lean.mkPrivateNameCore `PySem.Builtin.List.W1All `PySem.Builtin.mergeHi)):ident)
namespace Srt
set_option autoImplicit false
open PySem PyProof.Rows
def lH:Array bp->Array bp->StateT eP Sem (Array bp):=sortPriv% PySem.Builtin.mergeHi
abbrev KS:=Option (Array bp)×Nat×Nat×Array bp×Nat×Nat×Nat
abbrev KS1:=Option (Array bp)×Nat×Nat×Array bp×Nat×Nat
abbrev KS0:=Option (Array bp)×Nat×Nat×Array bp×Nat
section
variable (a b:Array bp)
def hDn(d f:Nat)(c:Array bp):Array bp:=a.extract 0 d++b.extract 0 f++c.reverse
def hFb(d f:Nat)(c:Array bp):Array bp:=b.extract 0 f++a.extract 0 d++c.reverse
def hC(d f:Nat)(c:Array bp)(g k h:Nat):StateT eP Sem (ForInStep KS):=do
 let x <-elem' a (d-1)
 if(d-1 == 0)=true then pure (.done (some (hDn a b (d-1) f (c.push x)),d-1,f,c.push x,g,k,h))
 else if(decide (k<7) && decide (h<7))=true then pure (.done (none,d-1,f,c.push x,g,k,h)) else pure (.yield (none,d-1,f,c.push x,g,k,h))
def hB(f d:Nat)(c:Array bp)(g k ob:Nat):StateT eP Sem (ForInStep KS):=do
 let y <-elem' b (d-1)
 if(d-1 == 1)=true then pure (.done (some (hFb a b f (d-1) (c.push y)),f,d-1,c.push y,g,k,ob))
 else do
  let x <-elem' a (f-1)
  let r <-vB true x b 0 (d-1) (d-1-1)
  match r with
  | some p =>
   if d-1-p>0 then
    if(p == 1)=true then pure (.done (some (hFb a b f p (c.push y++(b.extract p (d-1)).reverse)),f,p,c.push y++(b.extract p (d-1)).reverse,g,k,d-1-p))
    else if(p == 0)=true then pure (.done (some (hDn a b f p (c.push y++(b.extract p (d-1)).reverse)),f,p,c.push y++(b.extract p (d-1)).reverse,g,k,d-1-p))
    else hC a b f p (c.push y++(b.extract p (d-1)).reverse) g k (d-1-p)
   else hC a b f (d-1) (c.push y) g k (d-1-p)
  | x=>pure (.done (some (hDn a b f (d-1) (c.push y)),f,d-1,c.push y,g,k,ob))
def hA(d f:Nat)(c:Array bp)(g h ob:Nat):StateT eP Sem (ForInStep KS):=do
 xK g
 let y <-elem' b (f-1)
 let r <-vB false y a 0 d (d-1)
 match r with
 | some p =>
  if d-p>0 then
   if(p == 0)=true then pure (.done (some (hDn a b p f (c++(a.extract p d).reverse)),p,f,c++(a.extract p d).reverse,g,d-p,ob))
   else hB a b p f (c++(a.extract p d).reverse) g (d-p) ob
  else hB a b d f c g (d-p) ob
 | x=>pure (.done (some (hDn a b d f c),d,f,c,g,h,ob))
def h1(mg:Nat)(c:KS1):StateT eP Sem (ForInStep KS1):=do
 let y <-elem' b (c.2.2.1-1)
 let x <-elem' a (c.2.1-1)
 let r <-lt' y x
 match r with
 | some aw =>
  if aw=true then do
   let x <-elem' a (c.2.1-1)
   if(c.2.1-1 == 0)=true then pure (.done (some (hDn a b (c.2.1-1) c.2.2.1 (c.2.2.2.1.push x)),c.2.1-1,c.2.2.1,c.2.2.2.1.push x,c.2.2.2.2.1+1,0))
   else if c.2.2.2.2.1+1 >= mg then pure (.done (none,c.2.1-1,c.2.2.1,c.2.2.2.1.push x,c.2.2.2.2.1+1,0))
   else pure (.yield (none,c.2.1-1,c.2.2.1,c.2.2.2.1.push x,c.2.2.2.2.1+1,0))
  else do
   let y <-elem' b (c.2.2.1-1)
   if(c.2.2.1-1 == 1)=true then pure (.done (some (hFb a b c.2.1 (c.2.2.1-1) (c.2.2.2.1.push y)),c.2.1,c.2.2.1-1,c.2.2.2.1.push y,0,c.2.2.2.2.2+1))
   else if c.2.2.2.2.2+1 >= mg then pure (.done (none,c.2.1,c.2.2.1-1,c.2.2.2.1.push y,0,c.2.2.2.2.2+1))
   else pure (.yield (none,c.2.1,c.2.2.1-1,c.2.2.2.1.push y,0,c.2.2.2.2.2+1))
 | x=>pure (.done (some (hDn a b c.2.1 c.2.2.1 c.2.2.2.1),c.2.1,c.2.2.1,c.2.2.2.1,c.2.2.2.2.1,c.2.2.2.2.2))
def h0(c:KS0):StateT eP Sem (ForInStep KS0):=do
 let d <-forIn [:a.size+b.size] ((none,c.2.1,c.2.2.1,c.2.2.2.1,0,0):KS1) λ x d=>h1 a b c.2.2.2.2 d
 match d.1 with
 | some r=>pure (.done (some r,d.2.1,d.2.2.1,d.2.2.2.1,c.2.2.2.2))
 | none=>do
  liftM (rule "list.sort.gallop")
  let f <-forIn [:a.size+b.size] ((none,d.2.1,d.2.2.1,d.2.2.2.1,c.2.2.2.2+1,d.2.2.2.2.1,d.2.2.2.2.2):KS) λ x f =>
   if f.2.2.2.2.1>1 then hA a b f.2.1 f.2.2.1 f.2.2.2.1 (f.2.2.2.2.1-1) f.2.2.2.2.2.1 f.2.2.2.2.2.2 else hA a b f.2.1 f.2.2.1 f.2.2.2.1 f.2.2.2.2.1 f.2.2.2.2.2.1 f.2.2.2.2.2.2
  match f.1 with
  | some r=>pure (.done (some r,f.2.1,f.2.2.1,f.2.2.2.1,f.2.2.2.2.1))
  | none=>do
   xK (f.2.2.2.2.1+1)
   pure (.yield (none,f.2.1,f.2.2.1,f.2.2.2.1,f.2.2.2.2.1+1))
def mergeHi'_parts:lH a b=(do
  liftM (rule "list.sort.merge-hi")
  let y <-elem' a (a.size-1)
  if(a.size-1 == 0)=true then pure (hDn a b (a.size-1) b.size #[y])
  else if(b.size == 1)=true then pure (hFb a b (a.size-1) b.size #[y])
  else do
   let st <-get
   let c <-forIn [:a.size+b.size] ((none,a.size-1,b.size,#[y],gallopOf st):KS0) λ x c=>h0 a b c
   match c.1 with
   | some r=>pure r
   | none=>unsupported "internal:list.sort.merge-bound"):=by
 unfold lH
 walk_at "sort_open mergeHi"
 dsimp only;refine congrArg _ (funext λ _=>?_);refine congrArg _ (funext λ y=>?_);refine ite_congr rfl (λ _=>rfl) (λ _=>ite_congr rfl (λ _=>rfl) (λ _=>?_));refine congrArg _ (funext λ st=>?_);refine congr (congrArg _ (congrArg _ (funext λ x=>funext λ c=>?_))) (funext λ c=>by cases c.1<;>rfl);unfold h0;refine congr (congrArg _ (congrArg _ (funext λ x=>funext λ d=>?_))) (funext λ d=>?_)
 ·unfold h1
  refine congrArg _ (funext λ _=>?_);refine congrArg _ (funext λ _=>?_);refine congrArg _ (funext λ r=>?_);cases r<;>rfl
 ·cases d.1 with
  | some r=>rfl
  | none =>
   dsimp only;refine congrArg _ (funext λ _=>?_);refine congr (congrArg _ (congrArg _ (funext λ x=>funext λ f=>?_))) (funext λ f=>by cases f.1<;>rfl);refine ite_congr rfl (λ _=>?_) (λ _=>?_)
   all_goals
    unfold hA;refine congrArg _ (funext λ _=>?_);refine congrArg _ (funext λ y=>?_);refine congrArg _ (funext λ r=>?_)
    cases r with
    | none=>rfl
    | some k =>
     dsimp only;refine ite_congr rfl (λ _=>ite_congr rfl (λ _=>rfl) (λ _=>?_)) (λ _=>?_)
     all_goals
      unfold hB;refine congrArg _ (funext λ y=>?_);refine ite_congr rfl (λ _=>rfl) (λ _=>?_);refine congrArg _ (funext λ x=>?_);refine congrArg _ (funext λ r=>?_);cases r<;>rfl
end
section
variable {α:Type} {lb:α->α->Bool}
structure Mh(lb:α->α->Bool)(A B:List α)(w ra rb:List α):Prop where
 sa:qZ lb (ra++w)
 sb:qZ lb (rb++w)
 pm:(ra++(rb++w)).Perm (A++B)
def Mh.moveA{A B w c d b:List α}(h:Mh lb A B w (d++c) b)(i:∀ x∈b,∀ y∈c,le lb x y):Mh lb A B (c++w) d b:=by
 refine⟨by rw[<-dr];exact h.sa,?_,?_⟩
 ·have h1:=eB.mp h.sa
  have g:=eB.mp h.sb;have l:=eB.mp h1.1;refine eB.mpr ⟨g.1,eB.mpr ⟨l.2.1,h1.2.1,λ x a y f=>h1.2.2 x (cw _ a) y f⟩,λ x a y f=>?_⟩;rcases bu.mp f with z | z
  ·exact i x a y z
  ·exact g.2.2 x a y z
 ·refine vh ?_ h.pm
  rw[dr];refine yg d ?_;rw[<-dr,<-dr];exact xu w ju
def Mh.swap{A B w a b:List α}(h:Mh lb A B w a b):Mh lb B A w b a:=by
 refine⟨h.sb,h.sa,?_⟩;refine vh ?_ (h.pm.trans ju);rw[<-dr,<-dr];exact xu w ju
def Mh.moveB{A B w c a b:List α}(h:Mh lb A B w a (b++c))(d:∀ x∈a,∀ y∈c,le lb x y):Mh lb A B (c++w) a b:=(h.swap.moveA d).swap
def fP{a:Array α}{n:Nat}(h0:0<n)(h:n<=a.size):a.toList.take n=a.toList.take (n-1)++[a[n-1]'(by omega)]:=by
 obtain⟨m,rfl⟩ : ∃ m,n=m+1:=⟨n-1,by omega⟩;rw[List.take_succ_eq_append_getElem (by simp;omega)];simp
def bO(a:Array α)(n:Nat):(a.extract 0 n).toList=a.toList.take n:=by
 rw[wa,qq];simp
def kCS(a:Array α){p n:Nat}(h:p<=n):a.toList.take n=a.toList.take p++(a.extract p n).toList:=by
 rw[wa,qq,<-GB]
 conv=>lhs;rw[<-gi p (a.toList.take n)]
 rw[GC,kh h]
end
section
variable {M:yy} {A:fb} {E:ao->av->Prop} {s:av} {lb:bp->bp->Bool} {D:bp->Prop} {kd:mj} {a b:Array bp}
structure Hz(M:yy)(A:fb)(E:ao->av->Prop)(s:av)(lb:bp->bp->Bool)(D:bp->Prop)(kd:mj)(a b:Array bp):Prop where
 W:Wk lb
 L:vM M A E s lb D kd
 da:∀ x∈a.toList,D x
 db:∀ x∈b.toList,D x
 sa:qZ lb a.toList
 sb:qZ lb b.toList
 first:∀(h:0<b.size),∀ y∈a.toList,le lb b[0] y
abbrev MM(lb:bp->bp->Bool)(a b:Array bp)(d f:Nat)(c:Array bp):Prop:=Mh lb a.toList b.toList c.toList.reverse (a.toList.take d) (b.toList.take f)
def MH(lb:bp->bp->Bool)(a b:Array bp)(d f:Nat)(c:Array bp):Prop:=MM lb a b d f c/\0<d/\d<=a.size/\1<f/\f<=b.size/\c.size+d+f=a.size+b.size
def Zd(lb:bp->bp->Bool)(a b:Array bp)(n:Nat){d:Type}(c:Option (Array bp)×Nat×Nat×Array bp×d):Prop:=c.1=none/\MH lb a b c.2.1 c.2.2.1 c.2.2.2.1/\n<=c.2.2.2.1.size
def En(lb:bp->bp->Bool)(a b:Array bp)(n:Nat){d:Type}(c:Option (Array bp)×Nat×Nat×Array bp×d):Prop:=(∃ r,c.1=some r/\Res lb a.toList b.toList r.toList)\/Zd lb a b n c
def TT(lb:bp->bp->Bool)(a b:Array bp)(n:Nat){d:Type}:ForInStep (Option (Array bp)×Nat×Nat×Array bp×d)->Prop
 | .done c=>En lb a b n c
 | .yield c=>Zd lb a b n c
def Zd.mono{n d:Nat}{f:Type}{c:Option (Array bp)×Nat×Nat×Array bp×f}(h:Zd lb a b n c)(k:d<=n):Zd lb a b d c:=⟨h.1,h.2.1,fz k h.2.2⟩
theorem En.mono{n d:Nat}{f:Type}{c:Option (Array bp)×Nat×Nat×Array bp×f}(h:En lb a b n c)(k:d<=n):En lb a b d c:=h.imp id λ z=>z.mono k
def bE{a:Array bp}{n:Nat}{x:bp}(h:x∈a.toList.take n):∃ j,∃ hj:j<a.size,j<n/\x=a[j]:=by
 have:=zQ (a:=a) (i:=0) (k:=n) (x:=x) (by simpa using h);obtain⟨j,hj,b,e⟩:=this;exact⟨j,by omega,b,by simpa using e⟩
def qX{a:Array bp}{p n:Nat}{x:bp}(h:x∈(a.extract p n).toList):∃ j,∃ hj:j<a.size,p<=j/\j<n/\x=a[j]:=by
 rw[wa,qq]at h;obtain⟨j,hj,b,e⟩:=zQ h;exact⟨p+j,hj,by omega,by omega,e⟩
def kBO(d f:Nat)(c:Array bp):(hDn a b d f c).toList=a.toList.take d++(b.toList.take f++c.toList.reverse):=by
 unfold hDn;rw[gm,gm,bO,bO,yn,dr]
def kNM(d f:Nat)(c:Array bp):(hFb a b d f c).toList=b.toList.take f++(a.toList.take d++c.toList.reverse):=by
 unfold hFb;rw[gm,gm,bO,bO,yn,dr]
def sP{d f:Nat}{c:Array bp}(m:MM lb a b d f c)(e:d=0):Res lb a.toList b.toList (hDn a b d f c).toList:=by
 subst e;rw[kBO];exact⟨by simpa using m.sb,m.pm⟩
def kTN{f d:Nat}{c:Array bp}(m:MM lb a b f d c)(e:d=0):Res lb a.toList b.toList (hDn a b f d c).toList:=by
 subst e;rw[kBO];exact⟨by simpa using m.sa,m.pm⟩
def sO(H:Hz M A E s lb D kd a b){h d:Nat}{c:Array bp}(m:MM lb a b h d c)(e:d=1)(i:0<b.size):Res lb a.toList b.toList (hFb a b h d c).toList:=by
 subst e;rw[kNM];have t:b.toList.take 1=[b[0]]:=by rw[fP (by decide) i];simp
 have f:=m.sb;rw[t]at f ⊢;refine⟨?_,?_⟩
 ·refine eB.mpr ⟨om _ _,m.sa,λ x l y n=>?_⟩
  have:x=b[0]:=by simpa using l
  subst this;rcases bu.mp n with z | z
  ·exact H.first i y (wc z)
  ·exact(eB.mp f).2.2 _ (by simp) y z
 ·have g:=m.pm
  rw[t]at g;refine vh ?_ g;rw[<-dr,<-dr];exact xu _ ju
def kLA(H:Hz M A E s lb D kd a b){f g:Nat}{d:Array bp}(m:MM lb a b f g d)(h:0<f)(n:f<=a.size)(c:∀ x∈b.toList.take g,le lb x (a[f-1]'(by omega))):MM lb a b (f-1) g (d.push (a[f-1]'(by omega))):=by
 have m:Mh lb a.toList b.toList d.toList.reverse (a.toList.take f) (b.toList.take g):=m;rw[fP h n]at m;show Mh lb _ _ (d.push _).toList.reverse _ _;rw[wb,yo];refine m.moveA λ x i y l=>?_;have:y=a[f-1]'(by omega):=by simpa using l
 rw[this];exact c x i
def kQR(H:Hz M A E s lb D kd a b){g f:Nat}{d:Array bp}(m:MM lb a b g f d)(h:0<f)(n:f<=b.size)(c:∀ x∈a.toList.take g,le lb x (b[f-1]'(by omega))):MM lb a b g (f-1) (d.push (b[f-1]'(by omega))):=by
 have m:Mh lb a.toList b.toList d.toList.reverse (a.toList.take g) (b.toList.take f):=m;rw[fP h n]at m;show Mh lb _ _ (d.push _).toList.reverse _ _;rw[wb,yo];refine m.moveB λ x i y l=>?_;have:y=b[f-1]'(by omega):=by simpa using l
 rw[this];exact c x i
def kVK{f g p:Nat}{d:Array bp}(m:MM lb a b f g d)(hp:p<=f)(c:∀ x∈b.toList.take g,∀ y∈(a.extract p f).toList,le lb x y):MM lb a b p g (d++(a.extract p f).reverse):=by
 have m:Mh lb a.toList b.toList d.toList.reverse (a.toList.take f) (b.toList.take g):=m;rw[kCS a hp]at m;show Mh lb _ _ (d++_).toList.reverse _ _;rw[gm,yn,yo,Dd];exact m.moveA c
def kVJ{g f p:Nat}{d:Array bp}(m:MM lb a b g f d)(hp:p<=f)(c:∀ x∈a.toList.take g,∀ y∈(b.extract p f).toList,le lb x y):MM lb a b g p (d++(b.extract p f).reverse):=by
 have m:Mh lb a.toList b.toList d.toList.reverse (a.toList.take g) (b.toList.take f):=m;rw[kCS b hp]at m;show Mh lb _ _ (d++_).toList.reverse _ _;rw[gm,yn,yo,Dd];exact m.moveB c
def kHU(W:Wk lb){a:Array bp}(d:qZ lb a.toList){n:Nat}{y:bp}(f:0<n)(i:n<=a.size)(c:le lb (a[n-1]'(by omega)) y):∀ x∈a.toList.take n,le lb x y:=λ x b=>by
 obtain⟨j,h,g,rfl⟩:=bE b;exact W.trans (zW W d (show j<=n-1 by omega) (by omega)) c
def kRK(H:Hz M A E s lb D kd a b){st:eP}(x:kindOf st=kd){d:Array bp}{g f u v mg:Nat}(h:MH lb a b g f d){Q:ForInStep KS1->eP->Prop}
  (q:∀ r,TT lb a b (d.size+1) r->Q r st):wpS M A E s (h1 a b mg (none,g,f,d,u,v)) Q st:=by
 obtain⟨m,o,l,p,n,sz⟩:=h;unfold h1;dsimp only;refine cu (qA (getElem?_pos b (f-1) (by omega)) ?_);refine cu (qA (getElem?_pos a (g-1) (by omega)) ?_);refine cu (H.L _ _ (H.db _ (by simp)) (H.da _ (by simp)) st _ x ?_)
 cases e:lb (b[f-1]'(by omega)) (a[g-1]'(by omega))
 case true =>
  simp only[if_true];refine cu (qA (getElem?_pos a (g-1) (by omega)) ?_);have i:=kLA H m o l (kHU H.W H.sb (by omega) n (H.W.of_lt e));by_cases c:g-1=0
  ·rw[if_pos (by simpa using c)]
   exact dj (q _ (.inl ⟨_,rfl,sP i c⟩))
  ·rw[if_neg (by simpa using c)]
   have z:Zd lb a b (d.size+1) (none,g-1,f,d.push (a[g-1]'(by omega)),(u+1,0)):=⟨rfl,⟨i,by show 0<g-1;omega,by show g-1<=a.size;omega,p,n,by show(d.push _).size+(g-1)+f=_;rw[iX];omega⟩,by show d.size+1<=(d.push _).size;rw[iX];omega⟩
   split
   ·exact dj (q _ (.inr z))
   ·exact dj (q _ z)
 case false =>
  simp only[eO,if_false];refine cu (qA (getElem?_pos b (f-1) (by omega)) ?_);have i:=kQR H m (by omega) n (kHU H.W H.sa o l e);by_cases c:f-1=1
  ·rw[if_pos (by simpa using c)]
   exact dj (q _ (.inl ⟨_,rfl,sO H i c (by omega)⟩))
  ·rw[if_neg (by simpa using c)]
   have z:Zd lb a b (d.size+1) (none,g,f-1,d.push (b[f-1]'(by omega)),(0,v+1)):=⟨rfl,⟨i,o,l,by show 1<f-1;omega,by show f-1<=b.size;omega,by show(d.push _).size+g+(f-1)=_;rw[iX];omega⟩,by show d.size+1<=(d.push _).size;rw[iX];omega⟩
   split
   ·exact dj (q _ (.inr z))
   ·exact dj (q _ z)
def kKC(H:Hz M A E s lb D kd a b){st:eP}{d:Array bp}{f h g k l n:Nat}(m:MM lb a b f h d)(v:0<f)(o:f<=a.size)(p:1<h)(u:h<=b.size)(sz:d.size+f+h=a.size+b.size)(y:n<=d.size+1)
  (c:∀ x∈b.toList.take h,le lb x (a[f-1]'(by omega))) {Q:ForInStep KS->eP->Prop} (q:∀ r,TT lb a b n r->Q r st):wpS M A E s (hC a b f h d g k l) Q st:=by
 unfold hC;refine cu (qA (getElem?_pos a (f-1) (by omega)) ?_);have i:=kLA H m v o c;by_cases e:f-1=0
 ·rw[if_pos (by simpa using e)]
  exact dj (q _ (.inl ⟨_,rfl,sP i e⟩))
 ·rw[if_neg (by simpa using e)]
  have z:Zd lb a b n (none,f-1,h,d.push (a[f-1]'(by omega)),(g,k,l)):=⟨rfl,⟨i,by show 0<f-1;omega,by show f-1<=a.size;omega,p,u,by show(d.push _).size+(f-1)+h=_;rw[iX];omega⟩,by show n<=(d.push _).size;rw[iX];omega⟩
  split
  ·exact dj (q _ (.inr z))
  ·exact dj (q _ z)
def kKD(H:Hz M A E s lb D kd a b){st:eP}(hk:kindOf st=kd){d:Array bp}{l f g k ob n:Nat}(h:MH lb a b l f d)(hn:n<=d.size+1)
  (c:∀(ha:l-1<a.size)(hb:f-1<b.size),le lb a[l-1] b[f-1]) {Q:ForInStep KS->eP->Prop} (q:∀ r,TT lb a b n r->Q r st):wpS M A E s (hB a b l f d g k ob) Q st:=by
 obtain⟨m,u,o,b1,Z,sz⟩:=h;unfold hB;refine cu (qA (getElem?_pos b (f-1) (by omega)) ?_);have J:=kQR H m (by omega) Z (kHU H.W H.sa u o (c (by omega) (by omega)));have N:(d.push (b[f-1]'(by omega))).size+l+(f-1)=a.size+b.size:=by rw[iX];omega
 have gr:d.size+1=(d.push (b[f-1]'(by omega))).size:=by rw[iX]
 by_cases e:f-1=1
 ·rw[if_pos (by simpa using e)]
  exact dj (q _ (.inl ⟨_,rfl,sO H J e (by omega)⟩))
 ·rw[if_neg (by simpa using e)]
  refine cu (qA (getElem?_pos a (l-1) (by omega)) ?_);refine cu (uG H.W H.L hk (H.da _ (by simp)) H.db (by omega) (λ i j hi O=>zW H.W H.sb (by omega) (by omega)) (by omega) λ p kn S U=>?_);simp only[if_true,Ed]at S U
  have rest:∀ x∈b.toList.take p,le lb x (a[l-1]'(by omega)):=λ x G=>by
   obtain⟨j,O,Y,rfl⟩:=bE G;exact H.W.of_lt (S j Y (by omega))
  dsimp only;by_cases T:f-1-p>0
  ·rw[if_pos T]
   have I:=kVJ (p:=p) J (by omega) λ x G y hy=>by
    obtain⟨j,O,pj,jn,rfl⟩:=qX hy;exact kHU H.W H.sa u o (U j pj jn) x G
   have C:(d.push (b[f-1]'(by omega))++(b.extract p (f-1)).reverse).size+l+p=a.size+b.size:=by
    rw[yl,ED,jo];omega
   by_cases v:p=1
   ·rw[if_pos (by simpa using v)]
    exact dj (q _ (.inl ⟨_,rfl,sO H I v (by omega)⟩))
   ·rw[if_neg (by simpa using v)]
    by_cases B:p=0
    ·rw[if_pos (by simpa using B)]
     exact dj (q _ (.inl ⟨_,rfl,kTN I B⟩))
    ·rw[if_neg (by simpa using B)]
     exact kKC H I u o (by omega) (by omega) C (by omega) rest q
  ·rw[if_neg T]
   have X:p=f-1:=by omega
   rw[X]at rest;exact kKC H J u o (by omega) (by omega) N (by omega) rest q
def kRJ(H:Hz M A E s lb D kd a b){st:eP}(l:kindOf st=kd){c:Array bp}{d f g X ob n:Nat}(h:MH lb a b d f c)(Y:n<=c.size+1){Q:ForInStep KS->eP->Prop}
  (q:∀ r,TT lb a b n r->Q r (zY st g)):wpS M A E s (hA a b d f c g X ob) Q st:=by
 obtain⟨m,a1,a2,O,B,sz⟩:=id h;unfold hA;rw[setMinGallop'_eq];refine cu (ou ?_);refine cu (qA (getElem?_pos b (f-1) (by omega)) ?_);refine cu (uG (st:=zY st g) H.W H.L l (H.db _ (by simp)) H.da (by omega) (λ i j hi J=>zW H.W H.sa (by omega) (by omega)) (by omega) λ p kn o G=>?_);simp only[eO,if_false,Ed]at o G;dsimp only;by_cases C:d-p>0
 ·rw[if_pos C]
  have I:=kVK (p:=p) m (by omega) λ x T y N=>by
   obtain⟨j,J,S,U,rfl⟩:=qX N;exact kHU H.W H.sb (by omega) B (H.W.of_lt (G j S U)) x T
  have v:(c++(a.extract p d).reverse).size+p+f=a.size+b.size:=by
   rw[yl,ED,jo];omega
  by_cases u:p=0
  ·rw[if_pos (by simpa using u)]
   exact dj (q _ (.inl ⟨_,rfl,sP I u⟩))
  ·rw[if_neg (by simpa using u)]
   exact kKD (st:=zY st g) H l ⟨I,by omega,by omega,O,B,v⟩ (by omega) (λ _ _=>o (p-1) (by omega) (by omega)) q
 ·rw[if_neg C]
  have Z:p=d:=by omega
  exact kKD (st:=zY st g) H l h Y (λ _ _=>o (d-1) (by omega) (by omega)) q
def kRL(H:Hz M A E s lb D kd a b){st:eP}(N:kindOf st=kd){l:Array bp}{O L g:Nat}(h:MH lb a b O L l){Q:ForInStep KS0->eP->Prop}
  (S:∀ r c st',Sm st st'->Res lb a.toList b.toList r.toList->Q (.done (some r,c)) st') (X:∀ c st',Sm st st'->Zd lb a b (l.size+1) c->Q (.yield c) st'):wpS M A E s (h0 a b (none,O,L,l,g)) Q st:=by
 unfold h0;dsimp only;have U:0<a.size+b.size:=by have:=h.2.2.1;have:=h.2.1;omega
 refine cu (vw (jc (I:=λ x d st'=>st'=st/\Zd lb a b (l.size+x) d) (Q:=λ d st'=>st'=st/\En lb a b (l.size+1) d) ?step ?fin ⟨rfl,rfl,h,bg _⟩) ?post)
 case fin =>
  rintro d st' ⟨rfl,y⟩;exact⟨rfl,.inr (y.mono (by omega))⟩
 case step =>
  rintro x ⟨r,i,j,o,u,v⟩ st' _ _ ⟨rfl,e,G,le⟩
  cases(show r=none from e)
  have le:l.size+x<=o.size:=le;refine kRK H N G λ r B=>?_
  cases r with
  | done c=>exact⟨rfl,En.mono B (by omega)⟩
  | yield c=>exact⟨rfl,Zd.mono B (by omega)⟩
 case post =>
  rintro⟨r,i,j,o,u,v⟩ st' ⟨rfl,C⟩
  cases r with
  | some r =>
   dsimp only;rcases C with⟨J,e,p⟩ | ⟨e,_⟩
   ·cases e
    exact dj (S _ _ _ (Sm.refl _) p)
   ·cases e
  | none =>
   dsimp only
   have y:Zd lb a b (l.size+1) (none,i,j,o,(u,v)):=by
    rcases C with⟨J,e,p⟩ | y
    ·cases e
    ·exact y
   refine cu (wD ?_);refine cu (vw (jc (I:=λ x f m=>Sm st' m/\Zd lb a b (l.size+1) f) (Q:=λ f m=>Sm st' m/\En lb a b (l.size+1) f) ?step2 ?fin2 ⟨Sm.refl _,y⟩) ?post2)
   case fin2 =>
    rintro f m ⟨q,y⟩;exact⟨q,.inr y⟩
   case step2 =>
    rintro x ⟨r,i,j,o,T,u,v⟩ m _ _ ⟨q,e,G,le⟩
    cases(show r=none from e)
    have le:l.size+1<=o.size:=le;dsimp only
    split
    all_goals
     refine kRJ (n:=l.size+1) H (q.1.trans N) G (by omega) λ r B=>?_
     cases r with
     | done c=>exact⟨q.gal _,B⟩
     | yield c=>exact⟨q.gal _,B⟩
   case post2 =>
    rintro⟨r,i,j,o,T,u,v⟩ m ⟨q,C⟩
    cases r with
    | some r =>
     dsimp only;rcases C with⟨J,e,p⟩ | ⟨e,_⟩
     ·cases e
      exact dj (S _ _ _ q p)
     ·cases e
    | none =>
     dsimp only;rcases C with⟨J,e,p⟩ | y
     ·cases e
     ·rw[setMinGallop'_eq]
      exact cu (ou (dj (X _ _ (q.gal _) y)))
def tH(H:Hz M A E s lb D kd a b){st:eP}(C:kindOf st=kd)(N:0<a.size)(u:0<b.size)(last:le lb (b[b.size-1]'(by omega)) (a[a.size-1]'(by omega))){Q:Array bp->eP->Prop}
  (q:∀ r st',Sm st st'->Res lb a.toList b.toList r.toList->Q r st'):wpS M A E s (lH a b) Q st:=by
 rw[mergeHi'_parts];refine cu (wD ?_);refine cu (qA (getElem?_pos a (a.size-1) (by omega)) ?_);have J:a.toList.take a.size=a.toList:=ka (by simp);have L:b.toList.take b.size=b.toList:=ka (by simp)
 have B:MM lb a b a.size b.size #[]:=by
  show Mh lb _ _ (#[]:Array bp).toList.reverse _ _;rw[J,L];exact⟨by simpa using H.sa,by simpa using H.sb,by simp⟩
 have m:MM lb a b (a.size-1) b.size #[a[a.size-1]'(by omega)]:=kLA H B N (bg _) (kHU H.W H.sb u (bg _) last);by_cases l:a.size-1=0
 ·rw[if_pos (by simpa using l)]
  exact dj (q _ _ (Sm.refl _) (sP m l))
 rw[if_neg (by simpa using l)];by_cases n:b.size=1
 ·rw[if_pos (by simpa using n)]
  exact dj (q _ _ (Sm.refl _) (sO H m n u))
 rw[if_neg (by simpa using n)];refine cu (AE ?_);refine cu (vw (jc (I:=λ x c st'=>Sm st st'/\Zd lb a b (1+x) c) (Q:=λ c st'=>Sm st st'/\∃ r,c.1=some r/\Res lb a.toList b.toList r.toList) ?step ?fin ⟨Sm.refl _,rfl,⟨m,by show 0<a.size-1;omega,by show a.size-1<=a.size;omega,by show 1<b.size;omega,bg _,by show 1+(a.size-1)+b.size=_;omega⟩,bg _⟩) ?post)
 case post =>
  rintro⟨r,c⟩ st' ⟨f,U,e,h⟩;cases e
  exact dj (q _ _ f h)
 case fin =>
  rintro⟨r,i,j,o,g⟩ st' ⟨f,e,⟨_,h1,S,T,O,v⟩,le⟩;have v:o.size+i+j=a.size+b.size:=v;have le:1+max 0 (a.size+b.size)<=o.size:=le;omega
 case step =>
  rintro x ⟨r,i,j,o,g⟩ st' _ _ ⟨f,e,G,le⟩
  cases(show r=none from e)
  have le:1+x<=o.size:=le;exact kRL H (f.1.trans C) G (λ r c p d h=>⟨⟨d.1.trans f.1,d.2.1.trans f.2.1,d.2.2.1.trans f.2.2.1,d.2.2.2.trans f.2.2.2⟩,r,rfl,h⟩) λ c p d y=>⟨⟨d.1.trans f.1,d.2.1.trans f.2.1,d.2.2.1.trans f.2.2.1,d.2.2.2.trans f.2.2.2⟩,y.mono (by omega)⟩
end
section
variable {α:Type} {lb:α->α->Bool}
def kID(l:List α)(i:Nat)(x:α)(h:i<l.length):l.set i x=l.take i++x::l.drop (i+1):=by
 rw[List.set_eq_take_append_cons_drop,if_pos h]
theorem wr:∀(xs:List α)(k:Nat)(arr:Array α)(lo:Nat),lo+k+xs.length<=arr.size->((xs.zipIdx k).foldl (λ a (p:α×Nat)=>a.setIfInBounds (lo+p.2) p.1) arr).toList=arr.toList.take (lo+k)++(xs++arr.toList.drop (lo+k+xs.length))
 | [],k,arr,lo,h=>by simp
 | x::xs,k,arr,lo,h=>by
  rw[eh]at h;rw[Aw,ux];have b:=wr xs (k+1) (arr.setIfInBounds (lo+k) x) lo (by rw[CU];omega);rw[b,Bu,kID _ _ _ (by simp;omega)];have e:(arr.toList.take (lo+k)).length=lo+k:=by simp;omega
  have c:(arr.toList.take (lo+k)++x::arr.toList.drop (lo+k+1)).take (lo+(k+1))=arr.toList.take (lo+k)++[x]:=by
   rw[List.take_append,e,show lo+(k+1)-(lo+k)=1 by omega,ka (by rw[e];omega)]
   rfl
  have d:(arr.toList.take (lo+k)++x::arr.toList.drop (lo+k+1)).drop (lo+(k+1)+xs.length)=arr.toList.drop (lo+k+(x::xs).length):=by
   rw[BB,e,kr (by rw[e];omega),ub,show lo+(k+1)+xs.length-(lo+k)=xs.length+1 by omega,List.drop_succ_cons,Af,eh]
   congr 1
   omega
  rw[c,d];simp
def kJC(W:Wk lb){b d f a g:List α}(n:qZ lb (b++d))(o:qZ lb (f++a))(h1:∀ x∈b,∀ y∈f++a,le lb x y)(p:∀ x∈d,∀ y∈a,le lb x y)(r:Res lb d f g) :
  qZ lb (b++(g++a))/\(b++(g++a)).Perm ((b++d)++(f++a)):=by
 have l:=eB.mp n;have i:=eB.mp o;have mem:∀ z∈g,z∈d\/z∈f:=λ z m=>bu.mp ((r.2.mem_iff).mp m);refine⟨eB.mpr ⟨l.1,eB.mpr ⟨r.1,i.2.1,λ x c y h=>?_⟩,λ x c y h=>?_⟩,?_⟩
 ·rcases mem x c with z | z
  ·exact p x z y h
  ·exact i.2.2 x z y h
 ·rcases bu.mp h with z | z
  ·rcases mem y z with w | w
   ·exact l.2.2 x c y w
   ·exact h1 x c y (cj _ w)
  ·exact h1 x c y (cw _ z)
 ·rw[dr]
  refine yg b ?_;rw[<-dr];exact r.2.append_right a
end
end Srt
local macro_rules | `(tactic| walk_at "sort_open mergeAt")=>`(tactic| delta $(Lean.mkIdent (Lean.mkPrivateNameCore `PySem.Builtin.List.W1All `PySem.Builtin.mergeAt)):ident)
namespace Srt
set_option autoImplicit false
open PySem PyProof.Rows
section
variable {M:yy} {A:fb} {E:ao->av->Prop} {s:av} {lb:bp->bp->Bool} {D:bp->Prop} {kd:mj} {arr:Array bp}
def kOM{st a:eP}{Q:PUnit->eP->Prop}(h:Q ⟨⟩ a):wpS M A E s (set a:StateT eP Sem PUnit) Q st:=by
 unfold wpS;rw[StateT.run_set];exact az ⟨rfl,h⟩
def wN{i m j:Nat}(h1:i<=m)(a:m<=j):(arr.extract i j).toList=(arr.extract i m).toList++(arr.extract m j).toList:=by
 rw[<-gm,Array.extract_append_extract,kh h1,Nat.max_eq_right a]
def kCY(W:Wk lb){lo n:Nat}(h:qZ lb (arr.extract lo (lo+n)).toList)(a:lo+n<=arr.size)(i j:Nat)(hi:i<=j)(b:j<n):le lb (arr[lo+i]'(by omega)) (arr[lo+j]'(by omega)):=by
 have:=zW W h hi (show j<(arr.extract lo (lo+n)).size by rw[jo];omega);simpa using this
def Joined(lb:bp->bp->Bool)(arr a:Array bp)(lo n:Nat):Prop:=∃ m:List bp,a.toList=arr.toList.take lo++(m++arr.toList.drop (lo+n))/\qZ lb m/\m.Perm (arr.extract lo (lo+n)).toList
def vF{lo n:Nat}(h:lo+n<=arr.size):arr.toList=arr.toList.take lo++((arr.extract lo (lo+n)).toList++arr.toList.drop (lo+n)):=by
 rw[xF,<-Af,gi,gi]
def tI(W:Wk lb)(hL:vM M A E s lb D kd){st:eP}(I:kindOf st=kd)(hf:vy st=none)(dd:∀ x∈(di st).toList,D x){i b d f pa pb:Nat}(hi:(dh st)[i]?=some (b,d,pa))(H:(dh st)[i+1]?=some (b+d,f,pb))
  (a1:0<d) (a5:0<f) (hn:b+d+f<=(di st).size) (U:qZ lb ((di st).extract b (b+d)).toList) (sy:qZ lb ((di st).extract (b+d) (b+d+f)).toList) {Q:Bool->eP->Prop}
  (q:∀ st',kindOf st'=kd->vy st'=none->dh st'=((dh st).setIfInBounds i (b,d+f,pa)).eraseIdxIfInBounds (i+1)->Joined lb (di st) (di st') b (d+f)->Q true st'):wpS M A E s (mergeAt' i) Q st:=by
 unfold mergeAt'
 walk_at "sort_open mergeAt"
 dsimp only;refine cu (AE ?_);rw[hi,H];dsimp only;refine cu (kOM ?_);generalize hP:((dh st).setIfInBounds i (b,d+f,pa)).eraseIdxIfInBounds (i+1)=Y at *;have dx:∀{j:Nat}(h:j<(di st).size),D (di st)[j]:=λ h=>dd _ (by simp);have z1:b+d<(di st).size:=by omega
 have z2:b+d-1<(di st).size:=by omega
 have z3:b+d<=(di st).size:=by omega
 refine cu (qA (arr:=di st) (getElem?_pos (di st) (b+d) z1) ?_);refine cu (uG (arr:=di st) (st:=setPending st Y) W hL I (dx z1) dd z3 (kCY (arr:=di st) W U z3) a1 λ k kn g1 g2=>?_);simp only[eO,if_false]at g1 g2;dsimp only;have N:=wN (arr:=di st) (i:=b) (m:=b+k) (j:=b+d) (by omega) (by omega);have O:=wN (arr:=di st) (i:=b) (m:=b+d) (j:=b+d+f) (by omega) (by omega);have iy:=kCY W sy (by omega);have ix:=kCY W U (by omega);have same:∀{X:List bp},X=((di st).extract b (b+(d+f))).toList->qZ lb X->Joined lb (di st) (di st) b (d+f):=λ{X} e h=>⟨X,by rw[e];exact vF (by omega),h,by rw[e]⟩
 have low:∀ x∈((di st).extract b (b+k)).toList,∀ y∈((di st).extract (b+d) (b+d+f)).toList,le lb x y:=λ x C y g=>by
  obtain⟨j,H,S,J,rfl⟩:=qX C;obtain⟨j',a7,a8,a6,rfl⟩:=qX g;have n:=g1 (j-b) (by omega) (by omega);have e2:=iy 0 (j'-(b+d)) (by omega) (by omega);simp only[show b+(j-b)=j by omega,show b+d+(j'-(b+d))=j' by omega,Ef]at n e2;exact W.trans n e2
 by_cases e:d-k=0
 ·rw[if_pos (by simpa using e)]
  have ek:b+k=b+d:=by omega
  rw[ek]at low;exact dj (q _ I hf rfl (same (by rw[<-ye];exact O.symm) (eB.mpr ⟨U,sy,low⟩)))
 rw[if_neg (by simpa using e)];have eL:b+k+(d-k)-1=b+d-1:=by omega
 rw[eL];refine cu (qA (arr:=di st) (getElem?_pos (di st) (b+d-1) z2) ?_);refine cu (uG (arr:=di st) (st:=setPending st Y) W hL I (dx z2) dd hn iy (by omega) λ p pn f1 f2=>?_);simp only[if_true]at f1 f2;dsimp only
 have l:∀ x∈((di st).extract b (b+d)).toList,le lb x ((di st)[b+d-1]'(by omega)):=λ x C=>by
  obtain⟨j,H,S,J,rfl⟩:=qX C;have n:=ix (j-b) (d-1) (by omega) (by omega);simp only[show b+(j-b)=j by omega,show b+(d-1)=b+d-1 by omega]at n;exact n
 have high:∀ y∈((di st).extract (b+d+p) (b+d+f)).toList,le lb ((di st)[b+d-1]'(by omega)) y:=λ y g=>by
  obtain⟨j,H,S,J,rfl⟩:=qX g;have n:=f2 (j-(b+d)) (by omega) (by omega);simp only[show b+d+(j-(b+d))=j by omega]at n;exact n
 by_cases e0:p=0
 ·rw[if_pos (by simpa using e0)]
  rw[e0,Ef]at high;exact dj (q _ I hf rfl (same (by rw[<-ye];exact O.symm) (eB.mpr ⟨U,sy,λ x C y g=>W.trans (l x C) (high y g)⟩)))
 rw[if_neg (by simpa using e0)];have L:=wN (arr:=di st) (i:=b+d) (m:=b+d+p) (j:=b+d+f) (by omega) (by omega);have G:=U;rw[N]at G;have B:=sy;rw[L]at B
 have mx:∀{u v:Nat},∀ x∈((di st).extract u v).toList,D x:=λ x C=>by
  obtain⟨j,H,_,_,rfl⟩:=qX C;exact dx H
 have a0:((di st).extract (b+k) (b+d)).size=d-k:=by rw[jo];omega
 have a4:((di st).extract (b+d) (b+d+p)).size=p:=by rw[jo];omega
 have x0:∀(h:0<((di st).extract (b+k) (b+d)).size),((di st).extract (b+k) (b+d))[0]=(di st)[b+k]'(by omega):=λ h=>by simp
 have xl:∀(h:0<((di st).extract (b+k) (b+d)).size),((di st).extract (b+k) (b+d))[((di st).extract (b+k) (b+d)).size-1]'(by omega)=(di st)[b+d-1]'(by omega):=λ h=>by
  rw[Array.getElem_extract]
  congr 1
  omega
 have y0:∀(h:0<((di st).extract (b+d) (b+d+p)).size),((di st).extract (b+d) (b+d+p))[0]=(di st)[b+d]'(by omega):=λ h=>by simp
 have below:∀ y∈((di st).extract (b+d) (b+d+p)).toList,le lb y ((di st)[b+d-1]'(by omega)):=λ y g=>by
  obtain⟨j,H,S,J,rfl⟩:=qX g;have n:=f1 (j-(b+d)) (by omega) (by omega);simp only[show b+d+(j-(b+d))=j by omega]at n;exact W.of_lt n
 have o:∀ y∈((di st).extract (b+k) (b+d)).toList,le lb ((di st)[b+d]'(by omega)) y:=λ y g=>by
  obtain⟨j,H,S,J,rfl⟩:=qX g;have n:=g2 (j-b) (by omega) (by omega);simp only[show b+(j-b)=j by omega]at n;exact W.of_lt n
 have T:∀(r:Array bp)(st':eP),Sm (setPending st Y) st'->Res lb ((di st).extract (b+k) (b+d)).toList ((di st).extract (b+d) (b+d+p)).toList r.toList ->
   wpS M A E s (do modify λ s=>setArr s (r.toList.zipIdx.foldl (λ a (p,j)=>a.setIfInBounds (b+k+j) p) (di s));let __do_lift <-get;pure (vy __do_lift).isNone) Q st':=λ r st' sm Z=>by
  refine cu (ou (cu (AE ?_)));have ef:vy st'=none:=sm.2.2.2.trans hf;have ea:di st'=di st:=sm.2.1;refine dj ?_;show Q (vy st').isNone _;rw[ef];refine q _ (sm.1.trans I) ef sm.2.2.1 ?_;show Joined lb (di st) (r.toList.zipIdx.foldl (λ a (p:bp×Nat)=>a.setIfInBounds (b+k+p.2) p.1) (di st')) b (d+f);rw[ea];obtain⟨S,J⟩:=kJC W G B (by rw[<-L];exact low) (λ x C y g=>W.trans (l x (by rw[N];exact cw _ C)) (high y g)) Z;rw[<-N,<-L,<-O]at J;refine⟨_,?_,S,by rw[<-ye];exact J⟩
  have len:r.toList.length=d-k+p:=by
   have:=Z.2.length_eq;rw[cq]at this;simp only[fw,a0,a4]at this;simpa using this
  rw[wr r.toList 0 (di st) (b+k) (by rw[len];omega),len];have t1:(di st).toList.take (b+k+0)=(di st).toList.take b++((di st).extract b (b+k)).toList:=kCS (di st) (by omega)
  have t2:(di st).toList.drop (b+k+0+(d-k+p))=((di st).extract (b+d+p) (b+d+f)).toList++(di st).toList.drop (b+(d+f)):=by
   rw[show b+k+0+(d-k+p)=b+d+p by omega,show b+d+f=b+d+p+(f-p) by omega,xF,show b+(d+f)=b+d+p+(f-p) by omega];exact kEK _ _ _
  rw[t1,t2];simp only[dr]
 have a3:(di st)[b+k]'(by omega)∈((di st).extract (b+k) (b+d)).toList:=by
  rw[<-x0 (by omega),vk];exact CN _
 have a2:((di st).extract (b+d) (b+d+p))[((di st).extract (b+d) (b+d+p)).size-1]'(by omega)∈((di st).extract (b+d) (b+d+p)).toList:=by
  rw[vk];exact CN _
 by_cases c:d-k<=p
 ·rw[if_pos c]
  refine cu ?_;exact tG (st:=setPending st Y) ⟨W,hL,mx,mx,(eB.mp G).2.1,(eB.mp B).1,λ h y g=>by rw[xl h];exact below y g⟩ I (by omega) (by omega) (by rw[x0 (by omega),y0 (by omega)];exact o _ a3) T
 ·rw[if_neg c]
  refine cu ?_;exact tH (st:=setPending st Y) ⟨W,hL,mx,mx,(eB.mp G).2.1,(eB.mp B).1,λ h y g=>by rw[y0 h];exact o y g⟩ I (by omega) (by omega) (by rw[xl (by omega)];exact below _ a2) T
end
def rT{α:Type}{R:α->α->Prop}:∀{l:List α},l.length<=1->l.Pairwise R
 | [],_=>CK
 | [_],_=>om _ _
set_option autoImplicit false
open PySem PyProof.Rows
section
variable {α:Type}
def kKZ(arr:Array α){Q R:List α}{y x:α}(h:arr.toList=Q++y::x::R):(arr.swapIfInBounds (Q.length+1) Q.length).toList=Q++x::y::R:=by
 have sz:arr.size=Q.length+(R.length+2):=by
  have:=congrArg iV h;simpa using this
 have g:∀ k,arr[k]?=(Q++y::x::R)[k]?:=λ k=>by rw[<-h,md]
 refine Ag λ k=>?_;have e:=getElem?_swapIB (xs:=arr) (i:=Q.length+1) (j:=Q.length) (by omega) (by omega) k;rw[show(arr.swapIfInBounds (Q.length+1) Q.length).toList[k]?=(arr.swapIfInBounds (Q.length+1) Q.length)[k]? by simp,e,g,g,g];rcases iA k Q.length with c | c
 ·rw[if_neg (by omega),if_neg (by omega),cm c,cm c]
 ·obtain⟨j,rfl⟩ : ∃ j,k=Q.length+j:=⟨k-Q.length,by omega⟩
  rw[ck (by omega),ck (by omega),ck (by omega),ck (by omega)];rw[show Q.length+j-Q.length=j by omega,show Q.length+1-Q.length=1 by omega,Eg]
  match j with
  | 0=>simp
  | 1=>simp
  | j+2 =>
   rw[if_neg (by omega),if_neg (by omega)];simp
theorem dR:∀(b a T:List α)(x:α)(arr:Array α),arr.toList=a++(b++x::T)->(bubble arr (a.length+b.length) b.length).toList=a++(x::(b++T))
 | [],a,T,x,arr,h=>h
 | y::b,a,T,x,arr,h=>by
  have c:=dR b (a++[y]) T x arr (by rw[h];simp);rw[eh,bubble_succ];rw[cq,iR,show a.length+1+b.length=a.length+(b.length+1) by omega]at c;have e:=kKZ (bubble arr (a.length+(b.length+1)) b.length) (Q:=a) (y:=y) (x:=x) (R:=b++T) (by rw[c];simp);rw[show a.length+(b.length+1)-b.length=a.length+1 by omega,show a.length+1-1=a.length by omega];rw[e];simp
end
section
variable {M:yy} {A:fb} {E:ao->av->Prop} {s:av} {lb:bp->bp->Bool} {D:bp->Prop} {kd:mj}
def aQ(g:vM M A E s lb D kd){st:eP}(d:kindOf st=kd){i j:Nat}{x y:bp}(a:(di st)[i]?=some x)(f:(di st)[j]?=some y)(c:D x)(b:D y){Q:Option Bool->eP->Prop}(q:Q (some (lb x y)) st):wpS M A E s (ltAt' i j) Q st:=by
 rw[ltAt'_eq];refine cu (AE ?_);exact cu (qA a (cu (qA f (g _ _ c b st _ d q))))
def Sa(st a:eP):Prop:=kindOf a=kindOf st/\dh a=dh st/\vy a=vy st
def kQA(W:Wk lb){b c:List bp}{x:bp}(h:qZ lb (b++c))(h1:∀ y∈b,le lb y x)(g:∀ y∈c,le lb x y):qZ lb (b++x::c):=by
 have a:=eB.mp h;refine eB.mpr ⟨a.1,AK.mpr ⟨g,a.2.1⟩,λ y d z f=>?_⟩;rcases cy.mp f with rfl | w
 ·exact h1 y d
 ·exact a.2.2 y d z w
def kCM(W:Wk lb)(hL:vM M A E s lb D kd){st:eP}(U:kindOf st=kd)(O:∀ x∈(di st).toList,D x){lo n ok:Nat}(a0:ok<=n)(hn:lo+n<=(di st).size)(hs:qZ lb ((di st).extract lo (lo+ok)).toList){Q:Bool->eP->Prop}
  (q:∀ st',Sa st st'->Joined lb (di st) (di st') lo n->Q true st'):wpS M A E s (binarySort' lo n ok) Q st:=by
 rw[binarySort'_eq];refine cu (vw (jc (I:=λ k c st'=>c=(none,())/\Sa st st'/\Joined lb (di st) (di st') lo (min k n)) (Q:=λ c st'=>c=(none,())/\Sa st st'/\Joined lb (di st) (di st') lo n) ?step ?fin ?init) ?post)
 case post =>
  rintro c st' ⟨rfl,p,j⟩;exact dj (q st' p j)
 case fin =>
  rintro c st' ⟨rfl,p,j⟩;refine⟨rfl,p,?_⟩;rwa[show min (max (max ok 1) n) n=n by omega]at j
 case init =>
  refine⟨rfl,⟨rfl,rfl,rfl⟩,_,vF (by omega),?_,Ae _⟩;by_cases o:ok=0
  ·have:((di st).extract lo (lo+min (max ok 1) n)).toList.length<=1:=by
    rw[fw,jo];omega
   generalize((di st).extract lo (lo+min (max ok 1) n)).toList=l at *;exact rT this
  ·rwa[show min (max ok 1) n=ok by omega]
 case step =>
  rintro k c st' _ Z ⟨rfl,p,m,e,J,B⟩;rw[show min k n=k by omega]at e B;have X:m.length=k:=by rw[B.length_eq,fw,jo];omega
  have lp:((di st).toList.take lo).length=lo:=by simp;omega
  have N:lo+k<(di st).size:=by omega
  rw[drop_one N]at e
  have S:(di st')[lo+k]?=some ((di st)[lo+k]):=by
   rw[<-md,e,ck (by omega),lp,ck (by omega),X,show lo+k-lo-k=0 by omega]
   rfl
  have Y:∀ j (h:j<m.length),(di st')[lo+j]?=some m[j]:=λ j h=>by
   rw[<-md,e,ck (by omega),lp,cm (by omega),show lo+j-lo=j by omega];exact aa h
  have dx:D (di st)[lo+k]:=O _ (by simp)
  have dm:∀ j (h:j<m.length),D m[j]:=λ j h=>by
   obtain⟨i,f,_,_,ei⟩:=qX (B.mem_iff.mp (gh h));rw[ei];exact O _ (by simp)
  have mono:∀ i j (h:i<=j) (L:j<m.length),le lb (m[i]'(by omega)) m[j]:=λ i j h L=>by
   by_cases z:i=j
   ·subst z;exact W.refl _
   ·exact jl.mp J i j (by omega) L (by omega)
  refine cu (vw (jc (I:=λ x c a=>a=st'/\∃ l r,c=(none,l,r)/\l<=r/\r<=k/\r-l<=k-x/\(∀ i (h:i<m.length),i<l->le lb m[i] (di st)[lo+k])/\(∀ i (h:i<m.length),r<=i->le lb (di st)[lo+k] m[i]))
   (Q:=λ c a=>a=st'/\∃ l r,c=(none,l,r)/\l<=k/\(∀ i (h:i<m.length),i<l->le lb m[i] (di st)[lo+k])/\(∀ i (h:i<m.length),l<=i->le lb (di st)[lo+k] m[i])) ?istep ?ifin ?iinit) ?ipost)
  case iinit=>exact⟨rfl,0,k,rfl,by omega,by omega,by omega,λ i _ f=>by omega,λ i h1 h2=>by omega⟩
  case ifin =>
   rintro c a ⟨rfl,l,r,rfl,lr,H,d,u,g⟩;have:l=r:=by omega
   subst this;exact⟨rfl,l,l,rfl,H,u,g⟩
  case istep =>
   rintro x c a _ _ ⟨rfl,l,r,rfl,lr,H,d,u,g⟩;dsimp only;by_cases v:l >= r
   ·rw[if_pos v]
    have:l=r:=by omega
    subst this;exact dj ⟨rfl,l,l,rfl,H,u,g⟩
   ·rw[if_neg v]
    have G:(l+r) / 2<m.length:=by omega
    refine cu (aQ hL (p.1.trans U) S (Y _ G) dx (dm _ G) ?_)
    cases z:lb (di st)[lo+k] m[(l+r) / 2]
    case true =>
     simp only[if_true];exact dj ⟨rfl,l,_,rfl,by omega,by omega,by omega,u,λ i h f=>W.trans (W.of_lt z) (mono _ i f h)⟩
    case false =>
     simp only[eO,if_false];exact dj ⟨rfl,_,r,rfl,by omega,by omega,by omega,λ i h f=>W.trans (mono i _ (by omega) G) z,g⟩
  case ipost =>
   rintro c a ⟨rfl,l,r,rfl,lk,u,g⟩;show wpS _ _ _ _ (do moveDown' (lo+k) (lo+l);pure (ik (none,()))) _ _;rw[moveDown'_eq];refine cu (ou (dj ⟨rfl,p,?_⟩));rw[show min (k+1) n=k+1 by omega];show Joined lb (di st) (bubble (di a) (lo+k) (lo+k-(lo+l))) lo (k+1)
   have b:=dR (m.drop l) ((di st).toList.take lo++m.take l) ((di st).toList.drop (lo+k+1)) ((di st)[lo+k]) (di a) (by
    rw[e]
    conv=>lhs;rw[<-gi l m]
    simp only[dr,List.singleton_append])
   have l1:((di st).toList.take lo++m.take l).length+(m.drop l).length=lo+k:=by
    rw[cq,lp,eJ,iN];omega
   have T:(m.drop l).length=lo+k-(lo+l):=by rw[iN];omega
   rw[l1,T]at b;refine⟨m.take l++(di st)[lo+k]::m.drop l,?_,kQA W (by rw[gi];exact J) (λ y C=>?_) (λ y C=>?_),?_⟩
   ·rw[b,<-ye]
    simp only[dr,iE]
   ·obtain⟨i,f,rfl⟩:=fc.mp C
    rw[eJ]at f;rw[xt];exact u i (by omega) (by omega)
   ·obtain⟨i,f,rfl⟩:=fc.mp C
    rw[iN]at f;rw[CP];exact g _ (by omega) (by omega)
   ·refine vh FC ?_
    rw[gi,wN (i:=lo) (m:=lo+k) (j:=lo+(k+1)) (by omega) (by omega)]
    have:((di st).extract (lo+k) (lo+(k+1))).toList=[(di st)[lo+k]]:=by
     rw[<-ye,xF,drop_one N]
     rfl
    rw[this];exact(ju (l₁:=[(di st)[lo+k]]) (l₂:=m)).trans (B.append_right _)
end
section
variable {α:Type}
def kBJ(arr:Array α){P m T:List α}{i j:Nat}(h:arr.toList=P++(m++T))(hi:i=P.length)(b:j=P.length+m.length):(mirror arr i j ((j-i) / 2)).toList=P++(m.reverse++T):=by
 subst hi b
 have sz:arr.size=P.length+(m.length+T.length):=by
  have:=congrArg iV h;simpa using this
 have g:∀ k,arr[k]?=(P++(m++T))[k]?:=λ k=>by rw[<-h,md]
 refine Ag λ k=>?_;rw[md,getElem?_mirror_all (by omega),g,g];rcases iA k P.length with c | c
 ·rw[if_neg (by omega),cm c,cm c]
 ·rcases iA k (P.length+m.length) with a | a
  ·rw[if_pos ⟨c,a⟩,ck (by omega),ck c,cm (by omega),cm (by rw[yp];omega),Ap (by omega)]
   congr 1
   omega
  ·rw[if_neg (by omega),ck c,ck c,ck (by omega),ck (by rw[yp];omega),yp]
end
section
variable {α:Type} {lb:α->α->Bool}
def Fal(lb:α->α->Bool)(l:List α):Prop:=l.Pairwise λ a b=>le lb b a
def Fal.rev{l:List α}(h:Fal lb l):qZ lb l.reverse:=Aq.mpr h
def Fal.tail{u t:List α}(h:Fal lb (u++t))(e:qZ lb t):Fal lb (u++t.reverse):=by
 have a:=eB.mp h;refine eB.mpr ⟨a.1,Aq.mpr e,λ x b y c=>a.2.2 x b y (uh.mp c)⟩
end
section
variable {M:yy} {A:fb} {E:ao->av->Prop} {s:av} {lb:bp->bp->Bool} {D:bp->Prop} {kd:mj}
structure Rn(arr0 arr:Array bp)(lo n:Nat)(m:List bp):Prop where
 eq:arr.toList=arr0.toList.take lo++(m++arr0.toList.drop (lo+n))
 pm:m.Perm (arr0.extract lo (lo+n)).toList
 hn:lo+n<=arr0.size
variable {arr0 arr:Array bp} {lo n:Nat} {m:List bp}
def Rn.len(h:Rn arr0 arr lo n m):m.length=n:=by
 have:=h.hn;rw[h.pm.length_eq,fw,jo];omega
def Rn.joined(h:Rn arr0 arr lo n m)(a:qZ lb m):Joined lb arr0 arr lo n:=⟨m,h.eq,a,h.pm⟩
def Rn.start(h:lo+n<=arr0.size):Rn arr0 arr0 lo n (arr0.extract lo (lo+n)).toList:=⟨vF h,Ae _,h⟩
def Rn.lp(h:Rn arr0 arr lo n m):(arr0.toList.take lo).length=lo:=by have:=h.hn;simp;omega
def Rn.at(h:Rn arr0 arr lo n m){j:Nat}(a:j<m.length):arr[lo+j]?=some m[j]:=by
 rw[<-md,h.eq,ck (by rw[h.lp];omega),h.lp,cm (by omega),show lo+j-lo=j by omega];exact aa a
def Rn.next(h:Rn arr0 arr lo n m)(a:lo+n<arr0.size):arr[lo+n]?=some arr0[lo+n]:=by
 rw[<-md,h.eq,ck (by rw[h.lp];omega),h.lp,ck (by rw[h.len];omega),h.len,drop_one a,show lo+n-lo-n=0 by omega]
 rfl
def Rn.more(h:Rn arr0 arr lo n m)(a:lo+n<arr0.size):Rn arr0 arr lo (n+1) (m++[arr0[lo+n]]):=by
 refine⟨?_,?_,by omega⟩
 ·rw[h.eq,drop_one a,dr]
  rfl
 ·rw[wN (i:=lo) (m:=lo+n) (j:=lo+(n+1)) (by omega) (by omega)]
  have:(arr0.extract (lo+n) (lo+(n+1))).toList=[arr0[lo+n]]:=by
   rw[<-ye,xF,drop_one a]
   rfl
  rw[this];exact h.pm.append_right _
def Rn.dom(h:Rn arr0 arr lo n m)(c:∀ x∈arr0.toList,D x):∀ x∈m,D x:=λ x b=>by
 obtain⟨i,d,_,_,a⟩:=qX (h.pm.mem_iff.mp b);rw[a];exact c _ (by simp)
def Rn.turn{u v t:List bp}(h:Rn arr0 arr lo n (u++(v++t))){i j:Nat}(hi:i=lo+u.length)(a:j=lo+u.length+v.length):Rn arr0 (mirror arr i j ((j-i) / 2)) lo n (u++(v.reverse++t)):=by
 have lp:=h.lp;refine⟨?_,vh (yg u (xu t (Ah v))) h.pm,h.hn⟩;have e:=kBJ arr (P:=arr0.toList.take lo++u) (m:=v) (T:=t++arr0.toList.drop (lo+n)) (i:=i) (j:=j) (by rw[h.eq];simp only[dr]) (by rw[cq,lp];exact hi) (by rw[cq,lp];exact a);rw[e];simp only[dr]
def kGP(W:Wk lb){m:List bp}{x:bp}(a:qZ lb m)(h:m.length-1<m.length)(c:le lb m[m.length-1] x):qZ lb (m++[x]):=by
 refine eB.mpr ⟨a,om _ _,λ y f z d=>?_⟩;have:z=x:=by simpa using d
 subst this;obtain⟨i,b,rfl⟩:=fc.mp f;by_cases e:i=m.length-1
 ·subst e;exact c
 ·exact W.trans (jl.mp a i (m.length-1) b h (by omega)) c
abbrev AS:=Option (Option Nat)×Nat
def kEP(lo a b:Nat):StateT eP Sem AS :=
 forIn [a:b] ((none,a):AS) λ _ c=>do
  let r <-ltAt' (lo+c.2) (lo+c.2-1)
  match r with
  | some smaller=>if smaller=true then pure (ym (none,c.2)) else pure (ik (none,c.2+1))
  | _=>pure (ym (some none,c.2))
def tJ(W:Wk lb)(B:vM M A E s lb D kd){st:eP}(u:kindOf st=kd)(o:∀ x∈arr0.toList,D x){a:Nat}(J:lo+a<=arr0.size)(H:1<=n)(v:n<=a)(h:Rn arr0 (di st) lo n m)(r:qZ lb m){Q:AS->eP->Prop}
  (q:∀ k m',n<=k->k<=a->Rn arr0 (di st) lo k m'->qZ lb m'->(k=a\/∃(h1:lo+k<arr0.size)(C:m'.length-1<m'.length),lb arr0[lo+k] m'[m'.length-1]=true)->Q (none,k) st):wpS M A E s (kEP lo n a) Q st:=by
 unfold kEP;refine jc (I:=λ x c f=>f=st/\c=(none,x)/\∃ m',Rn arr0 (di st) lo x m'/\qZ lb m') ?step ?fin ⟨rfl,rfl,m,h,r⟩
 case fin =>
  rintro c f ⟨rfl,rfl,m',b,d⟩;rw[show max n a=a by omega]at b ⊢;exact q a m' v (bg _) b d (.inl rfl)
 case step =>
  rintro x c f l y ⟨rfl,rfl,m',b,d⟩;dsimp only;have G:=b.len;have i:lo+x<arr0.size:=by omega
  have g:m'.length-1<m'.length:=by omega
  have p:=b.at g;rw[show lo+(m'.length-1)=lo+x-1 by omega]at p;refine cu (aQ B u (b.next i) p (o _ (by simp)) (b.dom o _ (gh g)) ?_)
  cases e:lb arr0[lo+x] m'[m'.length-1]
  case true =>
   simp only[if_true];exact dj (q x m' l (by omega) b d (.inr ⟨i,g,e⟩))
  case false =>
   simp only[eO,if_false];exact dj ⟨rfl,rfl,_,b.more i,kGP W d g e⟩
end
section
variable {M:yy} {A:fb} {E:ao->av->Prop} {s:av} {lb:bp->bp->Bool} {D:bp->Prop} {kd:mj}
variable {arr0 arr:Array bp} {lo n:Nat} {m:List bp}
abbrev DS:=Option (Option Nat)×Nat×Nat
def kCC(lo n a:Nat):StateT eP Sem DS :=
 forIn [n:a] ((none,n,0):DS) λ _ c=>do
  let r <-ltAt' (lo+c.2.1) (lo+c.2.1-1)
  match r with
  | some smaller =>
   if smaller=true then
    if c.2.2>0 then do
     reverseSlice' (lo+c.2.1-(c.2.2+1)) (lo+c.2.1)
     pure (ik (none,c.2.1+1,0))
    else pure (ik (none,c.2.1+1,0))
   else do
    let r <-ltAt' (lo+c.2.1-1) (lo+c.2.1)
    match r with
    | some larger=>if larger=true then pure (ym (none,c.2.1,c.2.2)) else pure (ik (none,c.2.1+1,c.2.2+1))
    | _=>pure (ym (some none,c.2.1,c.2.2))
  | _=>pure (ym (some none,c.2.1,c.2.2))
structure Fl(lb:bp->bp->Bool)(arr0 arr:Array bp)(lo n neq:Nat)(u t:List bp)(z:bp):Prop where
 rn:Rn arr0 arr lo n (u++(t++[z]))
 fal:Fal lb (u++(t++[z]))
 srt:qZ lb (t++[z])
 len:t.length=neq
def Fl.last{a:Nat}{u t:List bp}{z:bp}(h:Fl lb arr0 arr lo n a u t z)(b:0<n):arr[lo+n-1]?=some z:=by
 have l:=h.rn.len;rw[cq,cq,iR]at l;have:=h.rn.at (j:=n-1) (by rw[cq,cq,iR];omega);rw[show lo+(n-1)=lo+n-1 by omega]at this;rw[this,<-aa,ck (by omega),ck (by omega),show n-1-u.length-t.length=0 by omega]
 rfl
def Fl.low(W:Wk lb){a:Nat}{u t:List bp}{z x:bp}(h:Fl lb arr0 arr lo n a u t z)(c:le lb x z):∀ y∈u++(t++[z]),le lb x y:=λ y b=>by
 have f:=h.fal;rw[Fal,<-dr]at f;rw[<-dr]at b;rcases bu.mp b with w | w
 ·exact W.trans c ((eB.mp f).2.2 y w z (by simp))
 ·have:y=z:=by simpa using w
  rw[this];exact c
def bN{l:List bp}{x:bp}(h:Fal lb l)(c:∀ y∈l,le lb x y):Fal lb (l++[x]):=by
 refine eB.mpr ⟨h,om _ _,λ y b w a=>?_⟩;have:w=x:=by simpa using a
 rw[this];exact c y b
def Fl.turned{a:Nat}{u t:List bp}{z:bp}(h:Fl lb arr0 arr lo n a u t z):Rn arr0 (mirror arr (lo+n-(a+1)) (lo+n) ((lo+n-(lo+n-(a+1))) / 2)) lo n (u++(t++[z]).reverse)/\Fal lb (u++(t++[z]).reverse):=by
 have l:=h.rn.len;have b:=h.len;rw[cq,cq,iR]at l;refine⟨?_,h.fal.tail h.srt⟩;have:=Rn.turn (u:=u) (v:=t++[z]) (t:=[]) (by simpa using h.rn) (i:=lo+n-(a+1)) (j:=lo+n) (by omega) (by rw[cq,iR];omega);simpa using this
def kHP(W:Wk lb)(v:vM M A E s lb D kd){st:eP}(i:kindOf st=kd)(m:∀ x∈arr0.toList,D x){a:Nat}(N:lo+a<=arr0.size)(L:1<=n)(G:n<=a){u:List bp}{z:bp}(h:Fl lb arr0 (di st) lo n 0 u [] z){Q:DS->eP->Prop}
  (q:∀ k neq st' u t z,Sa st st'->n<=k->k<=a->Fl lb arr0 (di st') lo k neq u t z->Q (none,k,neq) st'):wpS M A E s (kCC lo n a) Q st:=by
 unfold kCC;refine jc (I:=λ x c st'=>Sa st st'/\∃ neq u t z,c=(none,x,neq)/\Fl lb arr0 (di st') lo x neq u t z) ?step ?fin ⟨⟨rfl,rfl,rfl⟩,0,u,[],z,rfl,h⟩
 case fin =>
  rintro c st' ⟨b,neq,u,t,z,rfl,f⟩;rw[show max n a=a by omega]at f ⊢;exact q _ _ _ _ _ _ b G (bg _) f
 case step =>
  rintro x c st' g H ⟨b,neq,u,t,z,rfl,f⟩;dsimp only;have d:lo+x<arr0.size:=by omega
  have r:D z:=f.rn.dom m z (by simp);have p:D arr0[lo+x]:=m _ (by simp);refine cu (aQ v (b.1.trans i) (f.rn.next d) (f.last (by omega)) p r ?_)
  cases e:lb arr0[lo+x] z
  case true =>
   simp only[if_true];have l:=f.low W (W.of_lt e);by_cases o:neq>0
   ·rw[if_pos o,BC]
    obtain⟨B,J⟩:=f.turned;refine cu (ou (dj ⟨b,0,_,[],_,rfl,⟨B.more d,bN J λ y C=>l y ?_,om _ _,rfl⟩⟩));rcases bu.mp C with w | w
    ·exact cj _ w
    ·exact cw _ (uh.mp w)
   ·rw[if_neg o]
    exact dj ⟨b,0,_,[],_,rfl,⟨f.rn.more d,bN f.fal l,om _ _,rfl⟩⟩
  case false =>
   simp only[eO,if_false];refine cu (aQ v (b.1.trans i) (f.last (by omega)) (f.rn.next d) r p ?_)
   cases e2:lb z arr0[lo+x]
   case true =>
    simp only[if_true];exact dj (q _ _ _ _ _ _ b g (by omega) f)
   case false =>
    simp only[eO,if_false];refine dj ⟨b,neq+1,u,t++[z],arr0[lo+x],rfl,⟨by have:=f.rn.more d;simpa using this,by have:=bN f.fal (f.low W e2);simpa using this,?_,by rw[cq,f.len];rfl⟩⟩;refine kGP W f.srt (by rw[cq,iR];omega) ?_;have:(t++[z])[(t++[z]).length-1]'(by rw[cq,iR];omega)=z:=by simp
    rw[this];exact e
end
def nP(lo n a:Nat):StateT eP Sem (Option Nat):=do
 reverseSlice' lo (lo+n)
 let c <-kEP lo n a
 match c.1 with
 | some r=>pure r
 | none=>pure (some c.2)
def dE(lo n a:Nat):StateT eP Sem (Option Nat):=do
 liftM (rule "list.sort.descending-run")
 let c <-kCC lo (n+1) a
 match c.1 with
 | some r=>pure r
 | none =>
  if c.2.2>0 then do
   reverseSlice' (lo+c.2.1-(c.2.2+1)) (lo+c.2.1)
   nP lo c.2.1 a
  else nP lo c.2.1 a
def mF(lo a:Nat):countRun' lo a=(do
  let c <-kEP lo 1 a
  match c.1 with
  | some r=>pure r
  | none =>
   if(c.2 == a)=true then pure (some c.2)
   else if c.2>1 then do
    let r <-ltAt' lo (lo+c.2-1)
    match r with
    | some rose =>
     if rose=true then pure (some c.2)
     else do
      reverseSlice' lo (lo+c.2)
      dE lo c.2 a
    | _=>pure none
   else dE lo c.2 a):=by
 rw[countRun'_eq];dsimp only;unfold kEP;refine congr (congrArg _ (congrArg _ (funext λ x=>funext λ c=>congrArg _ (funext λ r=>by cases r<;>rfl)))) (funext λ c=>?_);have part:∀ n:Nat,dE lo n a=dE lo n a:=λ _=>rfl
 cases c.1 with
 | some r=>rfl
 | none =>
  dsimp only;refine ite_congr rfl (λ _=>rfl) (λ _=>ite_congr rfl (λ _=>congrArg _ (funext λ r=>?_)) (λ _=>?_))
  ·cases r with
   | none=>rfl
   | some rose =>
    dsimp only;refine ite_congr rfl (λ _=>rfl) (λ _=>congrArg _ (funext λ _=>?_));unfold dE kCC;refine congrArg _ (funext λ _=>congr (congrArg _ (congrArg _ (funext λ x=>funext λ d=>congrArg _ (funext λ r=>?_)))) (funext λ d=>?_))
    ·cases r with
     | none=>rfl
     | some b=>exact ite_congr rfl (λ _=>rfl) (λ _=>congrArg _ (funext λ r=>by cases r<;>rfl))
    ·cases d.1 with
     | some r=>rfl
     | none =>
      unfold nP kEP;refine ite_congr rfl (λ _=>congrArg _ (funext λ _=>?_)) (λ _=>?_)
      all_goals exact congrArg _ (funext λ _=>congr (congrArg _ (congrArg _ (funext λ x=>funext λ c=>congrArg _ (funext λ r=>by cases r<;>rfl)))) (funext λ c=>by cases c.1<;>rfl))
  ·unfold dE kCC
   refine congrArg _ (funext λ _=>congr (congrArg _ (congrArg _ (funext λ x=>funext λ d=>congrArg _ (funext λ r=>?_)))) (funext λ d=>?_))
   ·cases r with
    | none=>rfl
    | some b=>exact ite_congr rfl (λ _=>rfl) (λ _=>congrArg _ (funext λ r=>by cases r<;>rfl))
   ·cases d.1 with
    | some r=>rfl
    | none =>
     unfold nP kEP;refine ite_congr rfl (λ _=>congrArg _ (funext λ _=>?_)) (λ _=>?_)
     all_goals exact congrArg _ (funext λ _=>congr (congrArg _ (congrArg _ (funext λ x=>funext λ c=>congrArg _ (funext λ r=>by cases r<;>rfl)))) (funext λ c=>by cases c.1<;>rfl))
section
variable {M:yy} {A:fb} {E:ao->av->Prop} {s:av} {lb:bp->bp->Bool} {D:bp->Prop} {kd:mj}
variable {arr0 arr:Array bp} {lo n:Nat} {m:List bp}
def nB(W:Wk lb)(p:vM M A E s lb D kd){st:eP}(f:kindOf st=kd)(o:∀ x∈arr0.toList,D x){a:Nat}(y:lo+a<=arr0.size)(g:1<=n)(c:n<=a)(h:Rn arr0 (di st) lo n m)(d:Fal lb m){Q:Option Nat->eP->Prop}
  (q:∀ k st',Sa st st'->1<=k->k<=a->Joined lb arr0 (di st') lo k->Q (some k) st'):wpS M A E s (nP lo n a) Q st:=by
 unfold nP;rw[BC];refine cu (ou ?_);have t:=Rn.turn (u:=[]) (v:=m) (t:=[]) (by simpa using h) (i:=lo) (j:=lo+n) (by simp) (by rw[h.len];simp);simp only[ub,iY]at t;refine cu (tJ (st:=setArr st (mirror (di st) lo (lo+n) ((lo+n-lo) / 2))) W p f o y g c t d.rev λ k B C l r b _=>?_);exact dj (q k _ ⟨rfl,rfl,rfl⟩ (by omega) l (r.joined b))
def nE(W:Wk lb)(o:vM M A E s lb D kd){st:eP}(g:kindOf st=kd)(l:∀ x∈arr0.toList,D x){a:Nat}(p:lo+a<=arr0.size)(N:1<=n)(L:n<a)(h:Rn arr0 (di st) lo n m)(G:Fal lb m)(hz:lo+n<arr0.size)(H:∀ y∈m,le lb arr0[lo+n] y){Q:Option Nat->eP->Prop}
  (q:∀ k st',Sa st st'->1<=k->k<=a->Joined lb arr0 (di st') lo k->Q (some k) st'):wpS M A E s (dE lo n a) Q st:=by
 unfold dE;refine cu (wD ?_);refine cu (kHP W o g l p (by omega) (by omega) (u:=m) (z:=arr0[lo+n]) ⟨h.more hz,bN G H,om _ _,rfl⟩ λ k c st' u t z d J r f=>?_);dsimp only;have B:∀ k b,Sa st' b->1<=k->k<=a->Joined lb arr0 (di b) lo k->Q (some k) b:=λ k b i=>q k b ⟨i.1.trans d.1,i.2.1.trans d.2.1,i.2.2.trans d.2.2⟩;by_cases v:c>0
 ·rw[if_pos v,BC]
  obtain⟨C,I⟩:=f.turned;refine cu (ou ?_);exact nB (st:=setArr st' (mirror (di st') (lo+k-(c+1)) (lo+k) ((lo+k-(lo+k-(c+1))) / 2))) W o (d.1.trans g) l p (by omega) r C I B
 ·rw[if_neg v]
  exact nB W o (d.1.trans g) l p (by omega) r f.rn f.fal B
def pU(W:Wk lb)(h:vM M A E s lb D kd){st:eP}(f:kindOf st=kd)(b:∀ x∈(di st).toList,D x){a:Nat}(H:lo+a<=(di st).size)(Z:1<=a){Q:Option Nat->eP->Prop}
  (q:∀ k st',Sa st st'->1<=k->k<=a->Joined lb (di st) (di st') lo k->Q (some k) st'):wpS M A E s (countRun' lo a) Q st:=by
 rw[mF];have N:=Rn.start (arr0:=di st) (lo:=lo) (n:=1) (by omega)
 have s0:qZ lb ((di st).extract lo (lo+1)).toList:=by
  have:=N.len;generalize((di st).extract lo (lo+1)).toList=l at *;exact rT (Gy this)
 refine cu (tJ W h f b H (by omega) Z N s0 λ k m o L r d c=>?_);dsimp only;have U:=r.len;by_cases e:k=a
 ·rw[if_pos (by simpa using e)]
  exact dj (q k st ⟨rfl,rfl,rfl⟩ o L (r.joined d))
 ·rw[if_neg (by simpa using e)]
  obtain⟨J,Y,lt⟩ : ∃(h1:lo+k<(di st).size)(h2:m.length-1<m.length),lb (di st)[lo+k] m[m.length-1]=true:=by
   rcases c with c | c
   ·exact absurd c e
   ·exact c
  by_cases g:k>1
  ·rw[if_pos g]
   have S:=r.at (j:=0) (by omega);have O:=r.at Y;rw[Ef]at S;rw[show lo+(m.length-1)=lo+k-1 by omega]at O;refine cu (aQ h f S O (r.dom b _ (gh _)) (r.dom b _ (gh _)) ?_)
   cases e2:lb (m[0]'(by omega)) m[m.length-1]
   case true =>
    simp only[if_true];exact dj (q k st ⟨rfl,rfl,rfl⟩ o L (r.joined d))
   case false =>
    simp only[eO,if_false];rw[BC];refine cu (ou ?_);have t:=Rn.turn (u:=[]) (v:=m) (t:=[]) (by simpa using r) (i:=lo) (j:=lo+k) (by simp) (by rw[U];simp);simp only[ub,iY]at t;refine nE (st:=setArr st (mirror (di st) lo (lo+k) ((lo+k-lo) / 2))) W h f b H o (by omega) t (show List.Pairwise _ _ from Aq.mpr d) J (λ y B=>?_) λ G st' C=>q G st' C;obtain⟨i,I,rfl⟩:=fc.mp (uh.mp B)
    have X:le lb (m[0]'(by omega)) m[i]:=by
     by_cases z:0=i
     ·subst z;exact W.refl _
     ·exact jl.mp d 0 i (by omega) I (by omega)
    exact W.trans (W.of_lt lt) (W.trans e2 X)
  ·rw[if_neg g]
   have p:k=1:=by omega
   subst p
   exact nE W h f b H (by omega) (by omega) r (rT (by omega)) J (λ y B=>by
    obtain⟨i,I,rfl⟩:=fc.mp B;have T:i=m.length-1:=by omega
    simp only[T];exact W.of_lt lt) λ G st' C=>q G st' C
end
abbrev Pn:=Nat×Nat×Nat
def Tiles:List Pn->Nat->Nat->Prop
 | [],a,b=>a=b
 | x::r,a,b=>x.1=a/\0<x.2.1/\Tiles r (a+x.2.1) b
theorem Tiles.le:∀{l:List Pn}{a b:Nat},Tiles l a b->a<=b
 | [],a,b,h=>by rw[show a=b from h];exact bg _
 | x::r,a,b,h=>by have:=Tiles.le h.2.2;omega
theorem Tiles.app:∀{l r:List Pn}{a b:Nat},Tiles (l++r) a b↔∃ c,Tiles l a c/\Tiles r c b
 | [],r,a,b=>⟨λ h=>⟨a,rfl,h⟩,λ⟨c,h1,d⟩=>by rw[show a=c from h1];exact d⟩
 | x::l,r,a,b=>by
  constructor
  ·rintro⟨h1,d,g⟩
   obtain⟨c,f,i⟩:=Tiles.app.mp g;exact⟨c,⟨h1,d,f⟩,i⟩
  ·rintro⟨c,⟨h1,d,g⟩,f⟩
   exact⟨h1,d,Tiles.app.mpr ⟨c,g,f⟩⟩
def Tiles.join{l r:List Pn}{a b s n g d p u:Nat}(h:Tiles (l++(s,n,p)::(g,d,u)::r) a b):g=s+n/\0<n/\0<d/\s+n+d<=b/\Tiles l a s/\Tiles r (s+n+d) b/\Tiles (l++(s,n+d,p)::r) a b:=by
 obtain⟨c,h1,o,m,i,q,f⟩:=Tiles.app.mp h;have o:s=c:=o;have i:g=c+n:=i;have m:0<n:=m;have q:0<d:=q;have f:Tiles r (c+n+d) b:=f;subst o;refine⟨i,m,q,f.le,h1,f,Tiles.app.mpr ⟨s,h1,rfl,by show 0<n+d;omega,?_⟩⟩;show Tiles r (s+(n+d)) b;rw[<-ye];exact f
def kDN{P:Array Pn}{l r:List Pn}{x y z:Pn}(h:P.toList=l++x::y::r):((P.setIfInBounds l.length z).eraseIdxIfInBounds (l.length+1)).toList=l++z::r:=by
 have sz:P.size=l.length+(r.length+2):=by
  have:=congrArg iV h;simpa using this
 unfold Array.eraseIdxIfInBounds;rw[dif_pos (by rw[CU];omega),Array.toList_eraseIdx,Bu,h];rw[List.set_append_right _ _ (bg _),Eg,AX (by omega),show l.length+1-l.length=1 by omega]
 rfl
section
variable {lb:bp->bp->Bool} {arr arr':Array bp} {lo n:Nat}
def Joined.low(h:Joined lb arr arr' lo n)(d:lo+n<=arr.size){a k:Nat}(c:a+k<=lo):(arr'.extract a (a+k)).toList=(arr.extract a (a+k)).toList:=by
 obtain⟨m,e,_,b⟩:=h;have lp:(arr.toList.take lo).length=lo:=by simp;omega
 rw[xF,xF,e,List.drop_append_of_le_length (by omega),BH (by rw[iN];omega),GB,GC,kh (by omega)]
def Joined.high(h:Joined lb arr arr' lo n)(d:lo+n<=arr.size){a k:Nat}(c:lo+n<=a):(arr'.extract a (a+k)).toList=(arr.extract a (a+k)).toList:=by
 obtain⟨m,e,_,b⟩:=h
 have l:m.length=n:=by
  rw[b.length_eq,xF,eJ,iN,fw];omega
 have lp:(arr.toList.take lo).length=lo:=by simp;omega
 rw[xF,xF,e,BB,lp,kr (by omega),ub,BB,kr (by omega),ub,Af]
 congr 2
 omega
def Joined.here(h:Joined lb arr arr' lo n)(c:lo+n<=arr.size):qZ lb (arr'.extract lo (lo+n)).toList:=by
 obtain⟨m,e,a,b⟩:=h
 have l:m.length=n:=by
  rw[b.length_eq,xF,eJ,iN,fw];omega
 have lp:(arr.toList.take lo).length=lo:=by simp;omega
 rw[xF,e,BB,lp,kr (by omega),ub,Eg,GD,BH (by omega),ka (by omega)];exact a
def Joined.perm(h:Joined lb arr arr' lo n)(b:lo+n<=arr.size):arr'.toList.Perm arr.toList:=by
 obtain⟨m,e,c,a⟩:=h;rw[e];exact(yg _ (a.append_right _)).trans (List.Perm.of_eq (vF b).symm)
end
section
variable {M:yy} {A:fb} {E:ao->av->Prop} {s:av} {lb:bp->bp->Bool} {D:bp->Prop} {kd:mj}
structure SI(lb:bp->bp->Bool)(kd:mj)(a0:Array bp)(st:eP)(lo:Nat):Prop where
 kind:kindOf st=kd
 failed:vy st=none
 perm:(di st).toList.Perm a0.toList
 tiles:Tiles (dh st).toList 0 lo
 top:lo<=a0.size
 runs:∀ x∈(dh st).toList,qZ lb ((di st).extract x.1 (x.1+x.2.1)).toList
theorem SI.size{a:Array bp}{st:eP}{lo:Nat}(h:SI lb kd a st lo):(di st).size=a.size:=by simpa using h.perm.length_eq
theorem Tiles.in:∀{l:List Pn}{a b:Nat},Tiles l a b->∀ x∈l,a<=x.1/\x.1+x.2.1<=b
 | y::l,a,b,h,x,hx=>by
  rcases cy.mp hx with rfl | z
  ·have:=h.2.2.le
   have:=h.1;omega
  ·have:=Tiles.in h.2.2 x z
   omega
def uW(W:Wk lb)(hL:vM M A E s lb D kd){r:Array bp}(O:∀ x∈r.toList,D x){st:eP}{lo:Nat}(h:SI lb kd r st lo){i:Nat}(hi:i+1<(dh st).size){Q:Bool->eP->Prop}
  (q:∀ st',SI lb kd r st' lo->(dh st').size+1=(dh st).size->(∀ a k,lo<=a->((di st').extract a (a+k)).toList=((di st).extract a (a+k)).toList)->Q true st'):wpS M A E s (mergeAt' i) Q st:=by
 have f:(dh st).toList=(dh st).toList.take i++(dh st)[i]::(dh st)[i+1]::(dh st).toList.drop (i+2):=by
  conv=>lhs;rw[<-gi i (dh st).toList]
  rw[drop_one (show i<(dh st).size by omega),drop_one hi]
  rfl
 have I:((dh st).toList.take i).length=i:=by simp;omega
 have S:=getElem?_pos (dh st) i (by omega);have T:=getElem?_pos (dh st) (i+1) hi;have H:=h.runs _ (by simp:(dh st)[i]∈(dh st).toList);have U:=h.runs _ (by simp:(dh st)[i+1]∈(dh st).toList);have C:=h.tiles;have g:=h.runs;rw[f]at C g;generalize B:(dh st)[i]=x at *;generalize hy:(dh st)[i+1]=y at *;obtain⟨m,p,u⟩:=x;obtain⟨sb,d,pb⟩:=y;obtain⟨eb,l,n,le,tl,Y,N⟩:=C.join;subst eb;have top:=h.top;have sz:=h.size;refine tI W hL h.kind h.failed (λ x B=>O x (h.perm.mem_iff.mp B)) S T l n (by omega) H U λ st' k' Z L b=>?_;have c:m+(p+d)<=(di st).size:=by omega
 have o:(dh st').toList=(dh st).toList.take i++(m,p+d,u)::(dh st).toList.drop (i+2):=by
  have:=kDN (z:=(m,p+d,u)) f;rw[I]at this;rw[L,this]
 refine q st' ⟨k',Z,(b.perm c).trans h.perm,by rw[o];exact N,top,λ z v=>?_⟩ ?_ (λ a k J=>b.high c (by omega))
 ·rw[o]at v
  rcases bu.mp v with w | w
  ·have:=tl.in z w
   rw[b.low c (by omega)];exact g z (cj _ w)
  ·rcases cy.mp w with rfl | w
   ·exact b.here c
   ·have:=Y.in z w
    rw[b.high c (by omega)];exact g z (cw _ (dq _ (dq _ w)))
 ·have X:=congrArg iV o
  have G:=congrArg iV f;simp only[fw,cq,eh]at X G;omega
end
def Tiles.snoc{l:List Pn}{a b:Nat}{x:Pn}(h:Tiles l a b)(e:x.1=b)(n:0<x.2.1):Tiles (l++[x]) a (b+x.2.1) :=
 Tiles.app.mpr ⟨b,h,e,n,rfl⟩
theorem Tiles.repl:∀{l:List Pn}{a b:Nat}(k:Nat)(f:Pn->Pn),(∀ x,(f x).1=x.1/\(f x).2.1=x.2.1)->Tiles l a b->Tiles (l.modify k f) a b
 | [],a,b,k,f,hf,h=>by simpa using h
 | x::r,a,b,0,f,hf,h=>by
  obtain⟨h1,d,c⟩:=h;have:=hf x;rw[List.modify_zero_cons];exact⟨this.1.trans h1,by rw[this.2];exact d,by rw[this.2];exact c⟩
 | x::r,a,b,k+1,f,hf,h=>by
  obtain⟨h1,d,c⟩:=h;rw[List.modify_succ_cons];exact⟨h1,d,Tiles.repl k f hf c⟩
def kPS{l:List Pn}{k:Nat}{f:Pn->Pn}{x:Pn}(h:x∈l.modify k f):∃ y∈l,x=y\/x=f y:=by
 obtain⟨i,b,rfl⟩:=fc.mp h;rw[List.getElem_modify];have a:i<l.length:=by simpa using b
 split
 ·exact⟨l[i],gh _,.inr rfl⟩
 ·exact⟨l[i],gh _,.inl rfl⟩
def Tiles.one:∀{l:List Pn}{a b:Nat},Tiles l a b->a<b->l.length<=1->∃ p,l=[(a,b-a,p)]
 | [],a,b,h,c,_=>by have:a=b:=h;omega
 | [(s,n,p)],a,b,h,c,_=>by
  obtain⟨h1,f,d⟩:=h;have h1:s=a:=h1;have d:a+n=b:=d;refine⟨p,?_⟩;rw[h1,show n=b-a by omega]
 | _::_::_,a,b,h,c,z=>by simp at z
section
variable {M:yy} {A:fb} {E:ao->av->Prop} {s:av} {lb:bp->bp->Bool} {D:bp->Prop} {kd:mj}
def SI.len{c:Array bp}{st:eP}{lo:Nat}(h:SI lb kd c st lo):(dh st).size<=lo:=by
 have:∀(l:List Pn)(a b:Nat),Tiles l a b->a+l.length<=b:=by
  intro l
  induction l with
  | nil=>intro a b h;rw[show a=b from h];simp
  | cons x r ih =>
   intro a b h;have:=ih _ _ h.2.2;have:=h.2.1;rw[eh];omega
 have:=this _ _ _ h.tiles;simpa using this
theorem SI.push{b:Array bp}{st:eP}{lo n:Nat}(h:SI lb kd b st lo)(c:0<n)(f:lo+n<=b.size)(d:qZ lb ((di st).extract lo (lo+n)).toList) :
  SI lb kd b (setPending st ((dh st).push (lo,n,0))) (lo+n):=by
 refine⟨h.kind,h.failed,h.perm,?_,f,?_⟩
 ·show Tiles ((dh st).push (lo,n,0)).toList 0 (lo+n)
  rw[wb];exact h.tiles.snoc rfl c
 ·intro x a
  have a:x∈((dh st).push (lo,n,0)).toList:=a;rw[wb]at a;rcases bu.mp a with z | z
  ·exact h.runs x z
  ·have:x=(lo,n,0):=by simpa using z
   rw[this];exact d
def SI.mod{c:Array bp}{st:eP}{lo:Nat}(h:SI lb kd c st lo)(k b:Nat):SI lb kd c (setPending st ((dh st).modify k λ(x:Pn)=>(x.1,x.2.1,b))) lo:=by
 refine⟨h.kind,h.failed,h.perm,?_,h.top,?_⟩
 ·show Tiles ((dh st).modify k _).toList 0 lo
  rw[Do];exact Tiles.repl k _ (λ x=>⟨rfl,rfl⟩) h.tiles
 ·intro x a
  have a:x∈((dh st).modify k λ(x:Pn)=>(x.1,x.2.1,b)).toList:=a;rw[Do]at a;obtain⟨y,d,e⟩:=kPS a;have r:=h.runs y d;rcases e with rfl | rfl
  ·exact r
  ·exact r
def SI.tail{d:Array bp}{st a:eP}{lo n:Nat}(h:SI lb kd d st lo)(b:Sa st a)(f:lo+n<=d.size)(j:Joined lb (di st) (di a) lo n):SI lb kd d a lo:=by
 have sz:=h.size;refine⟨b.1.trans h.kind,b.2.2.trans h.failed,(j.perm (by omega)).trans h.perm,by rw[b.2.1];exact h.tiles,h.top,λ x c=>?_⟩;rw[b.2.1]at c;have:=h.tiles.in x c;rw[j.low (by omega) (by omega)];exact h.runs x c
def tF(W:Wk lb)(hL:vM M A E s lb D kd){st:eP}(hk:kindOf st=kd)(hf:vy st=none)(hp:dh st = #[])(dd:∀ x∈(di st).toList,D x){Q:Unit->eP->Prop}
  (h:∀ st',(di st').toList.Perm (di st).toList->vy st'=none->qZ lb (di st').toList->Q () st'):wpS M A E s sortRuns' Q st:=by
 rw[sortRuns'_eq];refine cu (AE ?_);dsimp only;generalize a3:(di st).size=size;generalize a4:minRun' size size 0=mr
 refine cu (vw (jc
  (I:=λ x c st'=>∃ lo,c=(none,lo)/\SI lb kd (di st) st' lo/\(x<=lo\/lo=size))
  (Q:=λ c st'=>c=(none,size)/\SI lb kd (di st) st' size) ?step ?fin ⟨0,rfl,⟨hk,hf,Ae _,by rw[hp];rfl,fj _,by rw[hp];simp⟩,.inl (bg _)⟩) ?post)
 case fin =>
  rintro c st' ⟨lo,rfl,d,B⟩
  have:lo=size:=by
   rcases B with B | B
   ·have:=d.top;omega
   ·exact B
  subst this;exact⟨rfl,d⟩
 case step =>
  rintro x c st' _ B ⟨lo,rfl,d,a5⟩;dsimp only;have top:=d.top;have a6:=d.size;by_cases Z:lo >= size
  ·rw[if_pos Z]
   have:lo=size:=by omega
   subst this;exact dj ⟨rfl,d⟩
  rw[if_neg Z];have T:∀{q:eP},SI lb kd (di st) q lo->∀ x∈(di q).toList,D x:=λ h x B=>dd x (h.perm.mem_iff.mp B);refine cu (pU W hL d.kind (T d) (by omega) (by omega) λ m q G m1 m2 j2=>?_);dsimp only;have l:=d.tail G (by omega) j2;have v:=j2.here (by omega);have X:=l.size;have bin:∀ n,n=min (size-lo) mr->m<mr->m<=n/\0<n/\lo+n<=size:=λ n e h=>by omega
  by_cases u:m<mr
  ·rw[if_pos u]
   refine cu (wD ?_);generalize hn:min (size-lo) mr=n;obtain⟨mn,L,a0⟩:=bin n hn.symm u;refine cu (kCM W hL l.kind (T l) mn (by omega) v λ a1 U j3=>?_);simp only[zr,eO,if_false];have Y:=l.tail U (by omega) j3;have S:=j3.here (by omega);clear v l j2 G j3 U X m1 m2 mn u hn bin;clear m q;refine cu (AE ?_)
   cases O:(dh a1).back? with
   | none =>
    dsimp only;exact cu (ou (dj ⟨lo+n,rfl,Y.push L (by omega) S,by omega⟩))
   | some z =>
    obtain⟨N,H,z1⟩:=z;dsimp only;generalize power' size (2*N+H) (2*N+H+H+n) size=pw
    refine cu (vw (jc (I:=λ _ c st'=>c=(none,())/\SI lb kd (di st) st' lo/\qZ lb ((di st').extract lo (lo+n)).toList)
     (Q:=λ c st'=>c=(none,())/\SI lb kd (di st) st' lo/\qZ lb ((di st').extract lo (lo+n)).toList) ?_ (λ _ _ hh=>hh) ⟨rfl,Y,S⟩) ?_)
    ·rintro y c a _ hy ⟨rfl,g,f⟩
     refine cu (AE ?_);by_cases h1:(dh a).size>1
     ·rw[if_pos h1,getElem?_pos (dh a) ((dh a).size-2) (by omega)]
      generalize(dh a)[(dh a).size-2]'(by omega)=zz;obtain⟨y1,y2,y3⟩:=zz;dsimp only;by_cases J:y3<=pw
      ·rw[if_pos J]
       exact dj ⟨rfl,g,f⟩
      ·rw[if_neg J]
       refine cu (uW W hL dd g (by omega) λ a2 o h5 e5=>?_);simp only[zr,eO,if_false];exact dj ⟨rfl,o,by rw[e5 _ _ (bg _)];exact f⟩
     ·rw[if_neg h1]
      exact dj ⟨rfl,g,f⟩
    ·rintro c a ⟨rfl,g,f⟩
     dsimp only;refine cu (ou ?_);have o:=g.mod ((dh a).size-1) pw;exact cu (ou (dj ⟨lo+n,rfl,o.push L (by omega) f,by omega⟩))
  ·rw[if_neg u]
   have a0:lo+m<=size:=by omega
   have L:0<m:=by omega
   clear bin u m2 m1 j2 X G;refine cu (AE ?_)
   cases O:(dh q).back? with
   | none =>
    dsimp only;exact cu (ou (dj ⟨lo+m,rfl,l.push L (by omega) v,by omega⟩))
   | some z =>
    obtain⟨N,H,z1⟩:=z;dsimp only;generalize power' size (2*N+H) (2*N+H+H+m) size=pw
    refine cu (vw (jc (I:=λ _ c st'=>c=(none,())/\SI lb kd (di st) st' lo/\qZ lb ((di st').extract lo (lo+m)).toList)
     (Q:=λ c st'=>c=(none,())/\SI lb kd (di st) st' lo/\qZ lb ((di st').extract lo (lo+m)).toList) ?_ (λ _ _ hh=>hh) ⟨rfl,l,v⟩) ?_)
    ·rintro y c a _ hy ⟨rfl,g,f⟩
     refine cu (AE ?_);by_cases h1:(dh a).size>1
     ·rw[if_pos h1,getElem?_pos (dh a) ((dh a).size-2) (by omega)]
      generalize(dh a)[(dh a).size-2]'(by omega)=zz;obtain⟨y1,y2,y3⟩:=zz;dsimp only;by_cases J:y3<=pw
      ·rw[if_pos J]
       exact dj ⟨rfl,g,f⟩
      ·rw[if_neg J]
       refine cu (uW W hL dd g (by omega) λ a2 o h5 e5=>?_);simp only[zr,eO,if_false];exact dj ⟨rfl,o,by rw[e5 _ _ (bg _)];exact f⟩
     ·rw[if_neg h1]
      exact dj ⟨rfl,g,f⟩
    ·rintro c a ⟨rfl,g,f⟩
     dsimp only;refine cu (ou ?_);have o:=g.mod ((dh a).size-1) pw;exact cu (ou (dj ⟨lo+m,rfl,o.push L (by omega) f,by omega⟩))
 case post =>
  rintro c st' ⟨rfl,d⟩;dsimp only
  have C:∀ st',SI lb kd (di st) st' size->(dh st').size<=1->Q () st':=λ st' d hl=>by
   refine h st' d.perm d.failed ?_;by_cases z:0<size
   ·obtain⟨p,e⟩:=d.tiles.one z (by simpa using hl)
    have r:=d.runs (0,size-0,p) (by rw[e];simp);have r:qZ lb ((di st').extract 0 (0+(size-0))).toList:=r;have e1:=d.size;rw[show 0+(size-0)=(di st').size by omega,Array.extract_size]at r;exact r
   ·have:(di st').toList=[]:=iq.mp (by rw[fw];have:=d.size;omega)
    rw[this];exact CK
  refine cu (vw (jc (I:=λ x c st'=>c=(none,())/\SI lb kd (di st) st' size/\(dh st').size+x<=max (size+1) (1+x))
   (Q:=λ c st'=>c=(none,())/\SI lb kd (di st) st' size/\(dh st').size<=1) ?_ ?_ ⟨rfl,d,by have:=d.len;omega⟩) ?_)
  ·rintro x c st' _ B ⟨rfl,d,O⟩
   refine cu (AE ?_);by_cases h1:(dh st').size<=1
   ·rw[if_pos h1]
    exact dj ⟨rfl,d,h1⟩
   rw[if_neg h1];have hg:∀ b:Bool,(if b=true then(dh st').size-2-1 else(dh st').size-2)+1<(dh st').size:=λ b=>by split<;>omega
   replace hg:=hg (Option.any (λ x=>decide (x<((dh st')[(dh st').size-2+1]?.elim 0 λ x=>x.snd.fst))) (if(dh st').size-2>0 then HZ (λ x=>x.snd.fst) (dh st')[(dh st').size-2-1]? else none))
   generalize(if(if(dh st').size-2>0 then HZ (λ x=>x.snd.fst) (dh st')[(dh st').size-2-1]? else none).any _=true then(dh st').size-2-1 else(dh st').size-2)=i at hg ⊢;refine cu (uW W hL dd d hg λ q l J _=>?_);simp only[zr,eO,if_false];exact dj ⟨rfl,l,by omega⟩
  ·rintro c st' ⟨rfl,d,O⟩
   exact⟨rfl,d,by omega⟩
  ·rintro c st' ⟨rfl,d,O⟩
   exact dj (C _ d O)
end
open PySem PySem.W PyProof.Rows
def lexLt:List Int->List Int->Bool
 | [],[]=>false
 | [],_::_=>true
 | _::_,[]=>false
 | a::x,b::y=>if a=b then lexLt x y else decide (a<b)
theorem lex_irr:∀ x,lexLt x x=false
 | []=>rfl
 | a::x=>by rw[lexLt,if_pos rfl];exact lex_irr x
theorem lex_tr:∀ x y z,lexLt x y=true->lexLt y z=true->lexLt x z=true
 | [],[],_,h,_=>nomatch h
 | [],_::_,[],_,h=>nomatch h
 | [],_::_,_::_,_,_=>rfl
 | _::_,[],_,h,_=>nomatch h
 | _::_,_::_,[],_,h=>nomatch h
 | a::x,b::y,c::z,h,k=>by
  rw[lexLt]at *;by_cases e:a=b
  ·subst e
   rw[if_pos rfl]at h;by_cases d:a=c
   ·subst d
    rw[if_pos rfl]at k ⊢;exact lex_tr x y z h k
   ·rw[if_neg d]at k ⊢
    exact k
  ·rw[if_neg e]at h
   by_cases d:b=c
   ·subst d
    rw[if_neg e];exact h
   ·rw[if_neg d]at k
    have h:=of_decide_eq_true h;have k:=of_decide_eq_true k;rw[if_neg (by omega)];exact decide_eq_true (by omega)
theorem lex_neg:∀ x y z,lexLt x z=true->lexLt x y=true\/lexLt y z=true
 | [],[],z,h=>.inr h
 | [],_::_,z,h=>.inl rfl
 | _::_,_,[],h=>nomatch h
 | _::_,[],_::_,h=>.inr rfl
 | a::x,b::y,c::z,h=>by
  rw[lexLt]at *;by_cases e:a=c
  ·subst e
   rw[if_pos rfl]at h;by_cases d:a=b
   ·subst d
    rw[if_pos rfl,lexLt,if_pos rfl];exact lex_neg x y z h
   ·rw[if_neg d,lexLt,if_neg (λ q=>d q.symm)]
    by_cases l:a<b
    ·exact .inl (decide_eq_true l)
    ·exact .inr (decide_eq_true (by omega))
  ·rw[if_neg e]at h
   have h:=of_decide_eq_true h;by_cases d:a=b
   ·subst d
    rw[lexLt,if_neg e];exact .inr (decide_eq_true h)
   ·rw[if_neg d]
    by_cases l:a<b
    ·exact .inl (decide_eq_true l)
    ·rw[lexLt,if_neg (by omega)]
     exact .inr (decide_eq_true (by omega))
theorem lex_tot:∀ x y,lexLt x y=false->lexLt y x=false->x=y
 | [],[],_,_=>rfl
 | [],_::_,h,_=>nomatch h
 | _::_,[],_,h=>nomatch h
 | a::x,b::y,h,k=>by
  rw[lexLt]at *;by_cases e:a=b
  ·subst e
   rw[if_pos rfl]at h k;rw[lex_tot x y h k]
  ·rw[if_neg e]at h
   rw[if_neg (λ q=>e q.symm)]at k;have h:=of_decide_eq_false h;have k:=of_decide_eq_false k;omega
def keyOf(h:iD):ao->List Int
 | .ref a=>match h.get? a with
  | some o=>match o.data with
   | .seq xs _=>xs.toList.map numOf
   | _=>[]
  | none=>[]
 | _=>[]
def lbT(h:iD)(x y:bp):Bool:=lexLt (keyOf h x.1) (keyOf h y.1)
def kTA(h:iD):Wk (lbT h):=⟨λ a=>lex_irr _,λ a b c=>lex_neg _ _ _,λ a b c=>lex_tr _ _ _⟩
def lbI(x y:bp):Bool:=decide (numOf x.1<numOf y.1)
def kTB:Wk lbI:=⟨λ a=>by unfold lbI;simp,λ a b c h=>by
  unfold lbI at *;have:=of_decide_eq_true h;by_cases l:numOf a.1<numOf b.1
  ·exact .inl (decide_eq_true l)
  ·exact .inr (decide_eq_true (by omega)),λ a b c h k=>by
  unfold lbI at *;have:=of_decide_eq_true h;have:=of_decide_eq_true k;exact decide_eq_true (by omega)⟩
def TupI(h:iD)(v:ao):Prop:=∃ a o b n,v=.ref a/\h.get? a=some o/\o.cls=.type "tuple"/\o.data=.seq b n/\(∀ u∈b.toList,∃ k t,u=.int k t)/\0<b.size
def TupI.kept{h h':iD}{v:ao}(x:TupI h v)(k:∀ a o,o.cls=.type "tuple"->h.get? a=some o->h'.get? a=some o):TupI h' v/\keyOf h' v=keyOf h v:=by
 obtain⟨a,o,g,n,rfl,c,b,i,d,f⟩:=x;refine⟨⟨a,o,g,n,rfl,k _ _ b c,b,i,d,f⟩,?_⟩;unfold keyOf;simp only[c,k _ _ b c]
def TupI.key{h:iD}{a:ay}{o:Obj}{xs:Array ao}{n:Nat}(c:h.get? a=some o)(b:o.data=.seq xs n):keyOf h (.ref a)=xs.toList.map numOf:=by
 unfold keyOf;simp only[c,b]
section
variable {prog:eU} {w:gk} {A:fb} {E:ao->av->Prop} {s:av}
theorem kBM{Q:Bool->av->Prop}:∀(xs ys:List ao)(i:Nat),(∀ u∈xs,∃ k t,u=uk k t)->(∀ u∈ys,∃ k t,u=uk k t)->Q (lexLt (xs.map numOf) (ys.map numOf)) s->KatLex prog w A true (decide (xs.length<ys.length)) Q (xs.zip ys) i s
 | [],[],i,_,_,h=>by exact h
 | [],_::_,i,_,_,h=>by exact h
 | _::_,[],i,_,_,h=>by exact h
 | x::xs,y::ys,i,hx,hy,h=>by
  obtain⟨a,t,rfl⟩:=hx x (eV ..);obtain⟨b,u,rfl⟩:=hy y (eV ..);rw[Bv,show decide ((uk a t::xs).length<(uk b u::ys).length)=decide (xs.length<ys.length) by simp];refine kat_cons (Es ?_);have h:Q (if a=b then lexLt (xs.map numOf) (ys.map numOf) else decide (a<b)) s:=h;by_cases e:a=b
  ·rw[if_pos e]at h
   rw[beq_iff_eq.mpr e];exact kat_yes (kBM xs ys (i+1) (λ u c=>hx u (dq _ c)) (λ u c=>hy u (dq _ c)) h)
  ·rw[if_neg e]at h
   rw[beq_eq_false_iff_ne.mpr e];refine kat_no ?_;rw[Bool.true_and]
   cases i == 0 with
   | true=>exact oneLt_int h
   | false=>exact kat_one _ _ (HS h)
def kIW:vM (model prog w) A E s (lbT s.heap) (λ x=>TupI s.heap x.1) (tuples' true):=by
 intro x y C r st Q p q;obtain⟨a,J,c,n,l,f,D,h,u,H⟩:=C;obtain⟨b,I,d,m,i,o,L,g,B,G⟩:=r;rw[lt'_eq];refine cu (AE ?_);rw[p]
 have q:Q (some (lexLt (c.toList.map numOf) (d.toList.map numOf))) st:=by
  have:lbT s.heap x y=lexLt (c.toList.map numOf) (d.toList.map numOf):=by
   unfold lbT;rw[l,i,TupI.key f h,TupI.key o g]
  rw[<-this];exact q
 rw[l,i];refine cu (HP (mm (kat_lt f h o g ?_)))
 have:=kBM (prog:=prog) (w:=w) (A:=A) (s:=s) (Q:=λ b v=>v=s/\wpS (model prog w) A E s (match(Except.ok b:Except ao Bool) with
  | .ok b=>pure (some b)
  | .error e=>do
   modify (λ s=>Cy (kindOf s) (di s) (dh s) (gallopOf s) (some e))
   pure none) Q st) c.toList d.toList 0 u B ⟨rfl,dj q⟩
 simpa using this
def kIX:vM (model prog w) A E s lbI (λ x=>∃ k t,x.1=.int k t) oneType':=by
 intro x y f h st Q g q;obtain⟨a,t,d⟩:=f;obtain⟨b,u,c⟩:=h;rw[lt'_eq];refine cu (AE ?_);rw[g,d,c];unfold lbI at q;rw[d,c]at q;exact cu (HP (mm (kat_lt_int ⟨rfl,dj q⟩)))
end
end Srt
namespace Fc
open Cyc Tri Rnd
section
variable {α:Type} {le:α->α->Bool}
theorem vX(c:∀ a b,le a b=true->le b a=true->a=b):∀{l m:List α},l.Perm m->l.Pairwise (λ a b=>le a b=true)->m.Pairwise (λ a b=>le a b=true)->l=m
 | [],m,p,_,_=>(List.nil_perm.mp p).symm
 | a::l,m,p,hl,hm=>by
  match m,p,hm with
  | [],p,_=>exact absurd p.length_eq (by simp)
  | b::m,p,hm =>
   have f:=AK.mp hl;have d:=AK.mp hm
   have e:a=b:=by
    rcases cy.mp (p.mem_iff.mp (eV ..)) with z | z
    ·exact z
    ·rcases cy.mp (p.mem_iff.mpr (eV ..)) with y | y
     ·exact y.symm
     ·exact c a b (f.1 b y) (d.1 a z)
   subst e;rw[vX c (List.Perm.cons_inv p) f.2 d.2]
def kFT(g:∀ a b c,le a b=true->le b c=true->le a c=true)(f:∀ a b,(le a b || le b a)=true)(d:∀ a b,le a b=true->le b a=true->a=b){l m:List α}(p:l.Perm m)(h:l.Pairwise (λ a b=>le a b=true)):l=m.mergeSort le :=
 vX d (p.trans (BV m le).symm) h (Ci g f m)
end
def leP(a b:Nat×Nat):Bool:=decide (a.1<b.1\/a.1=b.1/\a.2<=b.2)
def leP_iff{a b:Nat×Nat}:leP a b=true↔a.1<b.1\/a.1=b.1/\a.2<=b.2:=decide_eq_true_iff
def sortP(T:List (Nat×Nat)):List (Nat×Nat):=T.mergeSort leP
def sortP_is{l m:List (Nat×Nat)}(p:l.Perm m)(h:l.Pairwise (λ a b=>leP a b=true)):l=sortP m :=
 kFT (λ a b c h k=>by rw[leP_iff]at *;omega) (λ a b=>by
  rw[BO,leP_iff,leP_iff];omega) (λ a b h k=>by
  rw[leP_iff]at h k;exact rm (by omega) (by omega)) p h
def sortP_perm(T:List (Nat×Nat)):(sortP T).Perm T:=BV T leP
def pZ(T:List (Nat×Nat)):(sortP T).Pairwise (λ a b=>leP a b=true):=Ci (λ a b c h k=>by rw[leP_iff]at *;omega) (λ a b=>by
  rw[BO,leP_iff,leP_iff];omega) T
def zl(l:List Nat):List Int:=l.map λ n:Nat=>(n:Int)
theorem zl_inj:∀{a b:List Nat},zl a=zl b->a=b
 | [],[],_=>rfl
 | [],_::_,h=>nomatch h
 | _::_,[],h=>nomatch h
 | a::l,b::m,h=>by
  unfold zl at h;rw[eX,eX]at h;injection h with h1 h2
  rw[zl_inj (a:=l) (b:=m) h2,show a=b by omega]
def leL(a b:List Nat):Bool:=!Srt.lexLt (zl b) (zl a)
def leL_iff{a b:List Nat}:leL a b=true↔Srt.lexLt (zl b) (zl a)=false:=by
 unfold leL
 cases Srt.lexLt (zl b) (zl a)<;>simp
def sortL(T:List (List Nat)):List (List Nat):=T.mergeSort leL
def kSZ(a b c:List Nat)(h:leL a b=true)(k:leL b c=true):leL a c=true:=by
 rw[leL_iff]at *
 cases e:Srt.lexLt (zl c) (zl a) with
 | false=>rfl
 | true =>
  rcases Srt.lex_neg _ (zl b) _ e with z | z
  ·rw[k]at z;cases z
  ·rw[h]at z;cases z
def kPV(a b:List Nat):(leL a b || leL b a)=true:=by
 rw[BO,leL_iff,leL_iff]
 cases e:Srt.lexLt (zl b) (zl a) with
 | false=>exact .inl rfl
 | true =>
  right
  cases f:Srt.lexLt (zl a) (zl b) with
  | false=>rfl
  | true =>
   have:=Srt.lex_tr _ _ _ e f;rw[Srt.lex_irr]at this;cases this
def kMW(a b:List Nat)(h:leL a b=true)(k:leL b a=true):a=b:=by
 rw[leL_iff]at h k;exact zl_inj (Srt.lex_tot _ _ k h)
def sortL_is{l m:List (List Nat)}(p:l.Perm m)(h:l.Pairwise (λ a b=>leL a b=true)):l=sortL m:=kFT kSZ kPV kMW p h
def zE(T:List (List Nat)):(sortL T).Perm T:=BV T leL
def leP_leL(a b:Nat×Nat):leL [a.1,a.2] [b.1,b.2]=leP a b:=by
 rw[iL,leL_iff,leP_iff];show Srt.lexLt [(b.1:Int),(b.2:Int)] [(a.1:Int),(a.2:Int)]=false↔_;unfold Srt.lexLt;by_cases e:(b.1:Int)=a.1
 ·rw[if_pos e]
  unfold Srt.lexLt;by_cases f:(b.2:Int)=a.2
  ·rw[if_pos f]
   exact⟨λ _=>by omega,λ _=>rfl⟩
  ·rw[if_neg f]
   rw[decide_eq_false_iff_not];omega
 ·rw[if_neg e]
  rw[decide_eq_false_iff_not];omega
open Classical in
noncomputable def per(W:Rows)(t:Nat×Nat):Nat:=if h:∃ k,0<k/\it (nxt W) k t=t/\∀ j,0<j->j<k->it (nxt W) j t≠t then wz h else 0
def per_is{W:Rows}{t:Nat×Nat}{k:Nat}(h0:0<k)(h1:it (nxt W) k t=t)(f:∀ j,0<j->j<k->it (nxt W) j t≠t):per W t=k:=by
 have d:∃ k,0<k/\it (nxt W) k t=t/\∀ j,0<j->j<k->it (nxt W) j t≠t:=⟨k,h0,h1,f⟩;unfold per;rw[dif_pos d];obtain⟨a,b,c⟩:=qr d;generalize wz d=m at *;rcases yk m k with l | l | l
 ·exact absurd b (f m a l)
 ·exact l
 ·exact absurd h1 (c k h0 l)
noncomputable def rnd(W:Rows)(t:Nat×Nat):List (Nat×Nat):=(cz (per W t)).map λ i=>it (nxt W) i t
noncomputable def fstep(W:Rows)(st:List (List Nat)×List (Nat×Nat))(t:Nat×Nat):List (List Nat)×List (Nat×Nat) :=
 if t∈st.2 then st else(st.1++[(rnd W t).map (·.1)],st.2++rnd W t)
noncomputable def fgo(W:Rows)(S:List (Nat×Nat)):List (List Nat)×List (Nat×Nat):=S.foldl (fstep W) ([],[])
def fgo_snoc(W:Rows)(S:List (Nat×Nat))(t:Nat×Nat):fgo W (S++[t])=fstep W (fgo W S) t:=by
 unfold fgo;rw[CQ]
 rfl
def stepsS(W:Rows):List (Nat×Nat):=sortP (kO W)
def tiesS(W:Rows):List (Nat×Nat):=(stepsS W).filter λ t=>decide (t.1<t.2)
noncomputable def xW(W:Rows):List (List Nat):=(fgo W (stepsS W)).1
noncomputable def facesS(W:Rows):List (List Nat):=sortL (xW W)
def mem_stepsS{W:Rows}{t:Nat×Nat}:t∈stepsS W↔E W t.1 t.2:=by
 unfold stepsS;rw[(sortP_perm _).mem_iff];exact mem_steps
section
variable {W:Rows} (S:Nb W)
def sH(S:Nb W):Rnd.Perm (nxt W) (kO W):=gZ S.nd S.sym
def gW(S:Nb W){t:Nat×Nat}(h:t∈kO W):0<per W t/\per W t<=(kO W).length/\it (nxt W) (per W t) t=t/\∀ j,0<j->j<per W t->it (nxt W) j t≠t:=by
 obtain⟨k,h1,c,b,a⟩:=(sH S).comes h;have e:=per_is h1 b a;rw[e];exact⟨h1,c,b,a⟩
def kIJ(S:Nb W){t:Nat×Nat}(h:t∈kO W):(rnd W t).Nodup:=(sH S).round_nodup h (gW S h).2.2.2
def rnd_len(W:Rows)(t:Nat×Nat):(rnd W t).length=per W t:=by unfold rnd;simp
def rnd_sub(S:Nb W){t u:Nat×Nat}(h:t∈kO W)(a:u∈rnd W t):u∈kO W:=by
 unfold rnd at a;obtain⟨i,_,rfl⟩:=iK.mp a;exact(sH S).it i h
def uK(S:Nb W){t u:Nat×Nat}(h:t∈kO W):u∈rnd W t↔∃ j,it (nxt W) j t=u:=by
 obtain⟨p0,_,back,_⟩:=gW S h;unfold rnd;rw[iK];constructor
 ·rintro⟨i,_,e⟩
  exact⟨i,e⟩
 ·rintro⟨j,e⟩
  refine⟨j % per W t,iB.mpr (Nat.mod_lt _ p0),?_⟩;rw[<-kEF _ _ back];exact e
def rnd_self(S:Nb W){t:Nat×Nat}(h:t∈kO W):t∈rnd W t:=(uK S h).mpr ⟨0,rfl⟩
def kAO(S:Nb W){t u:Nat×Nat}(h:t∈kO W)(a:u∈rnd W t):nxt W u∈rnd W t:=by
 obtain⟨j,rfl⟩:=(uK S h).mp a;exact(uK S h).mpr ⟨j+1,rfl⟩
structure FI(W:Rows)(T:List (Nat×Nat))(st:List (List Nat)×List (Nat×Nat)):Prop where
 reps:∃ R:List (Nat×Nat),(∀ r∈R,r∈T)/\st.1=R.map (λ r=>(rnd W r).map (·.1))/\st.2=R.flatMap (rnd W)
 nd:st.2.Nodup
 sub:∀ t∈st.2,t∈kO W
 cl:∀ t∈st.2,nxt W t∈st.2
 cov:∀ t∈T,t∈st.2
def FI.start(W:Rows):FI W [] ([],[]):=⟨⟨[],by simp,rfl,rfl⟩,yv,by simp,by simp,by simp⟩
theorem FI.it{T:List (Nat×Nat)}{st:List (List Nat)×List (Nat×Nat)}(h:FI W T st){t:Nat×Nat}(a:t∈st.2)(j:Nat):it (nxt W) j t∈st.2:=by
 induction j with
 | zero=>exact a
 | succ j ih=>exact h.cl _ ih
def FI.step(S:Nb W){T:List (Nat×Nat)}{st:List (List Nat)×List (Nat×Nat)}(h:FI W T st){t:Nat×Nat}(f:t∈kO W):FI W (T++[t]) (fstep W st t):=by
 unfold fstep;obtain⟨R,l,n,m⟩:=h.reps
 split
 ·rename_i c
  refine⟨⟨R,λ r g=>cj _ (l r g),n,m⟩,h.nd,h.sub,h.cl,λ u d=>?_⟩;rcases bu.mp d with z | z
  ·exact h.cov u z
  ·rw[de.mp z]
   exact c
 ·rename_i c
  have i:∀ a∈st.2,∀ b∈rnd W t,a≠b:=λ a o b p e=>by
   subst e;obtain⟨j,rfl⟩:=(uK S f).mp p;obtain⟨p0,_,back,_⟩:=gW S f
   have:Rnd.it (nxt W) (per W t*(j+1)-j) (Rnd.it (nxt W) j t)=t:=by
    have le:j<=per W t*(j+1):=fz (AR j) (Cz _ p0);rw[<-uC,EE le,kEF _ _ back,Eh]
    rfl
   rw[<-this]at c;exact c (h.it o _)
  refine⟨⟨R++[t],λ r g=>?_,by rw[eN,n];rfl,by rw[zd,m,xw]⟩,?_,λ u d=>?_,λ u d=>?_,λ u d=>?_⟩
  ·rcases bu.mp g with z | z
   ·exact cj _ (l r z)
   ·exact cw _ z
  ·exact bj.mpr ⟨h.nd,kIJ S f,i⟩
  ·rcases bu.mp d with z | z
   ·exact h.sub u z
   ·exact rnd_sub S f z
  ·rcases bu.mp d with z | z
   ·exact cj _ (h.cl u z)
   ·exact cw _ (kAO S f z)
  ·rcases bu.mp d with z | z
   ·exact cj _ (h.cov u z)
   ·rw[de.mp z]
    exact cw _ (rnd_self S f)
def fgo_ok(S:Nb W):∀(T:List (Nat×Nat)),(∀ t∈T,t∈kO W)->FI W T (fgo W T):=by
 intro T
 have:∀(n:Nat),n<=T.length->(∀ t∈T,t∈kO W)->FI W (T.take n) (fgo W (T.take n)):=λ n=>by
  induction n with
  | zero=>intro _ _;rw[De];exact FI.start W
  | succ n ih =>
   intro b a;have h:=ih (by omega) a;have e:T.take (n+1)=T.take n++[T[n]]:=by rw[jf,aa (by omega)];rfl
   rw[e,fgo_snoc];exact h.step S (a _ (gh _))
 intro a;have:=this T.length (bg _) a;rwa[iW]at this
def FI.len{T:List (Nat×Nat)}{st:List (List Nat)×List (Nat×Nat)}(h:FI W T st):st.2.length<=(kO W).length:=eI h.nd h.sub
end
end Fc
namespace Srt
set_option autoImplicit false
open PySem PySem.W PyProof.Rows
def kOJ(lb:bp->bp->Bool)(l:List ao):Prop:=l.Pairwise λ u v=>le lb (u,u) (v,v)
def kSM{lb:bp->bp->Bool}{c:List ao}{l:List bp}(p:l.Perm (c.zip c))(f:qZ lb l):(l.map (·.2)).Perm c/\kOJ lb (l.map (·.2)):=by
 have same:∀ x∈l,x=(x.2,x.2):=λ x d=>by
  have:=(mem_zip_self (p.mem_iff.mp d)).1;obtain⟨a,b⟩:=x;have:a=b:=this;rw[this]
 refine⟨?_,?_⟩
 ·have:=p.map (λ x:bp=>x.2)
  rwa[show(c.zip c).map (λ x:bp=>x.2)=c from Cj (bg _)]at this
 ·refine ip.mpr (f.imp_of_mem λ{x y} d g h=>?_)
  rw[<-same x d,<-same y g];exact h
section
variable {prog:eU} {w:gk} {A:fb} {E:ao->av->Prop} {s:av}
def kLN{lb:bp->bp->Bool}{D:bp->Prop}{kd:mj}(W:Wk lb){a:ay}{c:List ao}{n:Nat}{P:uo->av->Prop}(m:s.heap.get? a=some (seqObj "list" c.toArray n))(hz:c.length<=sizeLine)
  (J:2<=c.length->∀(l:iD),(∀ b o,o.cls≠.type "list"->s.heap.get? b=some o->l.get? b=some o)->∀ Q:mj->av->Prop,Q kd {s with heap:=l}->cx (model prog w) A (keyKind' c.toArray) Q E {s with heap:=l})
  (hL:∀(l:iD),(∀ b o,o.cls≠.type "list"->s.heap.get? b=some o->l.get? b=some o)->vM (model prog w) A E {s with heap:=l} lb D kd) (T:∀ v∈c,D (v,v))
  (h:∀ out:List ao,out.Perm c->kOJ lb out->P (.done (.ret .none)) {s with heap:=sortedHeap s.heap a c out.toArray}) :
  cx (model prog w) A (ph.«list.sort» ⟨[.ref a],[]⟩) P E s:=by
 rw[list_sort_plain];have ha:a<s.heap.objs.size:=cn m;refine ae (Ei m rfl (ae (CV m rfl ?_ (by simpa using hz) (fj _))));obtain⟨I,r⟩ : ∃ I,(s.heap.update a (qh λ _=>#[])).get? a=some (seqObj "list" #[] I):=⟨_,BP m (λ _=>#[])⟩;refine ae (FN r rfl (ae (Da (ae (Dw (fq ?_) (fj _))) (by simpa using hz))));generalize C:((s.heap.update a (qh λ _=>#[])).push (seqObj "tuple" c.toArray 0)).push (seqObj "list" #[] 0)=G
 have f:G.get? a=some (seqObj "list" #[] I):=by
  rw[<-C];exact ar _ (ar _ r)
 have N:∀ b o,o.cls≠.type "list"->s.heap.get? b=some o->G.get? b=some o:=λ b o O e=>by
  have hb:b≠a:=λ q=>by
   subst q;rw[m]at e;exact O (by cases e;rfl)
  rw[<-C];refine ar _ (ar _ ?_);rw[ze _ _ _ _ hb];exact e
 have heap:∀ out:List ao,sortedHeap s.heap a c out.toArray=G.update a (qh λ _=>out.toArray):=λ out=>by rw[<-C];rfl
 have eS:∀ X Y:Sem uo,X=Y->cx (model prog w) A X P E {s with heap:=G}->cx (model prog w) A Y P E {s with heap:=G}:=λ X Y e h=>e ▸ h
 have p:∀ d:eP,vy d=none->(di d).toList.Perm (c.zip c)->qZ lb (di d).toList ->
   P (.done (.ret .none)) {s with heap:=G.update a (qh λ _=>(di d).map (·.2))}:=λ d _ g H=>by
  have:=kSM g H;have q:=h _ this.1 this.2;rw[heap]at q;rw[show(di d).map (·.2)=((di d).toList.map (·.2)).toArray by rw[<-Array.toList_map]];exact q
 have y:∀{d:eP},(di d).toList.Perm (c.zip c)->((di d).map (·.2)).size<=sizeLine+1:=λ{d} g=>by
  have:=g.length_eq;rw[Array.size_map];simp at this;omega
 dsimp only;by_cases i:c.toArray.size<2
 ·rw[if_pos i,if_pos i]
  refine ae (az ?_);rw[StateT.run_pure];refine ae (az ?_)
  have g:(di (Cy general' (c.toArray.zip c.toArray) #[] 7 none)).toList.Perm (c.zip c):=by
   show(c.toArray.zip c.toArray).toList.Perm _;simp
  refine ae (FN f rfl (ae (CV f rfl ?_ (fj _) (y g))));dsimp only;simp only[bne_self_eq_false,eO,if_false];refine az (p (Cy general' (c.toArray.zip c.toArray) #[] 7 none) rfl g ?_)
  have:(c.zip c).length<=1:=by
   simp at i ⊢;omega
  show qZ lb (c.toArray.zip c.toArray).toList;rw[show(c.toArray.zip c.toArray).toList=c.zip c by simp];exact rT this
 ·rw[if_neg i,if_neg i]
  refine ae (J (by simp at i;omega) G N _ ?_)
  refine ae (xj (tF (s:={s with heap:=G}) W (hL G N) (st:=Cy kd (c.toArray.zip c.toArray) #[] 7 none) rfl rfl rfl (λ x B=>?_)
   (Q:=λ _ d=>(di d).toList.Perm (c.zip c)/\vy d=none/\qZ lb (di d).toList) λ d a1 S U=>⟨?_,S,U⟩) ?_ λ _ _ e=>e)
  ·have B:x∈(c.toArray.zip c.toArray).toList:=B
   rw[show(c.toArray.zip c.toArray).toList=c.zip c by simp]at B;obtain⟨L,Z⟩:=mem_zip_self B;obtain⟨u,v⟩:=x;have L:u=v:=L;subst L;exact T u Z
  ·refine a1.trans ?_
   show(c.toArray.zip c.toArray).toList.Perm _;simp
  ·rintro⟨⟨⟩,d⟩ s' ⟨rfl,g,M,H⟩
   refine ae (FN f rfl (ae (CV f rfl ?_ (fj _) (y g))));dsimp only;rw[M];simp only[bne_self_eq_false,eO,if_false];exact az (p d M g H)
def kEM{l:ay}{o:Obj}{a:List ao}{n:Nat}{Q:List ao->av->Prop}(m:s.heap.get? l=some o)(p:o.cls=.type "list"\/o.cls=.type "tuple")(y:o.data=.seq a.toArray n)(hz:a.length<=sizeLine)
  (h:∀ h1:iD,h1.objs.size=s.heap.objs.size+1->(∀ b u,s.heap.get? b=some u->h1.get? b=some u)->Q a {s with heap:=h1}):cx (model prog w) A (collect (.ref l)) Q E s:=by
 unfold collect;refine ae (Df (nh entry_proto_collect' ?_));show cx _ _ (newList [] >>= λ x=>again (.builtin "list.__iadd__" ⟨[x,.ref l],[]⟩)) _ _ s;refine ae (Dw (az ⟨Bw _ (by decide +kernel),nh entry_list_iadd' ?_⟩) (fj _));generalize f:s.heap.push (seqObj "list" #[] 0)=G;have q:G.objs.size=s.heap.objs.size+1:=by rw[<-f,size_push']
 have d:∀ b u,s.heap.get? b=some u->G.get? b=some u:=λ b u e=>by rw[<-f];exact ar _ e
 have c:G.get? s.heap.objs.size=some (seqObj "list" #[] 0):=by rw[<-f];exact cg _ rfl
 show cx _ _ (ue (.ref s.heap.objs.size) (.ref l) (.ref s.heap.objs.size)) _ _ {s with heap:=G}
 unfold ue
 have i:cx (model prog w) A (load s.heap.objs.size >>= λ o=>match o.data with
   | .seq xs _=>pure xs.toList
   | _=>unsupported "internal:collect") Q E {s with heap:=G.update s.heap.objs.size (qh (·++a.toArray))}:=by
  refine ae (Fe (BP c _) ?_);show cx _ _ (pure ((#[]:Array ao)++a.toArray).toList) Q E _;rw[show((#[]:Array ao)++a.toArray).toList=a by simp];refine az (h _ (by rw[Heap.size_update,q]) λ b u e=>?_);rw[ze _ _ _ _ (df (cn e))];exact d b u e
 have r:∃ T:String,o.cls=.type T/\(T = "list"\/T = "tuple"):=by
  rcases p with e | e
  ·exact⟨_,e,.inl rfl⟩
  ·exact⟨_,e,.inr rfl⟩
 obtain⟨T,v,g⟩:=r;refine ae (jz (T:=T) ⟨o,d l o m,v⟩ ?_)
 have B:(AH T == AH "list" || AH T == AH "tuple")=true:=by
  rcases g with rfl | rfl<;>rfl
 rw[if_pos (by rw[Bool.or_assoc,B,Bool.or_true])];refine ae (Ei (d l o m) y (ae (Ei (xs:=#[]) (n:=0) c rfl ?_)));rw[if_neg (by simp)];refine ae (CV (xs:=#[]) (n:=0) c rfl ?_ (fj _) (by show(#[]++a.toArray).size<=sizeLine+1;rw[yl];simp;omega));exact az i
def fW{lb:bp->bp->Bool}{D:bp->Prop}{kd:mj}(W:Wk lb){l:ay}{o:Obj}{f:List ao}{n:Nat}{Q:ao->av->Prop}(L:s.heap.get? l=some o)(J:o.cls=.type "list"\/o.cls=.type "tuple")(Y:o.data=.seq f.toArray n)(hz:f.length<=sizeLine)
  (y:2<=f.length->∀(r:fb)(B:ao->av->Prop)(d:iD),(∀ b o,o.cls≠.type "list"->s.heap.get? b=some o->d.get? b=some o)->∀ Q:mj->av->Prop,Q kd {s with heap:=d}->cx (model prog w) r (keyKind' f.toArray) Q B {s with heap:=d})
  (X:∀(r:fb)(B:ao->av->Prop)(d:iD),(∀ b o,o.cls≠.type "list"->s.heap.get? b=some o->d.get? b=some o)->vM (model prog w) r B {s with heap:=d} lb D kd) (S:∀ v∈f,D (v,v))
  (h:∀(a:List ao)(k:Nat)(h':iD),a.Perm f->kOJ lb a->(∀ b u,s.heap.get? b=some u->h'.get? b=some u)->h'.get? (s.heap.objs.size+1)=some (seqObj "list" a.toArray k)->Q (.ref (s.heap.objs.size+1)) {s with heap:=h'}) :
  cx (model prog w) A (call (.builtin "sorted") [.ref l]) Q E s:=by
 refine Calls.call_function_entry kind_sorted plain_sorted entry_sorted (args_sorted1 _) ?_;unfold ph.«sorted»;refine ae (m:=checkCount "sorted" 1 1 _) (az (ae (kEM L J Y hz λ h1 g M=>?_)));refine ae (Dw ?_ (by simpa using hz));generalize C:h1.push (seqObj "list" f.toArray 0)=G
 have i:G.get? (s.heap.objs.size+1)=some (seqObj "list" f.toArray 0):=by
  rw[<-C,<-g];exact cg _ rfl
 have x:∀ b u,s.heap.get? b=some u->G.get? b=some u:=λ b u e=>by
  rw[<-C];exact ar _ (M b u e)
 show cx _ _ _ _ _ {s with heap:=G}
 rw[g];refine ae (fq (je slot_list_sort ⟨_,i,rfl⟩ entry_list_sort (kLN (s:={s with heap:=G}) W i hz (λ N d p Q q=>y N _ _ d (λ b o c e=>p b o c (x b o e)) Q q) (λ d p=>X _ _ d λ b o c e=>p b o c (x b o e)) S λ a U T=>⟨_,rfl,?_⟩) (args_list_sort _)))
 have O:s.heap.objs.size+1<G.objs.size:=cn i;have I:(G.update (s.heap.objs.size+1) (qh λ _=>#[])).get? (s.heap.objs.size+1)=some (seqObj "list" #[] (if(#[]:Array ao).size == f.toArray.size then 0 else 1)):=BP i (λ _=>#[]);refine az ⟨_,rfl,h a _ _ U T (λ b u e=>?_) (BP (ar _ (ar _ I)) (λ _=>a.toArray))⟩;have H:b≠s.heap.objs.size+1:=df (tf (cn e));unfold sortedHeap;rw[ze _ _ _ _ H];refine ar _ (ar _ ?_);rw[ze _ _ _ _ H];exact x b u e
def sorted_tups{l:ay}{o:Obj}{r:List ao}{n:Nat}{Q:ao->av->Prop}(O:s.heap.get? l=some o)(N:o.cls=.type "list"\/o.cls=.type "tuple")(hd:o.data=.seq r.toArray n)(hz:r.length<=sizeLine)
  (L:∀ v∈r,TupI s.heap v)
  (h:∀(g:List ao)(k:Nat)(h':iD),g.Perm r->kOJ (lbT s.heap) g->(∀ b u,s.heap.get? b=some u->h'.get? b=some u)->h'.get? (s.heap.objs.size+1)=some (seqObj "list" g.toArray k)->Q (.ref (s.heap.objs.size+1)) {s with heap:=h'}) :
  cx (model prog w) A (call (.builtin "sorted") [.ref l]) Q E s:=by
 have B:∀{d:iD},(∀ b o,o.cls≠.type "list"->s.heap.get? b=some o->d.get? b=some o)->∀ b o,o.cls=.type "tuple"->s.heap.get? b=some o->d.get? b=some o:=λ i b o c e=>i b o (by rw[c];intro q;injection q with q;exact absurd q (by decide)) e
 refine fW (D:=λ x=>TupI s.heap x.1) (kd:=tuples' true) (kTA s.heap) O N hd hz (λ h2 Z E' d i Q q=>?_) (λ Z E' d i=>?_) (λ v f=>L v f) h
 ·have t6:∀ v∈r,TupI d v:=λ v f=>((L v f).kept (B i)).1
  have:∀ p:List ao,(∀ v∈p,TupI d v)->∃ fs,KatTups d p fs/\fs.length=p.length/\∀ v∈fs,∃ k t,v=uk k t:=λ p=>by
   induction p with
   | nil=>intro _;exact⟨[],.nil,rfl,by simp⟩
   | cons u p ih =>
    intro J;obtain⟨fs,G,H,C⟩:=ih λ v f=>J v (dq _ f);obtain⟨a,o,I,m,rfl,X,Y,M,e4,e5⟩:=J u (eV ..);refine⟨I[0]::fs,.cons X Y M (getElem?_pos I 0 e5) G,by simp[H],λ v f=>?_⟩;rcases cy.mp f with rfl | z
    ·exact e4 _ (by simp)
    ·exact C v z
  obtain⟨fs,G,H,C⟩:=this r t6;refine kat_kind (T:=.type "int") G (by omega) (λ v f=>?_) rfl q;obtain⟨k,t,rfl⟩:=C v f;exact Gm rfl
 ·intro x y hx U st Q S q
  have a:=hx.kept (B i);have b:=U.kept (B i);refine kIW (s:={s with heap:=d}) x y a.1 b.1 st Q S ?_
  show Q (some (lexLt (keyOf d x.1) (keyOf d y.1))) st;rw[a.2,b.2];exact q
def sorted_nums{l:ay}{o:Obj}{c:List ao}{n:Nat}{Q:ao->av->Prop}(r:s.heap.get? l=some o)(g:o.cls=.type "list"\/o.cls=.type "tuple")(B:o.data=.seq c.toArray n)(hz:c.length<=sizeLine)
  (f:∀ v∈c,∃ k t,v=uk k t)
  (h:∀(a:List ao)(k:Nat)(h':iD),a.Perm c->kOJ lbI a->(∀ b u,s.heap.get? b=some u->h'.get? b=some u)->h'.get? (s.heap.objs.size+1)=some (seqObj "list" a.toArray k)->Q (.ref (s.heap.objs.size+1)) {s with heap:=h'}) :
  cx (model prog w) A (call (.builtin "sorted") [.ref l]) Q E s:=by
 refine fW (D:=λ x=>∃ k t,x.1=.int k t) (kd:=oneType') kTB r g B hz (λ C y i m p Q q=>?_) (λ y i m p=>kIX) (λ v d=>f v d) h;refine kas_kind (T:=.type "int") C (λ v d=>?_) rfl rfl q;obtain⟨k,t,rfl⟩:=f v d;exact Gm rfl
end
def perm_back{α g:Type}{f:α->g}:∀{d c:List g},d.Perm c->∀{l:List α},c=l.map f->∃ m:List α,m.Perm l/\d=m.map f:=by
 intro d c h
 induction h with
 | nil =>
  intro l e
  match l,e with
  | [],_=>exact⟨[],.refl _,rfl⟩
 | cons x _ ih =>
  intro l e
  match l,e with
  | y::l,e =>
   rw[eX]at e;injection e with e1 e2
   obtain⟨m,a,b⟩:=ih e2;exact⟨y::m,a.cons y,by rw[eX,b,e1]⟩
 | swap x y l0 =>
  intro l e
  match l,e with
  | a::b::l,e =>
   rw[eX,eX]at e;injection e with e1 e2
   injection e2 with e2 e3
   exact⟨b::a::l,.swap _ _ _,by rw[eX,eX,e1,e2,e3]⟩
 | trans _ _ ih1 ih2 =>
  intro l e;obtain⟨m,a,b⟩:=ih2 e;obtain⟨o,n,i⟩:=ih1 b;exact⟨o,n.trans a,i⟩
end Srt
namespace L2
open PySem PySem.Spec PyProof.Rows
section
variable {X:Cx}
theorem bW:∀{b:List (ay×List Int)}{a:List ao},Vals (b.map λ q=>V.ref q.1) a->a=b.map λ q=>iM q.1
 | [],_,.nil=>rfl
 | p::b,_,.cons r t=>by
  rw[bW t,show _=iM p.1 from r]
  rfl
theorem oK:∀(a:List (ay×List Int)),Vals (a.map λ q=>V.ref q.1) (a.map λ q=>iM q.1)
 | []=>.nil
 | p::a=>.cons rfl (oK a)
def kTU(H:Hp)(a:List (ay×List Int)):Prop:=∀ q∈a,H q.1=some (.tup (q.2.map V.int))/\q.2≠[]
def pV{b:List (ay×Obj)}{p:St}{H:Hp}{s:av}(I:Inv X b p H s){a:ay}{c:List Int}(h:H a=some (.tup (c.map V.int)))(h0:c≠[]):Srt.TupI s.heap (.ref a)/\Srt.keyOf s.heap (.ref a)=c:=by
 obtain⟨r,d,⟨o,g,m,n,i⟩,v⟩:=I.tuple (SqT.of (K:=X.K) h);have f:=uM d;have l:=d.length;refine⟨⟨a,o,_,n,rfl,g,m,i,λ u q=>f.all u (by simpa using q),?_⟩,?_⟩
 ·rw[aj]at l
  have:0<c.length:=zf.mpr h0;simp;omega
 ·rw[Srt.TupI.key g i]
  exact f.nums
inductive dM(K:bb)(xs:List V)(H:Hp)(Q:VK):Prop
 | mk:∀(p:ay)(ps:List (ay×List Int)),(xs=[.ref p])->((SqL K H p (ps.map λ q=>V.ref q.1)\/SqT K H p (ps.map λ q=>V.ref q.1)))->(kTU H ps)->(∀(l:ay)(ps':List (ay×List Int)),H l=none->ps'.Perm ps->ps'.Pairwise (λ a b=>Srt.lexLt b.2 a.2=false)->Q (.ref l) (upd H l (.lst (ps'.map λ q=>V.ref q.1))))->dM K xs H Q
def mH:xR X (.builtin "sorted") (dM X.K):=by
 intro J s σ H xs us Q I r h;obtain⟨p,L,rfl,A,g,q⟩:=h;obtain⟨u,rfl,rx⟩:=zD r;cases rx
 have obj:∃(o:Obj)(n:Nat),s.heap.get? p=some o/\(o.cls=.type "list"\/o.cls=.type "tuple")/\o.data=.seq (L.map λ q=>iM q.1).toArray n/\L.length<=sizeLine:=by
  rcases A with A | A
  ·obtain⟨D,C,y,f⟩:=I.list A
   rw[bW C]at y;obtain⟨o,m,i,n,l⟩:=y.isList;exact⟨o,n,m,.inl i,l,by simpa using f⟩
  ·obtain⟨D,C,y,f⟩:=I.tuple A
   rw[bW C]at y;obtain⟨o,m,i,n,l⟩:=y;exact⟨o,n,m,.inr i,l,by simpa using f⟩
 obtain⟨o,n,m,i,l,f⟩:=obj;refine Srt.sorted_tups m i l (by simpa using f) (λ v hv=>?_) λ a0 k O Y T S e=>?_
 ·obtain⟨x,N,rfl⟩:=iK.mp hv
  exact(pV I (g x N).1 (g x N).2).1
 ·obtain⟨d,c,rfl⟩:=Srt.perm_back Y rfl
  refine⟨.ref (s.heap.objs.size+1),_,I.laid (t':=s.toks) S (AR _) (show ObjOk X.prog X.w _ O _ (.lst (d.map λ q=>V.ref q.1)) from⟨by simpa[c.length_eq] using f,_,k,oK d,e⟩),rfl,q _ d (I.hok.fresh (AR _)) c ?_⟩;refine(ip.mp T).imp_of_mem λ{a b} M G B=>?_;have U:=(pV I (g a (c.mem_iff.mp M)).1 (g a (c.mem_iff.mp M)).2).2;have Z:=(pV I (g b (c.mem_iff.mp G)).1 (g b (c.mem_iff.mp G)).2).2;have B:Srt.lexLt (Srt.keyOf s.heap (.ref b.1)) (Srt.keyOf s.heap (.ref a.1))=false:=B;rw[U,Z]at B;exact B
inductive dN(K:bb)(xs:List V)(H:Hp)(Q:VK):Prop
 | mk:∀(p:ay)(ns:List Int),(xs=[.ref p])->((SqL K H p (ns.map V.int)\/SqT K H p (ns.map V.int)))->(∀(l:ay)(ns':List Int),H l=none->ns'.Perm ns->ns'.Pairwise (·<=·)->Q (.ref l) (upd H l (.lst (ns'.map V.int))))->dN K xs H Q
def mI:xR X (.builtin "sorted") (dN X.K):=by
 intro J s Z H xs S Q I r h;obtain⟨p,G,rfl,x,q⟩:=h;obtain⟨u,rfl,Y⟩:=zD r;cases Y
 have obj:∃(o:Obj)(n:Nat)(c:List ao),s.heap.get? p=some o/\(o.cls=.type "list"\/o.cls=.type "tuple")/\o.data=.seq c.toArray n/\c.length<=sizeLine/\Vals (G.map V.int) c:=by
  rcases x with x | x
  ·obtain⟨c,m,C,f⟩:=I.list x
   obtain⟨o,i,g,n,l⟩:=C.isList;exact⟨o,n,c,i,.inl g,l,by rw[<-m.length];exact f,m⟩
  ·obtain⟨c,m,C,f⟩:=I.tuple x
   obtain⟨o,i,g,n,l⟩:=C;exact⟨o,n,c,i,.inr g,l,by rw[<-m.length];exact f,m⟩
 obtain⟨o,n,c,i,g,l,f,O⟩:=obj;have B:=uM O;refine Srt.sorted_nums i g l f (λ v y=>B.all v y) λ d k N A L T e=>?_;have all:∀ v∈d,∃ k t,v=uk k t:=λ v y=>B.all v (A.mem_iff.mp y)
 have M:Vals ((d.map numOf).map V.int) d:=by
  clear e L A
  induction d with
  | nil=>exact .nil
  | cons u S ih =>
   obtain⟨k,t,rfl⟩:=all u (eV ..);exact .cons ⟨t,rfl⟩ (ih λ v y=>all v (dq _ y))
 have U:(d.map numOf).Perm G:=by
  have:=A.map numOf;rwa[B.nums]at this
 refine⟨.ref (s.heap.objs.size+1),_,I.laid (t':=s.toks) T (AR _) (show ObjOk X.prog X.w _ N _ (.lst ((d.map numOf).map V.int)) from⟨?_,_,k,M,e⟩),rfl,q _ _ (I.hok.fresh (AR _)) U ?_⟩
 ·rw[aj,aj,A.length_eq]
  exact f
 ·refine ip.mpr (L.imp λ{a b} D=>?_)
  have D:decide (numOf b<numOf a)=false:=D;have:=of_decide_eq_false D;omega
end
end L2
namespace Hsh
set_option autoImplicit false
open PySem PySem.Spec PyProof.Rows
def kJN:Nat->List Nat->Bool
 | 0,l=>l.length<=1
 | k+1,l=>match l with
  | []=>true
  | [_]=>true
  | l=>kJN k (l.filter λ n=>(n / 2 ^ k) % 2 == 0) && kJN k (l.filter λ n=>!((n / 2 ^ k) % 2 == 0))
def kQF:∀(k:Nat)(l:List Nat),kJN k l=true->l.Nodup:=by
 intro k
 induction k with
 | zero =>
  intro l h
  match l,h with
  | [],_=>exact yv
  | [x],_=>exact eK.mpr ⟨by simp,yv⟩
  | _::_::_,h=>simp[kJN]at h
 | succ k ih =>
  intro l h
  match l,h with
  | [],_=>exact yv
  | [x],_=>exact eK.mpr ⟨by simp,yv⟩
  | a::b::l,h =>
   unfold kJN at h;rw[iP]at h;have h1:=ih _ h.1;have g:=ih _ h.2;generalize a::b::l=m at *
   have:∀ m:List Nat,(m.filter λ n=>(n / 2 ^ k) % 2 == 0).Nodup->(m.filter λ n=>!((n / 2 ^ k) % 2 == 0)).Nodup->m.Nodup:=λ m=>by
    induction m with
    | nil=>intro _ _;exact yv
    | cons x m ih =>
     intro d c
     have mem:x∉m:=λ f=>by
      cases e:(x / 2 ^ k) % 2 == 0 with
      | true =>
       rw[sd,if_pos e]at d;exact(eK.mp d).1 (iG.mpr ⟨f,e⟩)
      | false =>
       rw[sd,if_pos (by rw[e];rfl)]at c;exact(eK.mp c).1 (iG.mpr ⟨f,by rw[e];rfl⟩)
     refine eK.mpr ⟨mem,ih ?_ ?_⟩
     ·rw[sd]at d
      split at d
      ·exact(eK.mp d).2
      ·exact d
     ·rw[sd]at c
      split at c
      ·exact(eK.mp c).2
      ·exact c
   exact this m h1 g
def hp(p q:Nat):Nat:=(reduceHash (GT [hashInt (p:Int),hashInt (q:Int)])+2 ^ 63).toNat
def all:List Nat:=(cz 1764).map λ i=>hp (i / 42) (i % 42)
def kOE:kJN 64 all=true:=by decide +kernel
def hp_inj{p q c d:Nat}(h1:p<42)(h:q<42)(g:c<42)(f:d<42)(e:hp p q=hp c d):p=c/\q=d:=by
 have nd:=kQF 64 all kOE
 have at':∀ p q:Nat,p<42->q<42->all[42*p+q]?=some (hp p q):=λ p q a b=>by
  unfold all;rw[bh,wu (by omega)];show some (hp ((42*p+q) / 42) ((42*p+q) % 42))=_;rw[show(42*p+q) / 42=p by omega,show(42*p+q) % 42=q by omega]
 have a:=at' p q h1 h;have b:=at' c d g f;rw[<-e]at b;have:=(Ad (au.mp a).1 nd).mp (a.trans b.symm);omega
end Hsh
namespace Dct
set_option autoImplicit false
open PySem PySem.Spec PyProof.Rows
section
variable {prog:eU} {w:gk} {A:fb} {E:ao->av->Prop} {s:av} {κ:Type} [DecidableEq κ] {kd:KeyKind prog w κ}
def fold(xs ys:List (List κ×ay×ao)):List (List κ×ay×ao):=ys.foldl (λ a y=>storedH a y.1 y.2.1 y.2.2) xs
def fold_len(xs ys:List (List κ×ay×ao)):(fold xs ys).length<=xs.length+ys.length:=by
 induction ys generalizing xs with
 | nil=>exact bg _
 | cons y ys ih =>
  have:=ih (storedH xs y.1 y.2.1 y.2.2)
  have l:(storedH xs y.1 y.2.1 y.2.2).length<=xs.length+1:=by
   unfold storedH
   split<;>simp
  rw[eh];unfold fold at *;rw[ux];omega
theorem kBU:∀(xs ys:List (List κ×ay×ao)),((xs++ys).map (·.1)).Nodup->fold xs ys=xs++ys
 | xs,[],_=>by rw[iY];rfl
 | xs,y::ys,h=>by
  have a:atKey xs y.1=none:=by
   refine Ej λ j p e=>?_;rw[eN,eX,bj]at h;exact h.2.2 y.1 (iK.mpr ⟨_,eA e,rfl⟩) y.1 (eV ..) rfl
  unfold fold;rw[ux,storedH_new a];have:=kBU (xs++[y]) ys (by simpa using h);unfold fold at this;rw[show(y.1,y.2.1,y.2.2)=y from rfl,this];simp
def pE(xs ys:List (List κ×ay×ao))(i:Nat)(y:List κ×ay×ao)(h:ys[i]?=some y):fold xs (ys.take (i+1))=storedH (fold xs (ys.take i)) y.1 y.2.1 y.2.2:=by
 unfold fold;rw[List.take_add_one,h,CQ]
 rfl
def gQ{d a:ay}{xs:List (List κ×ay×ao)}{k:List κ}{v:ao}{Q:Unit->av->Prop}(I:A.units<cLine)(C:(tupleKind kd).is s.heap k a)(G:s.heap.DictOfH (tupleKind kd) d xs)(hz:xs.length<=sizeLine)
  (q:∀ h',h'.DictOfH (tupleKind kd) d (storedH xs k a v)->jx d s.heap h'->Q () {s with heap:=h'}):cx (model prog w) A (dictSetHashed d (.ref a) ((tupleKind kd).hash k) v) Q E s:=by
 obtain⟨o,H,D,c,r,b,i,f,h⟩:=G;have sz:=DM i;unfold dictSetHashed
 try with_reducible refine fq ?_
 refine ae (wpAny_dictFind_heap (knd:=tupleKind kd) I C c b i f h (λ u=>?_) λ j p B=>?_)
 ·have J:=not_mem_keys_of_get u
  have e:=storedH_new (Ej u) a v;refine ae (uz (wpAny_updateDictKeys (hz:=by omega) c b (q _ ⟨_,_,D+1,lj _ c (BW (yq b _)),r.mapDictKeys _,yq b _,?_,?_,?_⟩ (jw ..))))
  ·rw[e]
   simp[i,entryOfKey]
  ·rw[e]
   intro x g;rcases bu.mp g with z | z
   ·exact(tupleKind kd).keeps (f x z) c b (jw ..)
   ·rw[de.mp z]
    exact(tupleKind kd).keeps C c b (jw ..)
  ·rw[e,eN,bj]
   refine⟨h,by simp,λ x g y n z=>J ?_⟩;have:y=k:=by simpa using n
   rw[<-this,<-z];exact g
 ·have e:=storedH_old (atKey_of_get h B) a v
  refine ae (uz (ae (wpAny_updateDict c b (wpAny_point (q _ ⟨_,_,D,lj _ c (BW (FD b _)),r.mapDict _,FD b _,?_,?_,?_⟩ (jw ..))))))
  ·rw[e]
   have m:=modify_map_putAt (entryOfKey (tupleKind kd)) (λ z:Ce=>{z with val:=v}) k v (λ _ _=>rfl) h B
   rw[<-i]at m;obtain⟨l⟩:=H;simpa using m
  ·rw[e]
   intro x g;obtain⟨y,n,rfl⟩:=iK.mp g;unfold putAt
   split<;>exact(tupleKind kd).keeps (f y n) c b (jw ..)
  ·rw[e,keys_map_putAt]
   exact h
def kIL{k:List κ}{a:ay}{Q:Bool->av->Prop}(b:(tupleKind kd).is s.heap k a)(q:Q false s):cx (model prog w) A (Dg (.ref a)) Q E s:=by
 unfold Dg;have b:IsTupleKey kd s.heap k a:=b;refine ae (AC b.typeIs F.slot_tuple_eq.lookup (az ?_));exact q
def kBX{id:String}{d:ay}{o:Obj}{a:Array Ce}{ep:Nat}{xs:List (List κ×ay×ao)}{Q:Array Ce->av->Prop}(B:s.heap.get? d=some o)(C:o.data=.dict a ep)(u:a.toList=xs.map (entryOfKey (tupleKind kd)))(m:∀ x∈xs,(tupleKind kd).is s.heap x.1 x.2.1)
  (v:(xs.map λ x=>(tupleKind kd).hash x.1).Nodup) (q:Q a s):cx (model prog w) A (BQ id d) Q E s:=by
 have n:∀ e∈a,¬ (a.filter λ z=>z.hash == e.hash).size>1:=λ e f g=>by
  have:(a.toList.map λ z=>z.hash)=xs.map λ x=>(tupleKind kd).hash x.1:=by
   rw[u,uf]
   rfl
  rw[<-this]at v
  have l:(a.filter λ z=>z.hash == e.hash).size=((a.toList.map λ z=>z.hash).filter λ z=>z == e.hash).length:=by
   rw[<-fw,Array.toList_filter,List.filter_map,aj]
   rfl
  have c:=List.nodup_iff_count.mp v e.hash;rw[List.count_eq_length_filter]at c;omega
 unfold BQ;refine ae (tw B C (ae ?_));rw[<-Array.forIn_toList];refine Ax _ (λ rest _ p=>p=s/\∀ e∈rest,e∈a) _ ?_ ?_ _ _ ⟨rfl,λ e h=>vk.mp h⟩
 ·rintro e rest b p ⟨rfl,r⟩
  have f:=r e (eV ..)
  obtain⟨x,i,rfl⟩ : ∃ x∈xs,e=entryOfKey (tupleKind kd) x:=by
   have:e∈xs.map (entryOfKey (tupleKind kd)):=u ▸ vk.mpr f;obtain⟨x,i,z⟩:=iK.mp this;exact⟨x,i,z.symm⟩
  refine ae (kIL (m x i) ?_);simp only[GA,if_true];rw[if_neg (n _ f)];exact az ⟨rfl,λ z y=>r z (dq _ y)⟩
 ·rintro b p ⟨rfl,_⟩
  exact az q
def kIV{nm:String}{d o:ay}{xs ys:List (List κ×ay×ao)}{Q:Unit->av->Prop}(hu:A.units<cLine)(L:d≠o)(X:(o == sysModules)=false)(hd:s.heap.DictOfH (tupleKind kd) d xs)(ho:s.heap.DictOfH (tupleKind kd) o ys)
  (hz:xs.length+ys.length<=sizeLine) (hh:xs=[]->(ys.map λ y=>(tupleKind kd).hash y.1).Nodup)
  (q:∀ h',h'.DictOfH (tupleKind kd) d (fold xs ys)->jx d s.heap h'->Q () {s with heap:=h'}):cx (model prog w) A (DA nm d o) Q E s:=by
 obtain⟨od,U,a2,v,a0,n,a1,a3,a5⟩:=id hd;obtain⟨O,a,a6,p,a4,c,G,u,S⟩:=id ho;have H:=DM G;have T:=DM a1;unfold DA;rw[if_neg (by simpa using L)];unfold HC;rw[if_neg (by rw[X];exact dw)]
 refine ae (az (ae (tw p c ?_)))
 have J:∃ h' i,s={s with heap:=h'}/\AV 0 a.size=AV i (a.size-i)/\i<=a.size/\h'.DictOfH (tupleKind kd) d (fold xs (ys.take i))/\h'.get? o=some O/\jx d s.heap h' :=
  ⟨s.heap,0,rfl,rfl,fj _,by rw[De];exact hd,p,CM _ _⟩
 dsimp only
 split
 ·refine ae (tw v n ?_)
  split
  ·rename_i hemp
   have z:xs=[]:=by
    have h0:U = #[]:=Ek.mp hemp;rw[h0]at T;exact iq.mp T.symm
   subst z;have ff:fold [] ys=ys:=kBU [] ys S;rw[ff]at q;refine ae (kBX p c G u (hh rfl) ?_)
   split
   ·refine ae (wpAny_updateDictKeysTo v n (az (q _ ⟨_,_,a2+1,lj _ v (BW (yq n _)),a0.mapDictKeys _,yq n _,G,λ x hx=>(tupleKind kd).keeps (u x hx) v n (jw ..),S⟩ (jw ..))) ?_)
    simp only[qv]at hz;omega
   ·rename_i hne
    have h0:a = #[]:=Ek.mp (by simpa using hne)
    have z:ys=[]:=by
     rw[h0]at H;exact iq.mp H.symm
    subst z;exact az (q _ hd (CM _ _))
  ·refine ae (BR p c (ae (tw p c (ae ?_))))
   rw[si];simp only[Ao,El,EF,HQ];refine Ax _ (λ rest _ M=>∃ h' i,M={s with heap:=h'}/\rest=AV i (a.size-i)/\i<=a.size/\h'.DictOfH (tupleKind kd) d (fold xs (ys.take i))/\h'.get? o=some O/\jx d s.heap h') _ ?_ ?_ _ _ J
   ·rintro x rest b M ⟨h',i,rfl,r,Y,l,f,h⟩
    by_cases C:i<a.size
    ·rw[show a.size-i=(a.size-(i+1))+1 by omega,wx]at r
     injection r with h1 h2
     subst h1;refine ae (tw f c ?_);have I:ys[x]?=some (ys[x]'(by omega)):=aa _;rw[entry_at G x,I];generalize ys[x]'(by omega)=y at I;have Z:(tupleKind kd).is h' y.1 y.2.1:=(tupleKind kd).keeps (u y (eA I)) v n h;have lz:=fold_len xs (ys.take x);have lt:(ys.take x).length<=ys.length:=by rw[eJ];omega
     refine ae (fq (gQ (s:={s with heap:=h'}) hu Z l (by omega) λ D B m=>?_))
     have g:D.get? o=some O:=(m.2 o (qe L)).trans f;refine ae (BR g c ?_);rw[if_neg (by simp)];exact az ⟨D,x+1,rfl,h2,C,by rw[pE xs ys x y I];exact B,g,h.trans m⟩
    ·rw[show a.size-i=0 by omega]at r
     exact nomatch r
   ·rintro b M ⟨h',i,rfl,r,Y,l,f,h⟩
    have N:i=a.size:=by
     by_cases C:i<a.size
     ·rw[show a.size-i=(a.size-(i+1))+1 by omega,wx]at r
      exact nomatch r
     ·omega
    refine az (q h' ?_ h);rw[N,H,iW]at l;exact l
 ·refine ae (BR p c (ae (tw p c (ae ?_))))
  rw[si];simp only[Ao,El,EF,HQ];refine Ax _ (λ rest _ M=>∃ h' i,M={s with heap:=h'}/\rest=AV i (a.size-i)/\i<=a.size/\h'.DictOfH (tupleKind kd) d (fold xs (ys.take i))/\h'.get? o=some O/\jx d s.heap h') _ ?_ ?_ _ _ J
  ·rintro x rest b M ⟨h',i,rfl,r,Y,l,f,h⟩
   by_cases C:i<a.size
   ·rw[show a.size-i=(a.size-(i+1))+1 by omega,wx]at r
    injection r with h1 h2
    subst h1;refine ae (tw f c ?_);have I:ys[x]?=some (ys[x]'(by omega)):=aa _;rw[entry_at G x,I];generalize ys[x]'(by omega)=y at I;have Z:(tupleKind kd).is h' y.1 y.2.1:=(tupleKind kd).keeps (u y (eA I)) v n h;have lz:=fold_len xs (ys.take x);have lt:(ys.take x).length<=ys.length:=by rw[eJ];omega
    refine ae (fq (gQ (s:={s with heap:=h'}) hu Z l (by omega) λ D B m=>?_))
    have g:D.get? o=some O:=(m.2 o (qe L)).trans f;refine ae (BR g c ?_);rw[if_neg (by simp)];exact az ⟨D,x+1,rfl,h2,C,by rw[pE xs ys x y I];exact B,g,h.trans m⟩
   ·rw[show a.size-i=0 by omega]at r
    exact nomatch r
  ·rintro b M ⟨h',i,rfl,r,Y,l,f,h⟩
   have N:i=a.size:=by
    by_cases C:i<a.size
    ·rw[show a.size-i=(a.size-(i+1))+1 by omega,wx]at r
     exact nomatch r
    ·omega
   refine az (q h' ?_ h);rw[N,H,iW]at l;exact l
end
def meets_upd{prog:eU}{w:gk}{i:Type}[DecidableEq i](kd:KeyKind prog w i)(d o:ay)(b:d≠o)(f:(o == sysModules)=false) :
  MeetsIn prog w (ph.«dict.update» ⟨[.ref d,.ref o],[]⟩) (λ A R s=>A.in1.units<cLine/\∃ xs ys,s.heap.DictOfH (tupleKind kd) d xs/\s.heap.DictOfH (tupleKind kd) o ys/\xs.length+ys.length<=sizeLine/\(xs=[]->(ys.map λ y=>(tupleKind kd).hash y.1).Nodup) /\
   ∀ h',h'.DictOfH (tupleKind kd) d (fold xs ys)->jx d s.heap h'->R (.ok (.ret .none)) {s with heap:=h'}) :=
 .of_wp λ A R s ⟨n,xs,ys,l,a,m,p,h⟩=>by
  unfold ph.«dict.update»;refine ae ?_;unfold zv;refine ae (Ar l.typeIs ?_);refine az (show cx _ _ (ow "dict.update" d (.ref o) [] .none) _ _ s from ?_);unfold ow;refine ae (jz a.typeIs ?_);rw[if_neg (by decide)];refine ae ?_;unfold Ha;refine ae ?_;unfold GU;refine ae (oz a.typeIs isSubtype_dict_dict ?_);simp only[zr,eO,if_false];refine ae (AC a.typeIs F.slot_dict_iter.lookup (az ?_));simp only[beq_self_eq_true,if_true];refine ae (az (kIV n b f l a m p λ h' c g=>?_));refine show cx _ _ (AA d [] >>= _) _ _ _ from ?_;exact ae (az (az ⟨.none,rfl,h h' c g⟩))
end Dct
namespace L2
open PySem PySem.Spec PyProof.Rows
section
variable {X:Cx} {pins:List (ay×Obj)} {σ:St} {H:Hp} {s:av} {a:ay} {y v:V} {u r:ao} {o:Option V} {A:fb} {E:ao->av->Prop}
def kJR{H':Hp}{Q:Unit->av->Prop}(T:A.units<cLine)(I:Inv X pins σ H s)(g:DPut H a y v H')(G:RelV y u)(D:RelV v r)(h:∀ s',Inv X pins σ H' s'->Q () s') :
  cx (model X.prog X.w) A (dictSet a u r) Q E s:=by
 rcases g with⟨i,k,e,n,l,p⟩ | ⟨i,k,b,e,n,J,l,p⟩
 ·subst n p
  obtain⟨z,B,Z,d,o⟩:=bQ I.hok e;refine BX (hsz:=by rw[<-d.length];exact z) (uS G) o λ S f x=>h _ ?_;exact zA I (by rw[e];exact nj) x (let ⟨q,_,_,m,_⟩:=f;⟨q,m⟩) (mE (by have:=qP i k v;omega) B (d.put k D) f)
 ·subst n p
  cases(show u=iM b from G)
  obtain⟨z,B,xs,d,o⟩:=kHA I.hok e;refine wpAny_dictSet_heap (hsz:=by rw[<-wk d];exact z) T (aH I.hok J) o λ S f x=>h _ ?_;obtain⟨q,O,L,m,N,U,M,_,Y⟩:=f;refine zA I (by rw[e];exact nj) x ⟨q,m⟩ ⟨by have:=qP i k v;omega,B,_,(d.put k J D).keeps λ c ys C=>?_,q,O,L,m,N,U,M,Y⟩;rw[kK (wI C e (λ z=>nomatch z))];exact C
end
def kVL(D:ay)(tk d:TE):TB:=λ N a H=>tk a H λ y f=>d a f λ v c=>∃ b,DPut c D y v b/\N a b
def rY{X:Cx}{d f:iC}{tk c:TE}{D:ay}(M:X.A.units+1<cLine)(o:PE X d tk)(B:PE X f c):PBd X (dH d f X.env (.ref D)) (kVL D tk c):=by
 intro a s b H N I h;unfold dH;refine ae (thn (o a s b H _ I h) λ L n ⟨y,m,v,l,q⟩=>?_);refine ae (fq (thn (B a n b m _ v q) λ O G ⟨x,J,p,u,i,g,r⟩=>?_));exact ae (yd (fq (kJR (by omega) p g l u λ Q C=>⟨b,i,C,r⟩)))
section
variable {X:Cx} {tg iter kx vx:iC} {ifs:List iC} {sc:wq} {pos:Pos} {Nc:List Str} {js:List (Option Nat)} {wi:TI}
def kWB(js:List (Option Nat))(c:TI)(g:TG)(d:ay->TB):TE:=λ b H Q=>c b H λ J a=>∀ D,a D=none->vP J g (d D) (λ _ f=>Q (.ref D) f) (cP js b) (upd a D (.dT []))
def kPI{g:TG}{bd:ay->TB}(hx:X.xe=λ _ _=>False)(hc:X.calm=true)(hi:PI X tg iter wi)(S:CS sc X.env.scope)(a1:bS js Nc X.N sc.names=true)
  (hg:∀ C s₂ H₂ fp pins,PG (cxC X Nc sc C s₂ H₂ fp pins) tg g)
  (m:∀ C s₂ H₂ fp pins D L,PTl (cxC X Nc sc C s₂ H₂ fp pins) (xJ ifs (cxC X Nc sc C s₂ H₂ fp pins).env (dH kx vx (cxC X Nc sc C s₂ H₂ fp pins).env (.ref D)) L) L (bd D))
  (hs:∀ x,foldedSetIterable iter X.env x=pure x:=by intro _;rfl) :
  PE X (.DictComp kx vx [⟨tg,iter,ifs,0⟩] sc pos) (kWB js wi g bd):=by
 intro pins s σ H Q I h;rw[CO];have a4:closureFor sc X.env=pure (uQ sc X.env):=yD λ y hy hf=>I.ok.has y.1 (.inl (S.free y hy hf));refine mh (use:=none) rfl hs a4 S.kind S.names (thn (hi pins s σ H _ I h) λ v s1 h1=>thn h1 λ a6 d h2=>?_);obtain⟨it,fp,tn,J,M,e,O,T,a0,f2,hw⟩:=h2;subst e;have r:∀ b∈fp,b<d.heap.objs.size:=λ b m=>let ⟨o,ho,_⟩:=T.obj _ _ a0 b m;cn ho;refine iQ (se S.nocell (by intro y hy;simp at hy) (λ i f a=>?_) S.kind);dsimp only at f a ⊢;generalize u:d.heap.push {cls:=.type "dict",dict:=none,data:=.dict #[]}=G at f a ⊢;have a5:G.objs.size=d.heap.objs.size+1:=by rw[<-u,jq]
 have Y:d.heap.objs.size≠G.objs.size:=by omega
 have l:d.heap.objs.size<=G.objs.size:=by omega
 have U:∀ b o,d.heap.get? b=some o->i.get? b=some o:=λ b o e=>a.extBut b o (df (dc (cn e) l)) (ar _ (u ▸ ar _ e));have B:i.get? d.heap.objs.size=some {cls:=.type "dict",dict:=none,data:=.dict #[]}:=a.extBut _ _ Y (ar _ (u ▸ cg _ rfl))
 have new:ObjOk X.prog X.w (upd M d.heap.objs.size (.dT [])) i d.heap.objs.size (.dT []):=by
  exact⟨fj _,beq_eq_false_iff_ne.mpr (qe (df O.big)),[],.nil,_,_,_,B,⟨rfl,rfl,rfl⟩,rfl,rfl,yv⟩
 have I4:=wK (js:=js) (Nc:=Nc) (tk:=d.toks+([]:List (Str×ao)).length) O S f2 r a1 l (bg _) Y U f new;have hn:M d.heap.objs.size=none:=O.fresh
 have f4:∀ b∈fp,yN (cxC X Nc sc G.objs.size d M fp pins) [] (upd M d.heap.objs.size (.dT [])) b:=λ b m=>by
  obtain⟨h0,h1,h2,h3,h4,h5⟩:=f2 b m;refine⟨?_,df (dc (r b m) l),λ z=>?_,.inl m,λ x c z=>?_,λ p hp=>?_⟩
  ·rw[kK (df (r b m))];exact h0
  ·rcases cy.mp (O.stkSub b z) with q | q
   ·exact h1 q
   ·exact h2 q
  ·exact h4 x c (bR sc.names [] (λ z=>nomatch z) z)
  ·rcases bu.mp hp with z | z
   ·exact h5 p z
   ·exact absurd z (by simp)
 have Z:tn 0 i:=T.keep _ _ _ a0 λ b m o e=>U b o e
 have n:codeAny (model X.prog X.w) X.A (.compLoop (.DictComp kx vx [⟨tg,iter,ifs,0⟩] sc pos) 0 (.ref it) (.ref d.heap.objs.size) (compEnvC sc (uQ sc X.env) G.objs.size X.env))
   (compPost (model X.prog X.w) X.A X.xe none (EP X pins σ Q) (.ref d.heap.objs.size) G.objs.size) {d with heap:=i,toks:=d.toks+([]:List (Str×ao)).length}:=by
  refine xQ (X:=cxC X Nc sc G.objs.size d M fp pins) (.inr ⟨kx,vx,rfl⟩) hx hc (kEV _ _ _ _ _ _ _ _ _ _) T (hg _ _ _ _ _) (m _ _ _ _ _ _ _) I4 Z f4 (hw _ hn) λ a7 H' s' I' q=>?_;obtain⟨m',a2,_⟩:=I'.loc;exact⟨m',a2,λ h' a3=>⟨.ref d.heap.objs.size,H',wL O f2 l I' a3,rfl,q⟩⟩
 exact jY (.inr ⟨kx,vx,rfl⟩) rfl rfl n (T.self _ _ _ _ _ Z n)
def xV(kvs more:List (List Key×V)):List (List Key×V):=more.foldl (λ a y=>xB a y.1 y.2) kvs
theorem KT.fold{H:Hp}:∀{more:List (List Key×V)}{ys:List (List Key×ay×ao)}{kvs:List (List Key×V)}{xs:List (List Key×ay×ao)},KT H kvs xs->KT H more ys->KT H (xV kvs more) (Dct.fold xs ys)
 | [],_,_,_,r,.nil=>r
 | p::more,_,kvs,xs,r,.cons (b:=q) z t=>by
  have:=KT.fold (KT.put r q.1 (b:=q.2.1) (y:=p.2) (u:=q.2.2) (by rw[<-z.1];exact z.2.1) z.2.2) t;rw[<-z.1]at this;unfold xV at *;unfold Dct.fold at *;rw[ux,ux,<-z.1];exact this
def kOI(k:List Key):Prop:=∃ p q:Nat,k=[AY (p:Int),AY (q:Int)]/\p<42/\q<42
def kQC{prog:eU}{w:gk}:∀{ys:List (List Key×ay×ao)},(∀ y∈ys,kOI y.1)->(ys.map (·.1)).Nodup->(ys.map λ y=>(tupleKind (kX prog w)).hash y.1).Nodup:=by
 intro ys hp nd;have:ys.map (λ y=>(tupleKind (kX prog w)).hash y.1)=(ys.map (·.1)).map (tupleKind (kX prog w)).hash:=by rw[uf];rfl
 rw[this];refine ip.mpr (nd.imp_of_mem λ{a b} d r o e=>o ?_);obtain⟨x,c,rfl⟩:=iK.mp d;obtain⟨y,m,rfl⟩:=iK.mp r;obtain⟨p,q,f,p1,l⟩:=hp x c;obtain⟨i,n,h,p2,g⟩:=hp y m;rw[f,h]at e ⊢
 have:Hsh.hp p q=Hsh.hp i n:=by
  unfold Hsh.hp;exact congrArg (λ z:Int=>(z+2 ^ 63).toNat) e
 obtain⟨rfl,rfl⟩:=Hsh.hp_inj p1 l p2 g this
 rfl
inductive kQV(x:V)(vs:List V)(H:Hp)(Q:VK):Prop
 | mk:∀(a b:ay)(kvs more:List (List Key×V)),(x=.ref a)->(vs=[.ref b])->(a≠b)->(H a=some (.dT kvs))->(H b=some (.dT more))->((∀ y∈more,kOI y.1))->(kvs.length+more.length<=sizeLine)->(Q .non (upd H a (.dT (xV kvs more))))->kQV x vs H Q
def kPR(hu:X.A.units+1<cLine):MtM X "dict.update" kQV:=by
 intro L s σ H x vs v us Q I rx rv h;obtain⟨a,b,G,more,rfl,rfl,ab,o,Z,hp,hz,q⟩:=h;cases rx
 obtain⟨u,rfl,Y⟩:=rv.one;cases Y
 obtain⟨za,B,T,D,O⟩:=kHA I.hok o;obtain⟨zb,C,g,f,N⟩:=kHA I.hok Z
 have i:∀ y∈g,kOI y.1:=by
  have:∀{l:List (List Key×V)}{m:List (List Key×ay×ao)},KT H l m->(∀ y∈l,kOI y.1)->∀ y∈m,kOI y.1:=by
   intro l m r
   induction r with
   | nil=>intro _ y d;exact nomatch d
   | @cons p1 q1 ps qs z t ih =>
    intro S y d;rcases cy.mp d with rfl | d
    ·rw[<-z.1]
     exact S _ (eV ..)
    ·exact ih (λ y h=>S y (dq _ h)) y d
  exact this f hp
 have nd:(g.map (·.1)).Nodup:=let ⟨_,_,_,_,_,_,_,_,n⟩:=N;n;have lx:=wk D;have ly:=wk f;refine BZ CW O.typeIs PySem.F.entry_dict_update (PySem.F.args_dict_update_2 _ _) (Dct.meets_upd (kX X.prog X.w) a b ab C) ⟨uy (knd:=kX X.prog X.w) hu,T,g,O,N,by omega,λ _=>kQC i nd,λ h' p hs=>?_⟩;obtain⟨M,es,ep,U,h2,h3,h4,_,h5⟩:=p;have lf:=wk (KT.fold D f);have lz:=Dct.fold_len T g;refine⟨.non,upd H a (.dT (xV G more)),zA (t':=s.toks) I (by rw[o];exact nj) hs ⟨M,U⟩ ⟨by omega,B,_,(KT.fold D f).keeps λ c zs J=>?_,M,es,ep,U,h2,h3,h4,h5⟩,rfl,q⟩;rw[kK (wI J o (λ z=>nomatch z))];exact J
end
section
variable {X:Cx}
end
section
variable {prog:eU} {w:gk} {A:fb} {E:ao->av->Prop} {s:av} {z TI TO i1 i2:ay} {fp1 fp2:List ay} {n1 n2 j:Nat} {P1 P2:Nat->ao->Prop} {S1 S2:Nat->iD->Prop} {a b:ao}
def zipD_end2{Q:uo->av->Prop}(G:FK prog w A i1 fp1 n1 P1 S1)(O:FK prog w A i2 fp2 n2 P2 S2)(d:ZAp z TI TO i1 i2 fp1 fp2)
  (hz:An s.heap z TI TO .none) (C:qj s.heap TI (.ref i1) (.ref i2)) (v:qj s.heap TO a b) (h1:S1 n2 s.heap) (Y:S2 n2 s.heap) (l1:n2<n1)
  (hE:∀ h' e tk,(∀ c o,c≠z->c≠TO->c≠i1->c≠i2->s.heap.get? c=some o->h'.get? c=some o)->(∃ o,h'.get? e=some o/\o.cls=.type "StopIteration")->E (.ref e) {s with heap:=h',toks:=tk}) :
  cx (model prog w) A (ph.«zip.__next__» ⟨[.ref z],[]⟩) Q E s:=by
 have y:∀{i:Nat}{h h':iD}{c:ay},S1 i h->jx c h h'->c∉fp1->S1 i h':=λ st B r=>G.frame _ _ _ st λ b u o e=>B.extBut b o (λ q=>r (q ▸ u)) e;have f:∀{i:Nat}{h h':iD}{c:ay},S2 i h->jx c h h'->c∉fp2->S2 i h':=λ st B r=>O.frame _ _ _ st λ b u o e=>B.extBut b o (λ q=>r (q ▸ u)) e;show cx _ _ (field (.ref z) 2 >>= _) _ _ _;refine ae (iJ hz rfl (x:=.bool false) rfl ?_);show cx _ _ (field (.ref z) 3 >>= _) _ _ _;refine ae (iJ hz rfl (x:=.ref TI) rfl ?_);refine ae (jr C rfl ?_);show cx _ _ (eo (.ref z) >>= _) _ _ _;refine ae ?_;unfold eo;refine ae (iJ hz rfl (x:=.none) rfl (az ?_));simp only[if_true];refine ae (uz ?_);refine ae (iJ hz rfl (x:=.ref TO) rfl ?_);refine ae (oh hz (by simp) λ g1 p m=>?_)
 replace p:An g1 z TI TO .ellipsis:=p
 refine ae ?_
 simp only[Aw,DL,Bm,Ac]
 refine ae (ae (BE ?_));show cx _ _ (ft (.ref i1) >>= _) _ _ _;refine ae (G.item n2 _ _ _ l1 (y h1 m d.z1) λ x g2 U px a0 n=>az ?_);have N:qj g2 TO a b:=n.extBut _ _ d.TOi1 (m.extBut _ _ d.zTO.symm v);refine ae (jr N rfl ?_);refine ae (BG N λ S M D=>?_)
 replace M:qj S TO x b:=M
 refine ae (FM (az ?_));refine ae (ae (BE ?_));show cx _ _ (ft (.ref i2) >>= _) _ _ _;refine ae (O.done _ _ _ (f (f (f Y m d.z2) n d.i1f) D d.t2) λ g4 e L he=>?_);obtain⟨Z,g,l⟩:=he;have z3:An S z TI TO .ellipsis:=D.extBut _ _ d.zTO (n.extBut _ _ d.zi1 p);have H:An g4 z TI TO .ellipsis:=L _ _ d.zi2 z3;have X:e≠z:=λ q=>by subst q;rw[H]at g;cases g;simp at l
 exact oh H (by simp) λ g5 _ I=>hE g5 e _ (λ c o J T c3 c4 q=>I.extBut _ _ J (L _ _ c4 (D.extBut _ _ T (n.extBut _ _ c3 (m.extBut _ _ J q))))) ⟨Z,I.extBut _ _ X g,l⟩
end
def kTX(f g : Bool)(K : bb)(a b : ay) : It :=
  ⟨λ i H => ∃ d c x y, SqX K f H a d /\ SqX K g H b c /\ d[i]? = some x /\ c[i]? = some y,
   λ i H v h => ∃ T x y, H T = none /\ v = .ref T /\ (∀ d, SqX K f H a d -> d[i]? = some x) /\ (∀ c, SqX K g H b c -> c[i]? = some y) /\ h = upd H T (.tup [x, y]),
   λ i H => ∃ d c x, SqX K f H a d /\ SqX K g H b c /\ d[i]? = some x /\ c.length = i⟩
def kHW{P:eU}{w:gk}{K:bb}{a0:List iC} {x1} {a6:Pos} (k1 k2:Bool) (a b z TI TO r B:ay) (D:ZAp z TI TO r B [r,a] [B,b]) :
  Turn P w K (.Tuple a0 x1 a6) (kTX k1 k2 K a b) [z,TO,r,B,TI] z
   (λ i h=>An h z TI TO .none/\qj h TI (.ref r) (.ref B)/\(∃ u v,qj h TO u v)/\ItOf k1 h r a i/\ItOf k2 h B b i) where
 mem:=by simp
 obj:=λ i h st c N=>by
  obtain⟨C,m,⟨u,v,n⟩,h1,G⟩:=st;simp only[cy,gj,or_false]at N;rcases N with rfl | rfl | rfl | rfl | rfl
  ·exact⟨_,C,λ v q=>by cases q⟩
  ·exact⟨_,n,λ v q=>by cases q⟩
  ·exact h1.live
  ·exact G.live
  ·exact⟨_,m,λ v q=>by cases q⟩
 keep:=λ i h h' st kk=>by
  obtain⟨C,m,⟨u,v,n⟩,h1,G⟩:=st;exact⟨kk z (by simp) _ C,kk TI (by simp) _ m,⟨u,v,kk TO (by simp) _ n⟩,h1.at λ o q=>kk r (by simp) o q,G.at λ o q=>kk B (by simp) o q⟩
 item:=by
  intro X hP hw hK N i Z s σ H E I hf st hg;subst hP hw hK;obtain⟨C,m,⟨u0,v0,n⟩,h1,G⟩:=st;obtain⟨xs,ys,x,y,L,J,hx,hy⟩:=hg;obtain⟨l,O,p1⟩:=I.sq L;obtain⟨f,Q,p2⟩:=I.sq J;obtain⟨u,hu,ru⟩:=O.get hx;obtain⟨v,hv,rv⟩:=Q.get hy;have D1:=xY (prog:=X.prog) (w:=X.w) (A:=X.A.in1) (I.ok.hd N) k1 r a (aT p1 h1) l.toArray;have D2:=xY (prog:=X.prog) (w:=X.w) (A:=X.A.in1) (I.ok.hd N) k2 B b (aT p2 G) f.toArray;have M:i<l.toArray.size:=by simpa using(au.mp hu).1
  have U:i<f.toArray.size:=by simpa using(au.mp hv).1
  have S:s.TypeIs (.ref z) "zip":=⟨_,C,rfl⟩;unfold pyNext
  refine ae (mm (iO (name:=gw "__next__") S jt (je jt S xa
   (mZ D1 D2 D C m n ⟨h1,p1⟩ ⟨G,p2⟩ M U λ u' v' h' tk a7 a1 z' o' a9 ab t' hk=>az ?_) (we _))))
  have eu:u'=u:=by
   have q:l[i]?=some u':=by simpa using a7
   rw[hu]at q;exact(cc q).symm
  have ev:v'=v:=by
   have q:f[i]?=some v':=by simpa using a1
   rw[hv]at q;exact(cc q).symm
  subst eu ev;refine⟨_,rfl,wpAny_letOwnedTupleGo_zip z' λ g a3 p=>?_⟩;have a4:z<s.heap.objs.size:=cn C;have af:TO<s.heap.objs.size:=cn n;have ah:r<s.heap.objs.size:=let ⟨_,e,_⟩:=h1.live;cn e;have ag:B<s.heap.objs.size:=let ⟨_,e,_⟩:=G.live;cn e;have Y:TI<s.heap.objs.size:=cn m;have a2:g.get? s.heap.objs.size=some {cls:=.type "tuple",data:=.seq #[u',v']}:=p.extBut _ _ (jb a4) t'
  obtain⟨I2,n2⟩:=I.handed (t':=tk) (ch:=[z,TO,r,B]) ru rv a2 (λ c o d q=>p.extBut c o (λ e=>d (by simp[e])) (hk c o (λ e=>d (by simp[e])) (λ e=>d (by simp[e])) (λ e=>d (by simp[e])) (λ e=>d (by simp[e])) q))
   (λ c d=>hf c (by simp at d ⊢;rcases d with e | e | e | e<;>simp[e]))
   (λ c d=>by simp at d;rcases d with rfl | rfl | rfl | rfl<;>assumption)
  refine⟨.ref s.heap.objs.size,_,I2,rfl,⟨_,x,y,I.hok.fresh (bg _),rfl,(λ ak a8=>by rw[I.sq_inj a8 L];exact hx),(λ al ac=>by rw[I.sq_inj ac J];exact hy),rfl⟩,?_,λ c d=>?_⟩
  ·exact⟨a3,p.extBut _ _ D.zTI.symm (hk _ _ D.zTI.symm D.TITO D.TIi1 D.TIi2 m),⟨_,_,p.extBut _ _ D.zTO.symm o'⟩,a9.1.at λ o q=>p.extBut r o D.zi1.symm q,ab.1.at λ o q=>p.extBut B o D.zi2.symm q⟩
  ·by_cases e:c=TI
   ·subst e
    rw[kK (df Y)];exact(hf c (by simp)).1
   ·exact n2 c (by simp at d ⊢;rcases d with q | q | q | q | q<;>simp_all)
 done:=by
  intro X hP hw hK N i Z s σ H E I hf st hg;subst hP hw hK;obtain⟨C,m,⟨u0,v0,n⟩,h1,G⟩:=st;obtain⟨xs,ys,x,L,J,hx,hy⟩:=hg;obtain⟨l,O,p1⟩:=I.sq L;obtain⟨f,Q,p2⟩:=I.sq J;obtain⟨u,hu,ru⟩:=O.get hx;have D1:=xY (prog:=X.prog) (w:=X.w) (A:=X.A.in1) (I.ok.hd N) k1 r a (aT p1 h1) l.toArray;have D2:=xY (prog:=X.prog) (w:=X.w) (A:=X.A.in1) (I.ok.hd N) k2 B b (aT p2 G) f.toArray;have hl:f.toArray.size=i:=by rw[<-hy,Q.length];simp
  have M:i<l.toArray.size:=by simpa using(au.mp hu).1
  have S:s.TypeIs (.ref z) "zip":=⟨_,C,rfl⟩;unfold pyNext
  refine ae (mm (iO (name:=gw "__next__") S jt (je jt S xa
   (zipD_end2 D1 D2 D C m n ⟨hl ▸ h1,p1⟩ ⟨hl ▸ G,p2⟩ (by omega) λ h' e tk hk he=>?_) (we _))))
  obtain⟨o,ho,a5⟩:=he;refine ae (oz (T:="StopIteration") (b:=true) ⟨o,ho,a5⟩ Dh ?_)
  refine az ⟨rfl,I.turnedL (t':=tk) (ch:=[z,TO,r,B]) (λ c o d q=>hk c o (λ e=>d (by simp[e])) (λ e=>d (by simp[e])) (λ e=>d (by simp[e])) (λ e=>d (by simp[e])) q)
   (λ c d=>hf c (by simp at d ⊢;rcases d with e | e | e | e<;>simp[e]))⟩
 self:=λ _ _ _ _ _ st h=>Ck st.1 h
section
variable {X:Cx}
inductive kNG(k1:Bool)(k2:Bool)(K:bb)(R:It->Hp->Prop)(vs:List V)(H1:Hp):Prop
 | mk:∀ a b,(vs=[.ref a,.ref b])->((∃ xs,SqX K k1 H1 a xs))->((∃ ys,SqX K k2 H1 b ys))->(R (kTX k1 k2 K a b) H1)->kNG k1 k2 K R vs H1
def kVA(c g:Bool)(K:bb)(f:TA):TI:=λ d H R=>f d H λ b a=>kNG c g K R b a
def kPC(M N:Bool){a b:iC}{Q:TA}{p m n:Pos}{o:List iC} {x1} (hg:Gl X "zip") (hm:X.mg "zip" = none) (ha:PA X [a,b] Q) (hs:starEach [a,b] X.env=[(false,eval a X.env),(false,eval b X.env)]:=by rfl) (l:starEach [b] X.env=[(false,eval b X.env)]:=by rfl) :
  PI X (.Tuple o x1 n) (.Call (.Name "zip" p) [a,b] [] m) (kVA M N X.K Q):=by
 intro g s σ H R I h;refine EO (yB I hg hm boot_zip (fu (thn (ha m g s σ H _ I h) λ us d ⟨vs,J,x,U,q1⟩=>?_) (by rw[hs,l]) (by rw[l];rfl)));obtain⟨l1,T,rfl,⟨xs,D⟩,⟨ys,B⟩,q⟩:=q1;obtain⟨u,v,rfl,r,r'⟩:=nJ U;cases r
 cases r'
 obtain⟨S,a0,p1⟩:=x.sq D;obtain⟨O,Y,p2⟩:=x.sq B;have G:=p1.lt;have A:=p2.lt;refine dL p1 p2 λ h' L C y h1 h2 Z=>?_;refine Ck (s:={d with heap:=h'}) L ?_
 have f:∀ c,d.heap.objs.size<=c->yN X g J c:=λ c i=>x.fpOk i (x.hok.fresh i)
 refine⟨_,[d.heap.objs.size+4,d.heap.objs.size+3,d.heap.objs.size,d.heap.objs.size+1,d.heap.objs.size+2],_,_,J,rfl,x.kept (t':=d.toks) Z,
  kHW M N l1 T _ _ _ _ _ (zap _ _ _ G A),⟨L,C,⟨_,_,y⟩,h1,h2⟩,λ c i=>?_,q⟩
 simp at i;rcases i with rfl | rfl | rfl | rfl | rfl<;>exact f _ (by omega)
end
end L2
namespace HT
open PySem PySem.Spec PyProof.Rows
section
variable {prog:eU} {w:gk} {A:fb} {E:ao->av->Prop} {s:av}
def cat_tup0{t b:ay}{l:List ao}{Q:ao->av->Prop}(v:FZ s.heap t ([]:List ao).toArray)(x:FZ s.heap b l.toArray)(h:Q (.ref b) s):cx (model prog w) A (binaryOp .Add (.ref t) (.ref b)) Q E s:=by
 obtain⟨⟨cls,r,data,u⟩,p,i,n,o⟩:=id v;obtain⟨⟨m,g,data2,f⟩,d,a,q,c⟩:=id x;simp only at i o a c;subst i o a c
 exact EU ⟨_,p,rfl⟩ ⟨_,d,rfl⟩ Cd Dr Ab AQ (zi _ _)
   (tuple_addW0 t b _ l.toArray n q r g u f (by simp)) ⟨p,d,h⟩
end
end HT
namespace L2
open PySem PySem.Spec PyProof.Rows
def kTY(H H':Hp):Prop:=∀ b o,H b=some o->H' b=some o
section
variable {X:Cx}
def kBP{H:Hp}{p:ay}(h:H p=none)(o:HO):kTY H (upd H p o):=λ b u q=>by rw[kK (kF q h)];exact q
inductive kUM(K:bb)(x:V)(lo:Option Int)(hi:Option Int)(H:Hp)(Q:VK):Prop
 | mk:∀ a xs,(x=.ref a)->(H a=some (.tup xs))->(∀ p H',kTY H H'->H' p=some (.tup (xZ xs lo hi))->Q (.ref p) H')->kUM K x lo hi H Q
def rB:SlR X (kUM X.K):=by
 intro d s l H x v m A lo g i Q I y u o n h;obtain⟨a,b,rfl,f,q⟩:=h;refine rC d s l H _ v m A lo g i Q I y u o n ?_;by_cases c:HT.sIx b.length 0 lo=0/\HT.sIx b.length b.length g=b.length
 ·refine .inr ⟨a,b,rfl,SqT.of f,c,q a H (λ _ _ e=>e) ?_⟩
  rw[f];unfold xZ;rw[c.1,c.2];simp
 ·exact .inl ⟨a,b,rfl,SqT.of f,c,λ p r=>q p _ (kBP r _) kB⟩
inductive kQX(K:bb)(x:V)(y:V)(H:Hp)(Q:VK):Prop
 | mk:∀ a b xs ys,(x=.ref a)->(y=.ref b)->(H a=some (.tup xs))->(H b=some (.tup ys))->(xs.length+ys.length<=sizeLine)->(∀ p H',kTY H H'->H' p=some (.tup (xs++ys))->Q (.ref p) H')->kQX K x y H Q
def kGH:OpR X (binaryOp .Add) (kQX X.K):=by
 intro d s A H x y v u Q I n i h;obtain⟨a,b,m,C,rfl,rfl,f,g,r,q⟩:=h;by_cases c:m=[]
 ·subst c
  cases n
  cases i
  obtain⟨D,o,p1,_⟩:=I.tuple (SqT.of (K:=X.K) f);obtain⟨l,G,p2,_⟩:=I.tuple (SqT.of (K:=X.K) g);cases o
  exact HT.cat_tup0 p1 p2 ⟨.ref b,H,I,rfl,q b H (λ _ _ e=>e) (by simpa using g)⟩
 ·refine kGI d s A H _ _ v u Q I n i ⟨a,b,m,C,rfl,rfl,SqT.of f,SqT.of g,c,r,λ e=>q a H (λ _ _ z=>z) (by rw[e,iY];exact f),λ _ p B=>q p _ (kBP B _) kB⟩
end
def nH{k:Bool}{K:bb}{a:ay}{xs:List V}{g:TG}{b:TB}{l:St->Hp->Prop}{c:St}{H:Hp}(Pv:Nat->St->Hp->Prop)(h0:Pv 0 c H)(n:∀ i c H,i<=xs.length->Pv i c H->SqX K k H a xs)
  (o:∀ i x T c H,xs[i]?=some x->H T=none->Pv i c H->g (.ref T) c (upd H T (.tup [.int i,x])) λ σ2 H2=>b (Pv (i+1)) σ2 H2) (A:∀ c H,Pv xs.length c H->l c H):vP (Ite k K a) g b l c H:=by
 refine⟨λ i m c H=>m=xs.length-i/\i<=xs.length/\Pv i c H,⟨xs.length,by simp,fj _,h0⟩,?_⟩;rintro i m c H ⟨rfl,f,p⟩;have d:=n i c H f p;rcases iA i xs.length with h | h
 ·refine .inr ⟨⟨xs,xs[i],d,by simp[h]⟩,Pv (i+1),λ u B q=>⟨xs.length-(i+1),by omega,rfl,by omega,q⟩,λ x B v=>?_⟩
  obtain⟨T,y,s,rfl,r,rfl⟩:=v;exact o i y T c H (r xs d) s p
 ·obtain rfl:i=xs.length:=by omega
  exact .inl ⟨⟨xs,d,rfl⟩,A c H p⟩
section
variable {X:Cx}
def kBN{M:yy}{A:fb}{E:ao->av->Prop}{s:av}{a b:Bool}{Q:ao->av->Prop}(h:Q (.bool (!(a == b))) s):cx M A (compareOp .IsNot (.bool a) (.bool b)) Q E s:=by
 cases a<;>cases b<;>exact az h
inductive gY(x:V)(y:V)(H:Hp)(Q:VK):Prop
 | mk:∀(a b:Bool),(x=.bl a)->(y=.bl b)->(Q (.bl (!(a == b))) H)->gY x y H Q
def kIP:OpR X (compareOp .IsNot) gY:=by
 intro c s g H x y v u Q I d f h;obtain⟨a,b,rfl,rfl,q⟩:=h;cases d
 cases f
 exact kBN (qD I q rfl)
end
end L2
namespace SetI
open PySem L2 PyProof.Rows PySem.Spec
def kSV:isSubtype (.type "tuple") (.type "set")=pure false:=by rw[yr];kernel_rfl
def kIS:isSubtype (.type "tuple") (.type "frozenset")=pure false:=by rw[yr];kernel_rfl
abbrev aJ(a:Bool):Obj:={cls:=.type "set",dict:=none,data:=.set #[] 0 (.fresh 0 0 a)}
theorem sK(val:Nat->Int):∀(n:Nat)(x:Int),x∈firstMet val n↔∃ i,i<n/\val i=x
 | 0,x=>⟨(λ h=>nomatch h),λ⟨i,h,_⟩=>absurd h (AF _)⟩
 | n+1,x=>by
  rw[firstMet_succ];unfold step_dedup;have c:=sK val n
  split
  ·rename_i h
   rw[c x];constructor
   ·rintro⟨i,a,b⟩;exact⟨i,by omega,b⟩
   ·rintro⟨i,a,b⟩
    rcases iA i n with z | z
    ·exact⟨i,z,b⟩
    ·obtain rfl:i=n:=by omega
     obtain⟨y,d,e⟩:=yx.mp h;rw[beq_iff_eq]at e;rw[<-b,<-e];exact(c y).mp d
  ·rw[bu,c x,de]
   constructor
   ·rintro(⟨i,a,b⟩ | rfl)
    ·exact⟨i,by omega,b⟩
    ·exact⟨n,by omega,rfl⟩
   ·rintro⟨i,a,b⟩
    rcases iA i n with z | z
    ·exact .inl ⟨i,z,b⟩
    ·obtain rfl:i=n:=by omega
     exact .inr b.symm
theorem kGL(val:Nat->Int):∀(n:Nat),(firstMet val n).length=n↔∀ i j,i<j->j<n->val i≠val j
 | 0=>⟨λ _ i j _ h=>absurd h (AF _),λ _=>rfl⟩
 | n+1=>by
  have d:=kGL val n;have le:=EG val n;rw[firstMet_succ,step_length]
  split
  ·rename_i h
   obtain⟨y,m,e⟩:=yx.mp h;rw[beq_iff_eq]at e;obtain⟨i,g,f⟩:=(sK val n y).mp m;exact⟨λ z=>by omega,λ z=>absurd (f.trans e) (z i n g (by omega))⟩
  ·rename_i h
   constructor
   ·intro z i j c o
    rcases iA j n with l | l
    ·exact d.mp (by omega) i j c l
    ·obtain rfl:j=n:=by omega
     intro e;exact h (yx.mpr ⟨val j,(sK val j _).mpr ⟨i,c,e⟩,by simp⟩)
   ·intro z
    rw[d.mpr λ i j a b=>z i j a (by omega)]
def met_nodup(b:List Int):(firstMet (λ i=>b.getD i 0) b.length).length=b.length↔b.Nodup:=by
 rw[kGL];unfold AL;rw[jl];constructor
 ·intro h i j d c a
  have:=h i j a c;simpa[d,c] using this
 ·intro h i j a c
  have:=h i j (by omega) c a;have d:i<b.length:=by omega
  simpa[d,c] using this
section
variable {prog:eU} {w:gk} {A:fb} {E:ao->av->Prop} {s:av}
def call_setT{t:ay}{d:List ao}{m:List Int}{Q:ao->av->Prop}(hh:A.handled=none)(Z:s.heap.IsTuple t d.toArray)(hi:Dk d m)(h4:d.toArray.size+1<scanBound)
  (q:∀(h':iD)(tk:Nat),h'.SetOf (intKind prog w) s.heap.objs.size (λ k=>(firstMet (λ i=>m.getD i 0) d.toArray.size).any (· == k)) (firstMet (λ i=>m.getD i 0) d.toArray.size).length->(∀ b o,s.heap.get? b=some o->h'.get? b=some o)->Q (.ref s.heap.objs.size) {s with heap:=h',toks:=tk}) :
  cx (model prog w) A (call (.type "set") [.ref t]) Q E s:=by
 obtain⟨_,_,O⟩:=xx.mro;have f1:=xx.made;have f2:=xx.sub;refine Cq (DK ?_);refine az ⟨Bw _ (by decide +kernel),nh Em ?_⟩;rw[EH (DV "set" [.ref t] []) rfl];have f3:=xx.notType;have f4:=xx.canCreate;have f5:=F.typeCall_set_1 (.ref t)
 repeat (any_goals (first | assumption | wp_step))
 refine qz (code_set_new_1 (.ref t) (E:=E) (Q₁:=λ v f=>∃ c:Bool,v=.ref s.heap.objs.size/\f={s with heap:=s.heap.push (aJ c)}) λ c=>⟨c,rfl,rfl⟩) λ r f y=>?_
 cases r with
 | error e=>exact y
 | ok fl =>
  cases fl with
  | next=>exact y.elim
  | brk=>exact y.elim
  | cont=>exact y.elim
  | ret v =>
   obtain⟨c,rfl,rfl⟩:=y;have T:(s.heap.push (aJ c)).get? s.heap.objs.size=some (aJ c):=cg _ rfl;have hT:ui {s with heap:=s.heap.push (aJ c)} (.ref s.heap.objs.size) "set":=⟨_,T,rfl⟩
   have g1:=xx.init.lookup;have g2:=xx.init.bind (.ref s.heap.objs.size)
   repeat (any_goals (first | assumption | wp_step))
   refine qz (wg (R:=wants (λ r g=>r=.none/\∃ h' tk,g={s with heap:=h',toks:=tk}/\h'.SetOf (intKind prog w) s.heap.objs.size (λ k=>(firstMet (λ i=>m.getD i 0) d.toArray.size).any (· == k)) (firstMet (λ i=>m.getD i 0) d.toArray.size).length/\(∀ b o,s.heap.get? b=some o->h'.get? b=some o)) E)
    xx.init.plain F.entry_set_init (check_set_init_1 hT ?_)) λ u g a=>?_
   ·have h:(s.heap.push (aJ c)).IsTuple t d.toArray:=Z.at λ o e=>ar _ e
    obtain⟨ol,a0,n,nl,p⟩:=id h;obtain⟨X,J,H,C⟩:=ol;simp only at n p;subst n;subst p;have S:=kSV;have k2:=kIS;have U:(AH "tuple" == AH "dict")=false:=by decide
    have Y:t<s.heap.objs.size:=by obtain⟨o,e,_⟩:=Z;exact cn e
    unfold ph.«set.__init__» noKeywords FS;generalize G:pyIter=PI
    wp_walk
    subst G;refine uq h ?_;refine ae (Df ?_);have l:∀(b:ay)(o:Obj)(x:Obj),s.heap.get? b=some o->((s.heap.push (aJ c)).push x).get? b=some o:=λ b o x e=>ar _ (ar _ e);have D:A.in1.in1.in1.handled=none:=by simp[hh]
    have N:(s.heap.push (aJ c)).objs.size=s.heap.objs.size+1:=jq ..;refine codeAny_set_update_loopS ((Walks.tuple D _ t (by rw[N];exact df (tf Y)) d.toArray).toS) s.heap.objs.size ?ne (λ i=>m.getD i 0) (λ i v e=>IntsAre.int_at hi i v (by rw[<-List.getElem?_toArray];exact e)) h4 (d.toArray.size-0) 0 _ (by omega) (fj _) ⟨⟨_,cg _ rfl,rfl,rfl⟩,h.at λ o e=>ar _ e⟩ ?set0 ?fin
    case ne =>
     rw[N];simp only[cy,gj,or_false,not_or];exact⟨df (Ay _),jb Y⟩
    case set0=>exact SetOf_congr ((setObjOf_fresh (knd:=intKind prog w) c).setOf (ar _ T) (by unfold scanBound;omega)) (λ _=>rfl) rfl
    case fin =>
     intro s' B M;obtain⟨h',g',d',L,I⟩:=s';obtain rfl:g'=s.gens:=B.gens;obtain rfl:d'=s.drawn:=B.drawn;obtain rfl:I=s.os:=B.os;refine az (az ⟨rfl,h',L,rfl,M,λ b o e=>?_⟩);refine B.heap b o ?_ (l b o _ e);have:=cn e;simp only[cy,gj,or_false,not_or];exact⟨df this,by rw[N];exact df (tf this)⟩
   ·cases u with
    | error e=>exact a
    | ok fl₂ =>
     cases fl₂ with
     | next=>exact a.elim
     | brk=>exact a.elim
     | cont=>exact a.elim
     | ret r =>
      obtain⟨rfl,h',tk,rfl,S,U⟩:=a
      repeat (any_goals (first | assumption | wp_step))
      exact q _ _ S U
end
end SetI
namespace L2
open PySem PySem.Spec PyProof.Rows
section
variable {X:Cx}
inductive aL(K:bb)(xs:List V)(H:Hp)(Q:VK):Prop
 | mk:∀(p:ay)(ns:List Int),(xs=[.ref p])->((SqL K H p (ns.map V.int)\/SqT K H p (ns.map V.int)))->(ns.length<=4000)->(∀(S:ay)(f:Int->Bool)(n:Nat),H S=none->(n=ns.length↔ns.Nodup)->n<=ns.length->Q (.ref S) (upd H S (.set f n)))->aL K xs H Q
def kJT(x:X.calm=true):xR X (.type "set") (aL X.K):=by
 intro y s L H M J Q I r h;obtain⟨p,c,rfl,g,N,q⟩:=h;obtain⟨u,rfl,C⟩:=zD r;cases C
 have A:H s.heap.objs.size=none:=I.hok.fresh (bg _);have le:=λ n=>EG (λ i=>c.getD i 0) n;rcases g with g | g
 ·obtain⟨a,d,D,B⟩:=I.list g
  have l:=uM d;have sz:a.toArray.size=c.length:=by rw[eR,<-d.length,aj]
  refine call_set_list (I.ok.hd x) D.isList (by simpa using l) (by rw[sz];unfold scanBound;omega) λ m v f k=>?_;rw[sz]at f;exact⟨.ref s.heap.objs.size,_,I.laid (t':=v) (λ b o e=>k b o (cn e) e) (bg _) (show ObjOk X.prog X.w _ m _ (.set _ _) from f),rfl,q _ _ _ A (SetI.met_nodup c) (le _)⟩
 ·obtain⟨a,d,G,B⟩:=I.tuple g
  have l:=uM d;have sz:a.toArray.size=c.length:=by rw[eR,<-d.length,aj]
  refine SetI.call_setT (I.ok.hd x) G l (by rw[sz];unfold scanBound;omega) λ m v f k=>?_;rw[sz]at f;exact⟨.ref s.heap.objs.size,_,I.laid (t':=v) k (bg _) (show ObjOk X.prog X.w _ m _ (.set _ _) from f),rfl,q _ _ _ A (SetI.met_nodup c) (le _)⟩
inductive aM(xs:List V)(H:Hp)(Q:VK):Prop
 | mk:∀(S:ay)(f:Int->Bool)(n:Nat),(xs=[.ref S])->(H S=some (.set f n))->(Q (.int n) H)->aM xs H Q
def kJW:xR X (.builtin "len") aM:=by
 intro b s x H y v Q I r h;obtain⟨S,f,n,rfl,i,q⟩:=h;obtain⟨u,rfl,l⟩:=zD r;cases l
 obtain⟨o,g,p,t,d,hex,c,_,_,m,a,rfl⟩:=I.hok S _ i;exact call_len_set d hex c a (by unfold scanBound at m;omega) ⟨.int g.size,H,I.tok _,⟨_,rfl⟩,q⟩
end
end L2
namespace HT
open PySem PySem.Spec PyProof.Rows
section
variable {prog:eU} {w:gk} {A:fb} {E:ao->av->Prop} {s:av}
end
end HT
namespace L2
open PySem PySem.Spec PyProof.Rows
section
variable {X:Cx}
end
end L2
namespace Tri
open Cyc Rnd
end Tri
namespace HT
open PySem PySem.Spec PyProof.Rows
section
variable {prog:eU} {w:gk} {A:fb} {E:ao->av->Prop} {s:av}
end
end HT
namespace L2
open PySem PySem.Spec PyProof.Rows
section
variable {X:Cx}
def uT(n:Nat):List V:=(cz n).map λ(i:Nat)=>V.int (i:Int)
def kKG{n:Nat}{a:Array ao}(h:FX (λ i v=>∃ t,v=.int ((0:Int)+i*1) t) a n):Vals (uT n) a.toList:=by
 obtain⟨h1,d⟩:=h
 have:∀(m:Nat)(l:List ao)(k:Nat),l.length=m->(∀(j:Nat)(v:ao),l[j]?=some v->∃ t,v=uk (((k+j:Nat):Int)) t)->Vals ((AV k m).map λ(i:Nat)=>V.int (i:Int)) l:=λ m=>by
  induction m with
  | zero=>intro l k b _;rw[iq.mp b];exact .nil
  | succ m ih =>
   intro l k b c
   match l,b with
   | x::l,b =>
    rw[wx,eX];refine .cons ?_ (ih l (k+1) (by simpa using b) λ j v e=>?_)
    ·obtain⟨t,rfl⟩:=c 0 x rfl
     exact⟨t,by simp⟩
    ·obtain⟨t,rfl⟩:=c (j+1) v (by simpa using e)
     exact⟨t,by congr 1;omega⟩
 unfold uT;rw[List.range_eq_range'];refine this n a.toList 0 (by simpa using h1) λ j v e=>?_;obtain⟨t,rfl⟩:=d j v (by simpa using e);exact⟨t,by simp⟩
inductive kQO(tp:Bool)(Q:VK)(vs:List V)(H1:Hp):Prop
 | mk:∀(n:Nat),(vs=[.int (n:Int)])->(n<=1000)->(∀ l,H1 l=none->Q (.ref l) (upd H1 l (if tp then .tup (uT n) else .lst (uT n))))->kQO tp Q vs H1
def kVV(f:Bool)(d:TA):TE:=λ c H Q=>d c H λ b a=>kQO f Q b a
def kPD{a:iC}{A:TA}{p p2 m c:Pos}(C:X.calm=true)(Y:Gl X "list")(L:X.mg "list" = none)(v:Gl X "range")(r:X.mg "range" = none)(M:PA X [a] A)(T:starEach [a] X.env=[(false,eval a X.env)]:=by rfl)
  (l:starEach [.Call (.Name "range" p2) [a] [] c] X.env=[(false,eval (.Call (.Name "range" p2) [a] [] c) X.env)]:=by rfl):PE X (.Call (.Name "list" p) [.Call (.Name "range" p2) [a] [] c] [] m) (kVV false A):=by
 intro d s y H Q I h;refine EO (yB I Y L boot_list (fu ?_ l rfl));refine Ai (EO (yB I v r Fg (fu (thn (M c d s y H _ I h) λ us g ⟨vs,G,B,D,N⟩=>?_) T rfl)));obtain⟨n,rfl,Z,q⟩:=N;obtain⟨u,rfl,t,rfl⟩:=zD D;refine call_range_1 ?_;refine As ?_;have x:Inv X d y G {g with heap:=g.heap.push {cls:=.type "range",data:=.fields #[.int 0 g.toks,.int n t,.int 1 (g.toks+1)]},toks:=g.toks+1+1}:=B.kept λ b o e=>ar _ e
 refine call_list_range (n:=n) (B.ok.hd C) (HJ ..) (small_one (by omega) (by omega) (by omega) (by omega)) (by rw[rangeSize_one];split<;>omega) (by omega) λ h' S i c' J O f=>?_;have U:=x.laid (t':=S) (o:=.lst (uT n)) J (bg _) (show ObjOk X.prog X.w _ _ _ (.lst (uT n)) from⟨by unfold uT;rw[aj,eY];exact fz Z (by decide),i.toList,_,kKG f,by simpa using O⟩);exact⟨.ref _,_,U,rfl,q _ (x.hok.fresh (bg _))⟩
end
end L2
namespace Tri
open Cyc
end Tri
namespace Fc
open Cyc Tri Rnd
def kNR{α:Type}(l:List α)(p:α->Bool):(l.filter p).length+(l.filter λ x=>!p x).length=l.length:=by
 induction l with
 | nil=>rfl
 | cons x l ih =>
  rw[sd,sd,eh]
  cases p x<;>simp<;>omega
section
variable {W:Rows}
def kMQ(S:Nb W){t:Nat×Nat}(h:t∈kO W):nxt W t≠t:=λ e=>by
 have a:=S.e (mem_steps.mp (show(t.1,t.2)∈kO W from h));have:(nxt W t).1=t.2:=rfl;rw[e]at this;exact a.2.2 this.symm
def kSU(S:Nb W):(stepsS W).Nodup:=(sortP_perm _).nodup_iff.mpr (cS S.nd)
def tM(S:Nb W):2*(tiesS W).length=(kO W).length:=by
 have nd:=kSU S;have l:(stepsS W).length=(kO W).length:=(sortP_perm _).length_eq;have d:=kNR (stepsS W) λ t=>decide (t.1<t.2)
 have perm:(((stepsS W).filter λ t=>!decide (t.1<t.2)).map λ t=>(t.2,t.1)).Perm ((stepsS W).filter λ t=>decide (t.1<t.2)):=by
  refine(vb ?_ (nd.filter _)).mpr λ t=>?_
  ·exact ip.mpr ((nd.filter _).imp λ{a b} h e=>h (by
    injection e with e1 e2
    exact rm e2 e1))
  ·constructor
   ·intro h
    obtain⟨u,c,rfl⟩:=iK.mp h;obtain⟨a,b⟩:=iG.mp c;have e:=mem_stepsS.mp a;have f:=(S.e e).2.2;refine iG.mpr ⟨mem_stepsS.mpr (S.sym _ _ e),?_⟩;have b:¬ u.1<u.2:=by simpa using b
    exact decide_eq_true (show u.2<u.1 by omega)
   ·intro h
    obtain⟨a,b⟩:=iG.mp h;have b:=of_decide_eq_true b;refine iK.mpr ⟨(t.2,t.1),iG.mpr ⟨mem_stepsS.mpr (S.sym _ _ (mem_stepsS.mp a)),?_⟩,rfl⟩;have:¬ t.2<t.1:=by omega
    simpa using this
 have e:=perm.length_eq;rw[aj]at e;unfold tiesS;omega
def mP(S:Nb W):(fgo W (stepsS W)).2.Perm (kO W):=by
 have a:=fgo_ok S (stepsS W) λ t h=>(sortP_perm _).mem_iff.mp h;exact(vb a.nd (cS S.nd)).mpr λ t=>⟨a.sub t,λ h=>a.cov t ((sortP_perm _).mem_iff.mpr h)⟩
def kJM(S:Nb W):((xW W).map iV).sum=(kO W).length:=by
 have a:=fgo_ok S (stepsS W) λ t h=>(sortP_perm _).mem_iff.mp h;obtain⟨R,_,c,b⟩:=a.reps;have e:=(mP S).length_eq;unfold xW;rw[c,<-e,b,Dm,uf]
 congr 1
 refine zg λ r _=>?_;show((rnd W r).map _).length=_;rw[aj]
def kTO(S:Nb W):(∀ f∈facesS W,f.length=3)↔∀ t∈kO W,(nxt W (nxt W t)).2=t.1:=by
 have s:=fgo_ok S (stepsS W) λ t h=>(sortP_perm _).mem_iff.mp h;obtain⟨R,p,x,q⟩:=s.reps
 have c:∀ f,f∈facesS W↔∃ r∈R,f=(rnd W r).map (·.1):=λ f=>by
  unfold facesS;rw[(zE _).mem_iff];unfold xW;rw[x,iK];exact⟨λ⟨r,a,b⟩=>⟨r,a,b.symm⟩,λ⟨r,a,b⟩=>⟨r,a,b.symm⟩⟩
 have l:∀ r∈R,r∈kO W:=λ r d=>(sortP_perm _).mem_iff.mp (p r d);constructor
 ·intro h t y
  have o:=(mP S).mem_iff.mpr y;rw[q,Az]at o;obtain⟨r,d,m⟩:=o;have n:=h _ ((c _).mpr ⟨r,d,rfl⟩);rw[aj,rnd_len]at n;obtain⟨j,rfl⟩:=(uK S (l r d)).mp m;have back:=(gW S (l r d)).2.2.1;rw[n]at back
  have e:nxt W (nxt W (nxt W (it (nxt W) j r)))=it (nxt W) j r:=by
   show it (nxt W) 3 (it (nxt W) j r)=_;rw[<-uC,EY,uC,back]
  have g:(nxt W (nxt W (nxt W (it (nxt W) j r)))).1=(nxt W (nxt W (it (nxt W) j r))).2:=rfl;rw[e]at g;exact g.symm
 ·intro h f u
  obtain⟨r,d,rfl⟩:=(c f).mp u;have i:=l r d;rw[aj,rnd_len];have to:=(sH S).to
  have three:it (nxt W) 3 r=r:=by
   show nxt W (nxt W (nxt W r))=r;have a:=h r i;have b:=h _ (to r i);have g:(nxt W (nxt W (nxt W r))).1=r.1:=a;have v:(nxt W (nxt W (nxt W r))).2=r.2:=b;exact rm g v
  refine per_is (by decide) three λ j A B=>?_;have:j=1\/j=2:=by omega
  rcases this with rfl | rfl
  ·exact kMQ S i
  ·intro e
   have e:nxt W (nxt W r)=r:=e;have three:nxt W (nxt W (nxt W r))=r:=three;rw[e]at three;exact kMQ S i three
def three_cornered(S:Nb W):(W.length+(facesS W).length=(tiesS W).length+2/\∀ f∈facesS W,f.length=3)↔((∀ t∈kO W,(nxt W (nxt W t)).2=t.1)/\(kO W).length+12=6*W.length):=by
 rw[<-kTO S];have m:=tM S;have fs:=kJM S;have d:(facesS W).length=(xW W).length:=(zE _).length_eq
 have key:(∀ f∈facesS W,f.length=3)->3*(facesS W).length=(kO W).length:=λ h=>by
  have c:∀ f∈xW W,f.length=3:=λ f i=>h f ((zE _).mem_iff.mpr i);rw[d,<-fs];generalize xW W=F at c;clear h fs d
  induction F with
  | nil=>rfl
  | cons f F ih =>
   rw[eX,Dc,eh,<-ih λ g l=>c g (dq _ l),c f (eV ..)];omega
 constructor
 ·rintro⟨a,b⟩
  have:=key b;exact⟨b,by omega⟩
 ·rintro⟨b,a⟩
  have:=key b;exact⟨by omega,b⟩
end
end Fc
namespace Tri
open Cyc Rnd
section
variable {L L2:Rows} {Os Ps:List (List Nat)} {A M C:List Nat} {f l:Nat}
end
def stF(W:Rows)(top ahead:List Nat)(place:Nat):Option (List Nat) :=
 let below:=ahead.filter λ q=>decide (q∈W.getD place [])
 let st:=top.filter λ q=>decide (q∈below)
 if st.length<2\/st.length≠below.length then none
 else if(top.drop (top.idxOf (st.headD 0))).take st.length≠st then none
 else if(st.zip st.tail).all (λ t=>decide ((nxt W t).2=place))=true then some st else none
def poF(top st:List Nat)(place:Nat):List Nat:=top.take (top.idxOf (st.headD 0)+1)++place::top.drop (top.idxOf (st.getLastD 0))
def goF(W:Rows)(a:List Nat):Nat->Option (List (List Nat)×List (List Nat))
 | 0=>some ([],[a.take 2])
 | i+1=>match goF W a i with
  | none=>none
  | some (found,tops)=>match stF W (tops.getLastD []) (a.take (i+2)) (a.getD (i+2) 0) with
   | none=>none
   | some st=>some (found++[st],tops++[poF (tops.getLastD []) st (a.getD (i+2) 0)])
theorem fG:∀{l:List Nat}{a b:Nat},(a,b)∈l.zip l.tail->Adj l a b
 | [],_,_,h=>by simp at h
 | [x],_,_,h=>by simp at h
 | x::y::l,a,b,h=>by
  rw[Br,Bv]at h;rcases cy.mp h with e | e
  ·injection e with e1 e2
   exact(zU x y l a b).mpr (.inl ⟨e1,e2⟩)
  ·exact(zU x y l a b).mpr (.inr (fG (l:=y::l) e))
theorem kGV{m:Nat->Nat}:∀{B:List Nat}{x:Nat}{C:List Nat},(∀ b∈B,m b≠m x)->((B++x::C).map m).idxOf (m x)=B.length
 | [],x,C,_=>by simp
 | b::B,x,C,h=>by
  have:=kGV (B:=B) (x:=x) (C:=C) λ b a=>h b (dq _ a);rw[iE,eX,FT,this,eh];have:(m b == m x)=false:=beq_eq_false_iff_ne.mpr (h b (eV ..));rw[this]
  rfl
def kBD{W:Rows}(nd:∀(p:Nat)(row:List Nat),W[p]?=some row->row.Nodup){x y v:Nat}(h:R W y v x):(nxt W (x,y)).2=v:=by
 obtain⟨row,e,n⟩:=h;unfold nxt;show(xI (W.getD y []) x).getD 0=v;rw[ai,e];show(xI row x).getD 0=v;rw[rV (nd y row e) n]
 rfl
section
variable {W:Rows} {ms:List Nat} {n:Nat}
end
def zK{W:Rows}(G:Good W):(∀ t∈kO W,(nxt W (nxt W t)).2=t.1)/\(kO W).length+12=6*W.length:=by
 have S:=(Wb.of G).toNb;refine⟨λ t a=>?_,by rw[yE];exact G.tot⟩;obtain⟨x,y⟩:=t;obtain⟨z,r,b,_⟩:=xO S (mem_steps.mp a);rw[b];exact kBD G.nd (G.tri _ _ _ r)
def kFE{W:Rows}{top ahead st:List Nat}{b:Nat}(h:stF W top ahead b=some st) :
  ∃ B f M l C,st=f::M++[l]/\top=B++(f::M++[l])++C/\(∀ q∈st,q∈ahead/\q∈W.getD b [])/\∀ t∈st.zip st.tail,(nxt W t).2=b:=by
 unfold stF at h;dsimp only at h;by_cases i:(top.filter λ q=>decide (q∈ahead.filter λ q=>decide (q∈W.getD b []))).length<2\/(top.filter λ q=>decide (q∈ahead.filter λ q=>decide (q∈W.getD b []))).length≠(ahead.filter λ q=>decide (q∈W.getD b [])).length
 ·rw[if_pos i]at h
  cases h
 rw[if_neg i]at h
 split at h
 ·cases h
 rename_i c
 split at h
 ·rename_i c3
  have h:=cc h;have c:=Decidable.not_not.mp c;rw[h]at i c c3
  have mem:∀ q∈st,q∈ahead/\q∈W.getD b []:=λ q m=>by
   rw[<-h]at m;have:=of_decide_eq_true (iG.mp m).2;exact⟨(iG.mp this).1,of_decide_eq_true (iG.mp this).2⟩
  have len:2<=st.length:=by omega
  obtain⟨f,r,d⟩ : ∃ a r,st=a::r:=by
   match st,len with
   | a::r,_=>exact⟨a,r,rfl⟩
  have g:r≠[]:=λ z=>by rw[d,z]at len;simp at len
  refine⟨top.take (top.idxOf (st.headD 0)),f,r.dropLast,r.getLast g,(top.drop (top.idxOf (st.headD 0))).drop st.length,?_,?_,mem,λ t o=>of_decide_eq_true (ug.mp c3 t o)⟩
  ·rw[d,iE,fh g]
  ·rw[iE,fh g,<-d]
   have n:top.drop (top.idxOf (st.headD 0))=st++(top.drop (top.idxOf (st.headD 0))).drop st.length:=by
    conv=>lhs;rw[<-gi st.length (top.drop (top.idxOf (st.headD 0))),c]
   rw[dr,<-n,gi]
 ·cases h
def lN{B:List Nat}{x:Nat}{C:List Nat}(h:x∉B):(B++x::C).idxOf x=B.length:=by
 have:=kGV (m:=id) (B:=B) (x:=x) (C:=C) λ b a e=>h (by rw[<-(show b=x from e)];exact a);simpa using this
def uI{top B M C:List Nat}{f l c:Nat}(e:top=B++(f::M++[l])++C)(nd:top.Nodup):poF top (f::M++[l]) c=B++[f,c,l]++C:=by
 subst e;have g:=bj.mp nd;have a:=bj.mp g.1;have i:=bj.mp a.2.1;have q:f∉B:=λ h=>a.2.2 f h f (by simp) rfl
 have s:l∉B++(f::M):=λ h=>by
  rcases bu.mp h with z | z
  ·exact a.2.2 l z l (by simp) rfl
  ·exact i.2.2 l z l (by simp) rfl
 have b:B++(f::M++[l])++C=B++f::(M++[l]++C):=by simp
 have d:B++(f::M++[l])++C=(B++f::M)++l::C:=by simp
 have n:(B++(f::M++[l])++C).idxOf f=B.length:=by rw[b];exact lN q
 have p:(B++(f::M++[l])++C).idxOf l=(B++f::M).length:=by rw[d];exact lN s
 unfold poF;have r:(f::M++[l]).getLastD 0=l:=by rw[iF,eZ];rfl
 rw[show(f::M++[l]).headD 0=f from rfl,r,n,p]
 have o:(B++(f::M++[l])++C).take (B.length+1)=B++[f]:=by
  rw[b,show B++f::(M++[l]++C)=(B++[f])++(M++[l]++C) by simp,AD (by simp)]
 have m:(B++(f::M++[l])++C).drop (B++f::M).length=l::C:=by rw[d,BN rfl]
 rw[o,m];simp
structure Top(W:Rows)(some top:List Nat):Prop where
 nd:top.Nodup
 sub:∀ x∈top,x∈some
 path:∀ x y,Adj top x y->E W x y
def Top.step{W:Rows}{ahead top st:List Nat}{d:Nat}(T:Top W ahead top)(sym:∀ a b,E W a b->E W b a)(v:d∉ahead)(h:stF W top ahead d=some st) :
  Top W (ahead++[d]) (poF top st d)/\(∀ x∈st,x∈top)/\st≠[]/\∀ t∈st.zip st.tail,E W t.1 t.2:=by
 obtain⟨B,f,M,l,C,rfl,n,mem,nx⟩:=kFE h;have nd:=T.nd;rw[uI n nd];have path:=T.path;have sub:=T.sub;rw[n]at nd path sub
 have o:∀ q,q∈f::M++[l]->E W d q:=λ q A=>by
  have:=(mem q A).2;rw[ai]at this
  cases e:W[d]? with
  | none=>rw[e]at this;cases this
  | some row=>rw[e]at this;exact⟨row,e,this⟩
 have i:=bj.mp nd;have m:=bj.mp i.1;have r:=bj.mp m.2.1;have all:∀ x∈B++(f::M++[l])++C,x≠d:=λ x c e=>v (by rw[<-e];exact sub x c);refine⟨⟨?_,λ x c=>?_,λ x y ad=>?_⟩,λ x c=>by rw[n];exact cj _ (cw _ c),by simp,λ t D=>?_⟩
 ·have s:f≠l:=r.2.2 f (by simp) l (by simp)
  have h1:B.Nodup:=m.1;have p:C.Nodup:=i.2.1;refine bj.mpr ⟨bj.mpr ⟨h1,?_,λ x c y g=>?_⟩,p,λ x c y g=>?_⟩
  ·have a:=all f (by simp)
   have b:=all l (by simp);simp[a,s,b.symm]
  ·simp only[cy,gj,or_false]at g
   rcases g with rfl | rfl | rfl
   ·exact m.2.2 x c _ (by simp)
   ·exact all x (by simp[c])
   ·exact m.2.2 x c _ (by simp)
  ·rcases bu.mp c with z | z
   ·exact i.2.2 x (cj _ z) y g
   ·simp only[cy,gj,or_false]at z
    rcases z with rfl | rfl | rfl
    ·exact i.2.2 _ (by simp) y g
    ·exact λ e=>all y (by simp[g]) e.symm
    ·exact i.2.2 _ (by simp) y g
 ·rcases bu.mp c with z | z
  ·rcases bu.mp z with z | z
   ·exact cj _ (sub x (by simp[z]))
   ·simp only[cy,gj,or_false]at z
    rcases z with rfl | rfl | rfl
    ·exact cj _ (sub _ (by simp))
    ·simp
    ·exact cj _ (sub _ (by simp))
  ·exact cj _ (sub x (by simp[z]))
 ·have u:B++[f,d,l]++C=B++f::(d::(l::C)):=by simp
  have p1:B++(f::M++[l])++C=B++f::(M++l::C):=by simp
  have p2:B++(f::M++[l])++C=(B++f::M)++l::C:=by simp
  rw[u,qT]at ad;rcases ad with z | z
  ·exact path x y (by rw[p1,qT];exact .inl z)
  ·rw[zU]at z
   rcases z with⟨rfl,rfl⟩ | z
   ·exact sym _ _ (o _ (by simp))
   ·rw[zU]at z
    rcases z with⟨rfl,rfl⟩ | z
    ·exact o _ (by simp)
    ·exact path x y (by rw[p2,qT];exact .inr z)
 ·obtain⟨a,b⟩:=t
  have ad:=fG D;have e:f::M++[l]++C=(f::M)++l::C:=by simp
  have this:Adj (f::(M++l::C)) a b:=by
   have:Adj ((f::M)++l::C) a b:=by
    rw[qT];exact .inl ad
   exact this
  refine path a b ?_;rw[show B++(f::M++[l])++C=B++f::(M++l::C) by simp,qT];exact .inr this
theorem bL{W:Rows}{a:List Nat}{i:Nat}(h:goF W a i=none):∀ j,goF W a (i+j)=none
 | 0=>h
 | j+1=>by
  have:=bL h j;show goF W a (i+j+1)=none;unfold goF;rw[this]
def yS(W:Rows)(a b c:Nat)(d:List Nat):Option (List (List Nat)×List (List Nat)) :=
 if d[0]?=some a/\d[1]?=some b/\d.getLast?=some c then goF W d (d.length-2) else none
def lQ{W:Rows}{a:List Nat}{i:Nat}{fs b:List (List Nat)}(h:goF W a i=some (fs,b))(z:stF W (b.getLastD []) (a.take (i+2)) (a.getD (i+2) 0)=none):goF W a (i+1)=none:=by
 unfold goF;rw[h];dsimp only;rw[z]
def lS{W:Rows}{a:List Nat}{i:Nat}{fs b:List (List Nat)}{st:List Nat}(h:goF W a i=some (fs,b))(z:stF W (b.getLastD []) (a.take (i+2)) (a.getD (i+2) 0)=some st):goF W a (i+1)=some (fs++[st],b++[poF (b.getLastD []) st (a.getD (i+2) 0)]):=by
 unfold goF;rw[h];dsimp only;rw[z]
def bH{α:Type}(l:List (List α))(x:List α):(l++[x]).getLastD []=x:=by
 rw[iF,eZ]
 rfl
def Top.len{W:Rows}{some top:List Nat}(T:Top W some top):top.length<=some.length:=eI T.nd T.sub
def wF{W:Rows}{top ahead st:List Nat}{a:Nat}(nd:top.Nodup)(h:stF W top ahead a=some st) :
  ∃ B f M l C,st=f::M++[l]/\top=B++(f::M++[l])++C/\(∀ q,q∈st↔q∈ahead/\q∈W.getD a [])/\∀ t∈st.zip st.tail,(nxt W t).2=a:=by
 obtain⟨B,f,M,l,C,g,i,mem,nx⟩:=kFE h;refine⟨B,f,M,l,C,g,i,λ q=>⟨mem q,λ d=>?_⟩,nx⟩
 have snd:st.Nodup:=by
  rw[i]at nd;rw[g];exact(bj.mp (bj.mp nd).1).2.1
 have len:st.length=(ahead.filter λ q=>decide (q∈W.getD a [])).length:=by
  unfold stF at h;dsimp only at h;by_cases b:(top.filter λ q=>decide (q∈ahead.filter λ q=>decide (q∈W.getD a []))).length<2\/(top.filter λ q=>decide (q∈ahead.filter λ q=>decide (q∈W.getD a []))).length≠(ahead.filter λ q=>decide (q∈W.getD a [])).length
  ·rw[if_pos b]at h
   cases h
  rw[if_neg b]at h
  split at h
  ·cases h
  split at h
  ·have h:=cc h
   rw[h]at b;omega
  ·cases h
 by_cases c:q∈st
 ·exact c
 ·exfalso
  have:=eI (eK.mpr ⟨c,snd⟩) (l₂:=ahead.filter λ q=>decide (q∈W.getD a [])) λ x m=>by
   rcases cy.mp m with rfl | z
   ·exact iG.mpr ⟨d.1,decide_eq_true d.2⟩
   ·exact iG.mpr ⟨(mem x z).1,decide_eq_true (mem x z).2⟩
  rw[eh]at this;omega
def kLC{W:Rows}{top ahead B M C:List Nat}{f l a:Nat}(nd:top.Nodup)(d:ahead.Nodup)(e:top=B++(f::M++[l])++C)(sub:∀ q∈top,q∈ahead)(mem:∀ q,q∈f::M++[l]↔q∈ahead/\q∈W.getD a [])(nx:∀ t∈(f::M++[l]).zip (f::M++[l]).tail,(nxt W t).2=a) :
  stF W top ahead a=some (f::M++[l]):=by
 have g:=nd;rw[e]at g;have n:=bj.mp g;have m:=bj.mp n.1
 have c:∀ q,q∈(ahead.filter λ q=>decide (q∈W.getD a []))↔q∈f::M++[l]:=λ q=>by
  rw[iG,decide_eq_true_iff,mem]
 have u:(ahead.filter λ q=>decide (q∈W.getD a [])).Perm (f::M++[l]):=(vb (d.filter _) m.2.1).mpr c
 have o:(top.filter λ q=>decide (q∈ahead.filter λ q=>decide (q∈W.getD a [])))=f::M++[l]:=by
  have v:(λ q=>decide (q∈ahead.filter λ q=>decide (q∈W.getD a [])))=λ q=>decide (q∈f::M++[l]):=by
   funext q
   rw[iL,decide_eq_true_iff,decide_eq_true_iff,c]
  rw[v,e,uj,uj];have i:B.filter (λ q=>decide (q∈f::M++[l]))=[]:=Aj.mpr λ q b h=>m.2.2 q b q (of_decide_eq_true h) rfl;have p:C.filter (λ q=>decide (q∈f::M++[l]))=[]:=Aj.mpr λ q b h=>n.2.2 q (cw _ (of_decide_eq_true h)) q b rfl;rw[i,p,Dp.mpr λ q b=>decide_eq_true b];simp
 have s:(f::M++[l]).length=M.length+2:=by simp
 have i:f∉B:=λ h=>m.2.2 f h f (by simp) rfl
 have r:top.idxOf f=B.length:=by
  rw[e,show B++(f::M++[l])++C=B++f::(M++[l]++C) by simp];exact lN i
 unfold stF;dsimp only;rw[o,u.length_eq,if_neg (by rw[s];omega),if_neg,if_pos]
 ·exact ug.mpr λ t x=>decide_eq_true (nx t x)
 ·intro h
  refine h ?_;rw[show(f::M++[l]).headD 0=f from rfl,r,e,dr,BN rfl,AD rfl]
def bG{A B:List Nat}{x y:Nat}(h:A++[x]=B++[y]):A=B/\x=y:=by
 have:=List.append_inj' h rfl;exact⟨this.1,by simpa using this.2⟩
theorem kHK:∀{l:List Nat}{a b:Nat},Adj l a b->(a,b)∈l.zip l.tail
 | [],_,_,h=>absurd h id
 | [x],_,_,h=>absurd h id
 | x::y::l,a,b,h=>by
  rw[Br,Bv];rcases(zU x y l a b).mp h with⟨rfl,rfl⟩ | z
  ·exact eV ..
  ·exact dq _ (kHK (l:=y::l) z)
section
variable {W:Rows} {T ahead su sv:List Nat} {u v:Nat}
end
theorem fL{W:Rows}{c:List Nat}(d:c.Nodup)(sym:∀ a b,E W a b->E W b a)(h0:Top W (c.take 2) (c.take 2)):∀{i:Nat}{fs g:List (List Nat)},i+2<=c.length->goF W c i=some (fs,g)->Top W (c.take (i+2)) (g.getLastD [])
 | 0,fs,g,_,h=>by
  unfold goF at h;have h:=cc h;injection h with h1 h2
  rw[<-h2];exact h0
 | i+1,fs,g,hl,h=>by
  cases e:goF W c i with
  | none =>
   have:=bL e 1;rw[show i+1=i+1 from rfl,this]at h;cases h
  | some x =>
   obtain⟨f,t⟩:=x;have o:=fL d sym h0 (by omega) e
   cases s:stF W (t.getLastD []) (c.take (i+2)) (c.getD (i+2) 0) with
   | none=>rw[lQ e s]at h;cases h
   | some st =>
    rw[lS e s]at h;have h:=cc h;injection h with h1 h2
    have l:c.getD (i+2) 0∉c.take (i+2):=by
     rw[ai,aa (by omega)];intro z;obtain⟨j,m,e⟩:=fc.mp z;rw[eJ]at m;rw[xt]at e;have:=(xf d).mp e;omega
    have n:c.take (i+1+2)=c.take (i+2)++[c.getD (i+2) 0]:=by
     rw[show i+1+2=i+2+1 by omega,jf,ai,aa (show i+2<c.length by omega)]
     rfl
    rw[<-h2,bH,n];exact(o.step sym l s).1
def bK{W:Rows}{a:List Nat}{i j:Nat}{c b:List (List Nat)}(h:goF W a (i+j)=some (c,b)):∃ fs ts,goF W a i=some (fs,ts):=by
 cases e:goF W a i with
 | none=>rw[bL e j]at h;cases h
 | some x=>exact⟨x.1,x.2,rfl⟩
def uD{W:Rows}{a:List Nat}{i:Nat}{fs b d c:List (List Nat)}(h:goF W a i=some (fs,b))(h':goF W a (i+1)=some (d,c)):∃ st,stF W (b.getLastD []) (a.take (i+2)) (a.getD (i+2) 0)=some st/\d=fs++[st]/\c=b++[poF (b.getLastD []) st (a.getD (i+2) 0)]:=by
 cases s:stF W (b.getLastD []) (a.take (i+2)) (a.getD (i+2) 0) with
 | none=>rw[lQ h s]at h';cases h'
 | some st =>
  rw[lS h s]at h';have h':=cc h';injection h' with h1 h2
  exact⟨st,rfl,h1.symm,h2.symm⟩
def lU{W:Rows}{d:List Nat}:∀{i:Nat}{fs a:List (List Nat)},goF W d i=some (fs,a)->fs.length=i/\a.length=i+1:=by
 intro i
 induction i with
 | zero =>
  intro fs a h;unfold goF at h;have h:=cc h;injection h with h1 h2
  rw[<-h1,<-h2];exact⟨rfl,rfl⟩
 | succ i ih =>
  intro fs a h;obtain⟨f,t,e⟩:=bK (i:=i) (j:=1) h;obtain⟨st,_,b,c⟩:=uD e h;obtain⟨p,q⟩:=ih e;rw[b,c,cq,cq,p,q];exact⟨rfl,rfl⟩
def uJ{a:List Nat}(b:a.Nodup){k j:Nat}(h:k<=j)(d:j<a.length):a.getD j 0∉a.take k:=by
 rw[ai,aa d];intro z;obtain⟨m,c,e⟩:=fc.mp z;rw[eJ]at c;rw[xt]at e;have:=(xf b).mp e;omega
section
variable {ms:List Nat} {k:Nat}
variable {W:Rows} {a b c:Nat} {Fs Ts:List (List Nat)}
end
section
variable {W W':Rows} {g:Nat->Nat} {n:Nat}
end
end Tri
namespace Fc
open Cyc Rnd Tri
def mgN(a b x:Nat):Nat:=if x=b then a else x
def goL(m:List Nat)(a:List (Nat×Nat)):List Nat:=a.foldl (λ m l=>m.map (mgN (m.getD l.1 0) (m.getD l.2 0))) m
def bJ(m:List Nat)(l:Nat×Nat)(a:List (Nat×Nat)):goL m (l::a)=goL (m.map (mgN (m.getD l.1 0) (m.getD l.2 0))) a:=rfl
theorem kGX:∀(a:List (Nat×Nat))(m:List Nat),(goL m a).length=m.length
 | [],_=>rfl
 | l::a,m=>by rw[bJ,kGX a,aj]
theorem oZ:∀(a:List (Nat×Nat))(m:List Nat)(c:Nat),(∀ x∈goL m a,x=c)->∃ V:List Nat,V.length<=a.length+1/\∀ x∈m,x∈V
 | [],m,c,h=>⟨[c],by simp,λ x b=>by rw[h x b];simp⟩
 | l::a,m,c,h=>by
  rw[bJ]at h;obtain⟨V,h1,d⟩:=oZ a _ c h;refine⟨m.getD l.2 0::V,by simp;omega,λ x b=>?_⟩;have:=d _ (iK.mpr ⟨x,b,rfl⟩);unfold mgN at this
  split at this
  ·rename_i e
   rw[e];exact eV ..
  ·exact dq _ this
def bF{m:List Nat}{f:Nat->Nat}{i:Nat}(h:i<m.length):(m.map f).getD i 0=f (m.getD i 0):=by
 rw[ai,ai,bh,aa h]
 rfl
theorem kBQ:∀(a:List (Nat×Nat))(m:List Nat)(i j:Nat),i<m.length->j<m.length->m.getD i 0=m.getD j 0->(goL m a).getD i 0=(goL m a).getD j 0
 | [],_,_,_,_,_,h=>h
 | l::a,m,i,j,hi,hj,h=>by
  rw[bJ];refine kBQ a _ i j (by rw[aj];exact hi) (by rw[aj];exact hj) ?_;rw[bF hi,bF hj,h]
theorem kBR:∀(a:List (Nat×Nat))(m:List Nat)(i j:Nat),i<m.length->j<m.length->(i,j)∈a->(goL m a).getD i 0=(goL m a).getD j 0
 | l::a,m,i,j,hi,hj,h=>by
  rw[bJ];have b:i<(m.map (mgN (m.getD l.1 0) (m.getD l.2 0))).length:=by rw[aj];exact hi
  have c:j<(m.map (mgN (m.getD l.1 0) (m.getD l.2 0))).length:=by rw[aj];exact hj
  rcases cy.mp h with e | h
  ·refine kBQ a _ i j b c ?_
   rw[<-e,bF hi,bF hj];unfold mgN;simp only
   split<;>simp
  ·exact kBR a _ i j b c h
def kED{F:Nat}{b:List (Nat×Nat)}(rng:∀ l∈b,l.1<F/\l.2<F)(all:∀ m:List Nat,m.length=F->(∀ l∈b,m.getD l.1 0=m.getD l.2 0)->∀ i,i<F->m.getD i 0=m.getD 0 0):F<=b.length+1:=by
 have d:=kGX b (cz F);rw[eY]at d;have a:=all (goL (cz F) b) d λ l c=>kBR b _ l.1 l.2 (by rw[eY];exact(rng l c).1) (by rw[eY];exact(rng l c).2) c
 obtain⟨V,h1,h⟩:=oZ b (cz F) ((goL (cz F) b).getD 0 0) λ x f=>by
  obtain⟨i,g,rfl⟩:=fc.mp f;rw[<-a i (by omega),ai,aa g]
  rfl
 have:=eI sj h;rw[eY]at this;omega
def kGN{p:Nat->Prop}(h:∃ k,p k):∃ k,p k/\∀ j,j<k->¬ p j:=by
 obtain⟨k,b⟩:=h
 induction k using DN with
 | _ k ih =>
  by_cases c:∃ j,j<k/\p j
  ·obtain⟨j,a,hp⟩:=c
   exact ih j a hp
  ·exact⟨k,b,λ j a hp=>c ⟨j,a,hp⟩⟩
def aB{row:List Nat}(nd:row.Nodup){P:Nat->Prop}{y r:Nat}(s:y∈row)(h0:r∈row)(p0:P r)(st:∀ w v,w∈row->w≠y->xI row w=some v->P w->P v):P y:=by
 obtain⟨d,x,rfl⟩:=fc.mp s;obtain⟨m,u,rfl⟩:=fc.mp h0;have l:∀ i (h:i<row.length),row.idxOf row[i]=i:=λ i h=>(xf nd).mp (Bt (fe (gh h)));have q:∀ i (h:i<row.length),i≠d->row[i]≠row[d]:=λ i h n z=>n ((xf nd).mp z)
 have step:∀ i (h:i+1<row.length),i+1≠d->P row[i+1]->P row[i]:=λ i h n p=>by
  refine st _ _ (gh h) (q _ h n) ?_ p;unfold xI;rw[l _ h,if_neg (by omega),show i+1-1=i by omega,aa (by omega)]
 have g:∀(h:0<row.length),0≠d->P row[0]->P (row[row.length-1]'(by omega)):=λ h n p=>by
  refine st _ _ (gh h) (q _ h n) ?_ p;unfold xI;rw[l _ h,if_pos rfl,iU,aa (by omega)]
 have f:∀ k i (h:i+k<row.length),(∀ t,i<t->t<=i+k->t≠d)->P row[i+k]->P (row[i]'(by omega)):=λ k=>by
  induction k with
  | zero=>exact λ i h _ p=>p
  | succ k ih =>
   intro i h n p;exact ih i (by omega) (λ t h1 o=>n t h1 (by omega)) (step (i+k) (by omega) (n _ (by omega) (by omega)) p)
 rcases iA m d with c | c
 ·have a:=f m 0 (by omega) (λ t h1 o=>by omega) (by simpa using p0)
  have b:=g (by omega) (by omega) a;have:=f (row.length-1-d) d (by omega) (λ t h1 o=>by omega) (by simpa[show d+(row.length-1-d)=row.length-1 by omega] using b);exact this
 ·have:=f (m-d) d (by omega) (λ t h1 o=>by omega) (by simpa[show d+(m-d)=m by omega] using p0)
  exact this
section
variable {W:Rows} {par dist:Nat->Nat}
theorem kHG(a:Nat->Nat):∀ n:Nat,∃ N,∀ v,v<n->a v<=N
 | 0=>⟨0,λ v h=>by omega⟩
 | n+1=>by
  obtain⟨N,h⟩:=kHG a n;refine⟨max N (a n),λ v b=>?_⟩;rcases iA v n with c | c
  ·have:=h v c
   omega
  ·rw[show v=n by omega]
   omega
def kOZ(S:Nb W):∃ R:List (Nat×Nat),R.length=(facesS W).length/\(∀ r∈R,r∈kO W)/\(∀ t∈kO W,∃ i,∃(h:i<R.length),t∈rnd W R[i])/\∀ t i j (hi:i<R.length) (b:j<R.length),t∈rnd W R[i]->t∈rnd W R[j]->i=j:=by
 have sub:∀ t∈stepsS W,t∈kO W:=λ t d=>(sortP_perm _).mem_iff.mp d;have I:=fgo_ok S (stepsS W) sub;obtain⟨R,n,o,f⟩:=I.reps
 have m:(facesS W).length=R.length:=by
  rw[show(facesS W).length=(xW W).length from(zE _).length_eq];show(fgo W (stepsS W)).1.length=_;rw[o,aj]
 have nd:=I.nd;rw[f]at nd;have g:=(DU.mp nd).2;refine⟨R,m.symm,λ r a=>sub r (n r a),λ t d=>?_,λ t i j hi b h1 l=>?_⟩
 ·have:=I.cov t ((sortP_perm _).mem_iff.mpr d)
  rw[f]at this;obtain⟨r,a,h⟩:=Az.mp this;obtain⟨i,hi,rfl⟩:=fc.mp a;exact⟨i,hi,h⟩
 ·rcases yk i j with c | c | c
  ·exact absurd rfl (jl.mp g i j hi b c t h1 t l)
  ·exact c
  ·exact absurd rfl (jl.mp g j i b hi c t l t h1)
end
section
variable {W W':Rows}
end
section
variable {W W' L:Rows}
end
section
variable {W W':Rows}
end
def RC(W:Rows)(C:List Nat):Nat->Nat->Prop
 | 0,v=>v∈C
 | k+1,v=>∃ u,RC W C k u/\E W u v
def kUK{W:Rows}{C:List Nat}{c v:Nat}(b:c∈C)(h:Reach W c v):∃ k,RC W C k v:=by
 induction h with
 | here=>exact⟨0,b⟩
 | more _ e ih =>
  obtain⟨k,a⟩:=ih;exact⟨k+1,_,a,e⟩
structure CTree(W:Rows)(C:List Nat)(par dist:Nat->Nat):Prop where
 e:∀ v,v<W.length->v∉C->E W (par v) v
 d:∀ v,v<W.length->v∉C->dist (par v)+1=dist v
def kOB{W:Rows}{C:List Nat}(g:∀ v,v<W.length->∃ c∈C,Reach W c v):∃ par dist,CTree W C par dist:=by
 have h1:∀ v,∃ k,v<W.length->RC W C k v/\∀ j,j<k->¬ RC W C j v:=λ v=>by
  by_cases c:v<W.length
  ·obtain⟨c0,l,r⟩:=g v c
   obtain⟨k,o⟩:=kGN (kUK l r);exact⟨k,λ _=>o⟩
  ·exact⟨0,λ z=>absurd z c⟩
 have d:=λ v=>qr (h1 v);generalize q:(λ v=>wz (h1 v))=dist at *
 have d:∀ v,v<W.length->RC W C (dist v) v/\∀ j,j<dist v->¬ RC W C j v:=λ v B=>by
  rw[<-q];exact d v B
 have i:∀ v,∃ u,v<W.length->v∉C->E W u v/\dist u+1=dist v:=λ v=>by
  by_cases c:v<W.length/\v∉C
  ·obtain⟨a,b⟩:=d v c.1
   cases e:dist v with
   | zero =>
    rw[e]at a;exact absurd a c.2
   | succ k =>
    rw[e]at a b;obtain⟨u,x,f⟩:=a
    have m:u<W.length:=by
     obtain⟨row,s,_⟩:=f;exact(au.mp s).1
    obtain⟨p,A⟩:=d u m;refine⟨u,λ _ _=>⟨f,?_⟩⟩;have G:¬ k<dist u:=λ z=>A k z x;have H:¬ dist u+1<k+1:=λ z=>b _ z ⟨u,p,f⟩;omega
  ·exact⟨0,λ D y=>absurd ⟨D,y⟩ c⟩
 exact⟨λ v=>wz (i v),dist,λ v h n=>(qr (i v) h n).1,λ v h n=>(qr (i v) h n).2⟩
section
variable {W:Rows} {C:List Nat} {par dist:Nat->Nat} {lab:Nat->Nat->Nat}
def row_at(S:Nb W){z:Nat}(hz:z<W.length):∃ r,W[z]?=some r/\r.Nodup/\(∀ w,w∈r↔E W z w)/\∀ w v,xI r w=some v->nxt W (w,z)=(z,v):=by
 refine⟨W[z],aa hz,S.nd z _ (aa hz),λ w=>⟨λ m=>⟨_,aa hz,m⟩,λ⟨r,a,m⟩=>?_⟩,λ w v h=>?_⟩
 ·rw[aa hz]at a
  cases a
  exact m
 ·show(z,(xI (W.getD z []) w).getD 0)=(z,v)
  rw[ai,aa hz];show(z,(xI W[z] w).getD 0)=(z,v);rw[h]
  rfl
def Fit(W:Rows)(lab:Nat->Nat->Nat):Prop:=∀ x y v,E W x y->nxt W (x,y)=(y,v)->lab y v=lab x y
def kPX(S:Nb W)(T:CTree W C par dist)(o:Fit W lab)
  (m:∀ x y,E W x y->¬ ((y∉C/\par y=x)\/(x∉C/\par x=y)\/Nx C x y\/Nx C y x)->lab x y=lab y x):∀ x y,E W x y->¬ Nx C x y->¬ Nx C y x->lab x y=lab y x:=by
 obtain⟨N,L⟩:=kHG dist W.length
 have a:∀ k z,z<W.length->z∉C->N-dist z=k->lab (par z) z=lab z (par z):=λ k=>by
  induction k using DN with
  | _ k ih =>
   intro z n l O;obtain⟨r,U,nd,mem,nx⟩:=row_at S n;have i:=T.e z n l;obtain⟨v,Q,p,I⟩:=xO S i;refine(aB nd (P:=λ w=>lab z w=lab (par z) z) ((mem _).mpr (S.sym _ _ i)) ((mem v).mpr I) (o _ _ _ i p) λ w u B M G D=>?_).symm;have g:=(mem w).mp B
   have back:lab z w=lab w z:=by
    by_cases t:(w∉C/\par w=z)\/(z∉C/\par z=w)\/Nx C z w\/Nx C w z
    ·rcases t with⟨f,c⟩ | ⟨_,s⟩ | h | h
     ·have b:=(S.e g).2.1
      have A:=T.d w b f;rw[c]at A;have:=L w b;have q:=ih (N-dist w) (by omega) w b f rfl;rwa[c]at q
     ·exact absurd s.symm M
     ·exact absurd (kT h).1 l
     ·exact absurd (kT h).2 l
    ·exact m z w g t
   rw[o w z u (S.sym _ _ g) (nx w u G),<-back,D]
 intro x y e H J;by_cases t:(y∉C/\par y=x)\/(x∉C/\par x=y)\/Nx C x y\/Nx C y x
 ·rcases t with⟨h,rfl⟩ | ⟨h,rfl⟩ | h | h
  ·exact a _ y (S.e e).2.1 h rfl
  ·exact(a _ x (S.e e).1 h rfl).symm
  ·exact absurd h H
  ·exact absurd h J
 ·exact m x y e t
def kGQ(S:Nb W)(i:Fit W lab)(g:∀ x y,E W x y->¬ Nx C x y->¬ Nx C y x->lab x y=lab y x){z w a:Nat}(hz:z∉C)(e:E W z w)(c:E W z a):lab z w=lab z a:=by
 obtain⟨r,l,nd,mem,nx⟩:=row_at S (S.e e).1;refine aB nd (P:=λ u=>lab z u=lab z a) ((mem w).mpr e) ((mem a).mpr c) rfl λ u v f _ d p=>?_;have b:=(mem u).mp f;rw[i u z v (S.sym _ _ b) (nx u v d),<-g z u b (λ h=>hz (kT h).1) (λ h=>hz (kT h).2)];exact p
def fK(S:Nb W)(nd:C.Nodup)(g:Fit W lab)(m:∀ p q,Nx C p q->E W p q)(B:∀ x y,E W x y->¬ Nx C x y->¬ Nx C y x->lab x y=lab y x){p c n:Nat}(h1:Nx C p c)(f:Nx C c n):lab c n=lab p c:=by
 have i:=m _ _ h1;have l:=m _ _ f;obtain⟨r,I,a,mem,nx⟩:=row_at S (S.e l).1;obtain⟨v,H,o,D⟩:=xO S i;refine aB a (P:=λ u=>lab c u=lab p c) ((mem n).mpr l) ((mem v).mpr D) (g _ _ _ i o) λ u v A s G q=>?_;have d:=(mem u).mp A;rw[g u c v (S.sym _ _ d) (nx u v G)];by_cases b:u=p
 ·rw[b]
 ·rw[<-B c u d (λ h=>s (jN nd h f)) (λ h=>b (yF nd h h1))]
  exact q
def kPW(S:Nb W)(nd:C.Nodup)(m:Fit W lab)(g:∀ p q,Nx C p q->E W p q)(l:∀ x y,E W x y->¬ Nx C x y->¬ Nx C y x->lab x y=lab y x){p c n w:Nat}(h1:Nx C p c)(b:Nx C c n)(e:E W c w):lab c w=lab p c\/lab c w=lab n c:=by
 have i:=g _ _ b;obtain⟨r,A,a,mem,nx⟩:=row_at S (S.e i).1;refine aB a (P:=λ u=>lab c u=lab p c\/lab c u=lab n c) ((mem w).mpr e) ((mem n).mpr i) (.inl (fK S nd m g l h1 b)) λ u v s B o q=>?_;have f:=(mem u).mp s;rw[m u c v (S.sym _ _ f) (nx u v o)];by_cases un:u=n
 ·exact .inr (by rw[un])
 ·by_cases d:u=p
  ·exact .inl (by rw[d])
  ·rw[<-l c u f (λ h=>un (jN nd h b)) (λ h=>d (yF nd h h1))]
   exact q
def kPY(S:Nb W)(T:CTree W C par dist)(nd:C.Nodup)(s:Fit W lab)(m:∀ p q,Nx C p q->E W p q)(l:∀ x y,E W x y->¬ Nx C x y->¬ Nx C y x->lab x y=lab y x){p q:Nat}(h:Nx C p q)(D:lab p q=lab q p) :
  ∀ x y,E W x y->lab x y=lab p q:=by
 have one:∀ c n,Nx C c n->lab c n=lab p q->lab n c=lab p q->∀ w,E W c w->lab c w=lab p q:=λ c n i a b w e=>by
  obtain⟨v,f⟩:=wS (kT i).1;have f:=yV nd (kT i).1 f;rcases kPW S nd s m l f i e with z | z
  ·rw[z,<-fK S nd s m l f i,a]
  ·rw[z,b]
 have u:∀ y∈C,∀ w,E W y w->lab y w=lab p q:=λ y B=>by
  refine aB nd (P:=λ c=>∀ w,E W c w->lab c w=lab p q) B (kT h).1 (one p q h rfl D.symm) λ c v g _ f z=>?_;have f:=yV nd g f;obtain⟨n,i⟩:=cF g;refine one v c f ?_ (z v (S.sym _ _ (m _ _ f)));rw[<-fK S nd s m l f i];exact z n (m _ _ i)
 have o:∀ k z,z<W.length->dist z=k->∀ w,E W z w->lab z w=lab p q:=λ k=>by
  induction k using DN with
  | _ k ih =>
   intro z A G w e;by_cases g:z∈C
   ·exact u z g w e
   ·have r:=T.e z A g
    have H:=T.d z A g;rw[kGQ S s l g e (S.sym _ _ r),<-l _ _ r (λ h=>g (kT h).2) (λ h=>g (kT h).1)];exact ih _ (by omega) _ (S.e r).1 rfl _ r
 exact λ x y e=>o _ x (S.e e).1 rfl y e
def tN(v u:Nat):Nat×Nat:=if v<u then(v,u) else(u,v)
def kKQ{v u w x:Nat}(h:tN v u=tN w x):(v=w/\u=x)\/(v=x/\u=w):=by
 unfold tN at h
 split at h<;>split at h<;>injection h with h1 h2<;>omega
def kSR{v w:Nat}(nd:C.Nodup)(h1:Nx C v w)(d:Nx C w v):C.length<=2:=by
 have all:∀ x∈C,x=v\/x=w:=λ x b=>by
  refine aB nd (P:=λ x=>x=v\/x=w) b (kT h1).1 (.inl rfl) λ y u c _ a p=>?_;have a:=yV nd c a;rcases p with rfl | rfl
  ·exact .inr (yF nd a d)
  ·exact .inl (yF nd a h1)
 have:=eI nd (l₂:=[v,w]) λ x b=>by
  rcases all x b with rfl | rfl<;>simp
 simpa using this
def CtP(C:List Nat)(a:Nat->Nat)(t:Nat×Nat):Prop:=(t.2∉C/\a t.2=t.1)\/(t.1∉C/\a t.1=t.2)\/Nx C t.1 t.2\/Nx C t.2 t.1
open Classical in
def kCD(S:Nb W)(T:CTree W C par dist)(nd:C.Nodup)(N:3<=C.length)(L:∀ p q,Nx C p q->E W p q):W.length<=((tiesS W).filter λ t=>decide (CtP C par t)).length:=by
 have B:∀ v,∃ u,v<W.length->(v∈C/\Nx C v u)\/(v∉C/\u=par v):=λ v=>by
  by_cases c:v∈C
  ·obtain⟨u,I⟩:=cF c
   exact⟨u,λ _=>.inl ⟨c,I⟩⟩
  ·exact⟨par v,λ _=>.inr ⟨c,rfl⟩⟩
 have g:=λ v=>qr (B v);generalize H:(λ v=>wz (B v))=f at *
 have g:∀ v,v<W.length->(v∈C/\Nx C v (f v))\/(v∉C/\f v=par v):=λ v i=>by
  rw[<-H];exact g v i
 have s:((cz W.length).map λ v=>tN v (f v)).Nodup:=by
  refine ip.mpr (DB.imp_of_mem λ{a b} m o J e=>?_);have m:=iB.mp m;have o:=iB.mp o;rcases kKQ e with⟨z,_⟩ | ⟨A,x⟩
  ·omega
  ·rcases g a m with⟨r,l⟩ | ⟨r,l⟩<;>rcases g b o with⟨y,h⟩ | ⟨y,h⟩
   ·rw[x]at l
    rw[<-A]at h;have:=kSR nd l h;omega
   ·rw[x]at l
    exact y (kT l).2
   ·rw[<-A]at h
    exact r (kT h).2
   ·have G:=T.d a m r
    have D:=T.d b o y;rw[<-l,x]at G;rw[<-h,<-A]at D;omega
 have:=eI s (l₂:=(tiesS W).filter λ t=>decide (CtP C par t)) λ t M=>by
  obtain⟨v,i,rfl⟩:=iK.mp M;have i:=iB.mp i
  have two:E W v (f v)/\CtP C par (v,f v)/\CtP C par (f v,v):=by
   rcases g v i with⟨c,n⟩ | ⟨c,n⟩
   ·exact⟨L _ _ n,.inr (.inr (.inl n)),.inr (.inr (.inr n))⟩
   ·rw[n]
    exact⟨S.sym _ _ (T.e v i c),.inr (.inl ⟨c,rfl⟩),.inl ⟨c,rfl⟩⟩
  obtain⟨e,p1,p2⟩:=two;have O:=(S.e e).2.2;unfold tN tiesS;rw[iG,iG,mem_stepsS]
  split
  ·rename_i c
   exact⟨⟨e,decide_eq_true c⟩,decide_eq_true p1⟩
  ·rename_i c
   exact⟨⟨S.sym _ _ e,decide_eq_true (by show f v<v;omega)⟩,decide_eq_true p2⟩
 rw[aj,eY]at this;exact this
open Classical in
def kTG(S:Nb W)(g:∀ v,v<W.length->Reach W 0 v)(fl:W.length+(facesS W).length=(tiesS W).length+2)(nd:C.Nodup)(X:3<=C.length)(M:∀ p q,Nx C p q->E W p q) :
  ∃ lab:Nat->Nat->Nat,Fit W lab/\(∀ x y,E W x y->¬ Nx C x y->¬ Nx C y x->lab x y=lab y x)/\∀ p q,Nx C p q->lab p q≠lab q p:=by
 refine iH λ no=>?_
 obtain⟨c0,r⟩ : ∃ c,c∈C:=by
  cases C with
  | nil=>simp at X
  | cons c C=>exact⟨c,eV⟩
 obtain⟨c1,L⟩:=cF r;have H:=M _ _ L;have lc:=(S.e H).1;obtain⟨b,Z,T⟩:=kOB (C:=C) λ v hv=>⟨c0,r,(Reach.symm S.sym (g c0 lc)).trans (g v hv)⟩;obtain⟨R,lR,B,Q,s⟩:=kOZ S
 have o:∀ t,∃ i,t∈kO W->∃(h:i<R.length),t∈rnd W R[i]:=λ t=>by
  by_cases c:t∈kO W
  ·obtain⟨i,h,m⟩:=Q t c
   exact⟨i,λ _=>⟨h,m⟩⟩
  ·exact⟨0,λ z=>absurd z c⟩
 have d:=λ t=>qr (o t);generalize hF:(λ t=>wz (o t))=a at *
 have d:∀ t,t∈kO W->∃(h:a t<R.length),t∈rnd W R[a t]:=λ t f=>by
  subst hF;exact d t f
 have O:∀ t,t∈kO W->a (nxt W t)=a t:=λ t f=>by
  obtain⟨h1,m1⟩:=d t f;have hn:=kAO S (B _ (gh h1)) m1;have hs:=rnd_sub S (B _ (gh h1)) hn;obtain⟨G,N⟩:=d _ hs;exact s _ _ _ G h1 N hn
 have J:∀ i (h:i<R.length),a R[i]=i:=λ i h=>by
  have Y:=B _ (gh h);obtain⟨G,N⟩:=d _ Y;exact s _ _ _ G h N (rnd_self S Y)
 have st:∀ x y,E W x y->(x,y)∈kO W:=λ x y e=>mem_steps.mpr e
 have ls:R.length<=(((tiesS W).filter λ t=>!decide (CtP C b t)).map λ t=>(a t,a (t.2,t.1))).length+1:=by
  refine kED (λ l A=>?_) λ m lm A i u=>?_
  ·obtain⟨t,f,rfl⟩:=iK.mp A
   have f:=(iG.mp f).1;unfold tiesS at f;have e:=mem_stepsS.mp (iG.mp f).1;exact⟨(d t (st _ _ e)).1,(d (t.2,t.1) (st _ _ (S.sym _ _ e))).1⟩
  ·have D:Fit W (λ x y=>m.getD (a (x,y)) 0):=λ x y v e n=>by
    have:=O _ (st x y e);rw[n]at this;show m.getD (a (y,v)) 0=_;rw[this]
   have sy:=kPX (lab:=λ x y=>m.getD (a (x,y)) 0) S T D λ x y e U=>by
    show m.getD (a (x,y)) 0=m.getD (a (y,x)) 0;have ne:=(S.e e).2.2;rcases iA x y with c | c
    ·exact A (a (x,y),a (y,x)) (iK.mpr ⟨(x,y),iG.mpr ⟨iG.mpr ⟨mem_stepsS.mpr e,decide_eq_true c⟩,by rw[decide_eq_false (show ¬ CtP C b (x,y) from U)];rfl⟩,rfl⟩)
    ·have I:¬ CtP C b (y,x):=λ z=>U (by
      rcases z with z | z | z | z
      ·exact .inr (.inl z)
      ·exact .inl z
      ·exact .inr (.inr (.inr z))
      ·exact .inr (.inr (.inl z)))
     exact(A (a (y,x),a (x,y)) (iK.mpr ⟨(y,x),iG.mpr ⟨iG.mpr ⟨mem_stepsS.mpr (S.sym _ _ e),decide_eq_true (by show y<x;omega)⟩,by rw[decide_eq_false I];rfl⟩,rfl⟩)).symm
   have ex:∃ p q,Nx C p q/\m.getD (a (p,q)) 0=m.getD (a (q,p)) 0:=iH λ z=>no ⟨_,D,sy,λ p q h e=>z ⟨p,q,h,e⟩⟩;obtain⟨p,q,h,e⟩:=ex;have all:=kPY S T nd D M sy h e
   have key:∀ i,i<R.length->m.getD i 0=m.getD (a (p,q)) 0:=λ i u=>by
    have e:E W R[i].1 R[i].2:=mem_steps.mp (B _ (gh u));have:=all _ _ e;rw[show(R[i].1,R[i].2)=R[i] from rfl,J i u]at this;exact this
   rw[key i u,key 0 (by omega)]
 have tc:=kCD S T nd X M
 have sum:((tiesS W).filter λ t=>decide (CtP C b t)).length+((tiesS W).filter λ t=>!decide (CtP C b t)).length=(tiesS W).length:=by
  have:∀ l:List (Nat×Nat),(l.filter λ t=>decide (CtP C b t)).length+(l.filter λ t=>!decide (CtP C b t)).length=l.length:=λ l=>by
   induction l with
   | nil=>rfl
   | cons t l ih =>
    rw[sd,sd]
    cases decide (CtP C b t)<;>simp<;>omega
  exact this _
 rw[aj]at ls;omega
end
section
variable {W:Rows} {C:List Nat} {lab:Nat->Nat->Nat}
def wX(A:List Nat)(x y:Nat)(B:List Nat):Nx (A++x::y::B) x y:=by
 show Adj ((A++x::y::B)++(A++x::y::B).head?.toList) x y;rw[dr];exact(qT A x _ x y).mpr (.inr (.inl ⟨rfl,rfl⟩))
theorem kHL:∀{l:List Nat}{p q:Nat},Adj l.reverse p q->Adj l q p
 | [],_,_,h=>h.elim
 | [x],_,_,h=>h.elim
 | x::y::r,p,q,h=>by
  rw[yu,yu,dr]at h;rcases(qT _ y [x] p q).mp h with h | h
  ·refine .inr (kHL (l:=y::r) ?_)
   rw[yu];exact h
  ·rcases h with⟨rfl,rfl⟩ | h
   ·exact .inl ⟨rfl,rfl⟩
   ·exact h.elim
def kMZ(S:Nb W)(p:Fit W lab){k t:Nat}{row A B:List Nat}(l:W[k]?=some row):∀(a:List Nat),Ro row (A++a++t::B)->(∀ z∈a.tail,lab k z=lab z k)->∀ z∈a,lab k z=lab t k:=by
 have one:∀(u v:Nat)(A B:List Nat),Ro row (A++u::v::B)->lab k u=lab v k:=λ u v A B d=>by
  have r:R W k u v:=⟨row,l,(d.nx u v).mpr (wX A u v B)⟩;exact p v k u (S.sym _ _ (yP r).2) (sI S.nd r)
 suffices H:∀(n:Nat)(a A B:List Nat)(t:Nat),a.length=n->Ro row (A++a++t::B)->(∀ z∈a.tail,lab k z=lab z k)->∀ z∈a,lab k z=lab t k from λ a=>H _ a A B t rfl
 intro n
 induction n with
 | zero =>
  intro a A B t c _ _ z b;rw[iq.mp c]at b;cases b
 | succ n ih =>
  intro a A B t c d g z b;have h:a≠[]:=λ e=>by rw[e]at c;cases c
  obtain⟨I,u,rfl⟩ : ∃ I u,a=I++[u]:=⟨a.dropLast,a.getLast h,(fh h).symm⟩;have f:lab k u=lab t k:=one u t (A++I) B (by simpa using d);rcases bu.mp b with m | m
  ·have o:I.length=n:=by simpa using c
   have q:=ih I A (t::B) u o (by simpa using d) (λ z b=>by
    cases I with
    | nil=>cases b
    | cons i I=>exact g z (by simp at b ⊢;exact .inl b)) z m
   rw[q,<-f]
   cases I with
   | nil=>cases m
   | cons i I=>exact(g u (by simp)).symm
  ·rw[de.mp m]
   exact f
theorem kMY(S:Nb W)(f:Fit W lab){k:Nat}{row:List Nat}(d:W[k]?=some row):∀(a A B:List Nat)(t:Nat),Ro row (A++t::(a++B))->(∀ z∈a,lab k z=lab z k)->∀ z∈a,lab k z=lab k t
 | [],_,_,_,_,_,z,b=>by cases b
 | u::a,A,B,t,ro,sy,z,b=>by
  have r:R W k t u:=⟨row,d,(ro.nx t u).mpr (wX A t u _)⟩;have g:lab k t=lab u k:=f u k t (S.sym _ _ (yP r).2) (sI S.nd r);have c:lab k u=lab k t:=by rw[sy u (by simp),g]
  rcases cy.mp b with rfl | m
  ·exact c
  ·rw[<-c]
   exact kMY S f d a (A++[t]) B u (by simpa using ro) (λ z b=>sy z (dq _ b)) z m
theorem cJ(S:Nb W)(s:Fit W lab)(i:∀ x y,E W x y->¬ Nx C x y->¬ Nx C y x->lab x y=lab y x){g:Nat}:∀(D:List Nat)(c:Nat),(∀ p q,Adj (c::D) p q->E W p q)->(∀ d∈D,d∉C)->(∀ d1,D.head?=some d1->lab c d1=g)->∀ d∈D,∀ w,E W d w->lab d w=g
 | [],_,_,_,_,d,f,_,_=>by cases f
 | d1::D,c,ad,nc,h1,d,f,w,e=>by
  have n:=ad c d1 (.inl ⟨rfl,rfl⟩);have l:=nc d1 (by simp);have a:=h1 d1 rfl;have b:lab d1 c=g:=by rw[<-i c d1 n (λ h=>l (kT h).2) (λ h=>l (kT h).1)];exact a
  have all:∀ w,E W d1 w->lab d1 w=g:=λ w e=>by rw[kGQ S s i l e (S.sym _ _ n)];exact b
  rcases cy.mp f with rfl | m
  ·exact all w e
  ·exact cJ S s i D d1 (λ p q h=>ad p q (.inr h)) (λ d f=>nc d (dq _ f)) (λ r o=>by
    cases D with
    | nil=>cases o
    | cons d3 D =>
     cases o
     exact all r (ad d1 r (.inr (.inl ⟨rfl,rfl⟩)))) d m w e
def kQD(S:Nb W)(nd:C.Nodup)(r:Fit W lab)(l:∀ p q,Nx C p q->E W p q)(o:∀ x y,E W x y->¬ Nx C x y->¬ Nx C y x->lab x y=lab y x){p q b d:Nat}(h:Nx C p q)(h':Nx C b d):lab p q=lab b d:=by
 have:=aB nd (P:=λ c=>∀ n,Nx C c n->lab c n=lab b d) (kT h).1 (kT h').1 (λ n f=>by rw[jN nd f h']) (λ c v i _ a z n f=>by
  have a:=yV nd i a;have:=jN nd f a;subst this;obtain⟨m,g⟩:=cF i;rw[<-fK S nd r l o a g];exact z m g)
 exact this q h
end
structure Pel(W:Rows)(a b:Nat)(T off:List Nat):Prop where
 nd:T.Nodup
 hd:T.head?=some a
 lt:T.getLast?=some b
 two:2<=T.length
 out:∀ x∈T,x∉off
 nof:off.Nodup
 inn:∀ x y,x∉off->x∉T->E W x y->y∉off
 row:∀ u v w,Nx T u v->Nx T v w->∃ row ins outs,W[v]?=some row/\Ro row (ins++outs)/\(∀ x∈ins,x∉off)/\(∀ x∈outs,x∈off)/\ins.head?=some u/\ins.getLast?=some w
section
variable {W:Rows} {T off:List Nat} {a b:Nat}
def Pel.path(h:Pel W a b T off){u v:Nat}(n:Nx T u v):E W v u:=by
 obtain⟨w,g⟩:=cF (kT n).2;obtain⟨row,c,outs,f,l,_,_,d,_⟩:=h.row u v w n g;refine⟨row,f,(l.mem u).mpr ?_⟩
 cases c with
 | nil=>cases d
 | cons i c =>
  cases d
  simp
def kJI{W:Rows}(G:Good W):W.length+(facesS W).length=(tiesS W).length+2:=((three_cornered (Wb.of G).toNb).mpr (zK G)).1
def vA{l:List Nat}{x:Nat}(h:l.getLast?=some x):∃ I,l=I++[x]:=by
 have a:l≠[]:=λ z=>by rw[z]at h;cases h
 rw[fk a]at h;exact⟨l.dropLast,by rw[<-cc h];exact(fh a).symm⟩
def aI{l:List Nat}{x:Nat}(h:l.head?=some x):∃ I,l=x::I:=by
 cases l with
 | nil=>cases h
 | cons y l=>cases h;exact⟨l,rfl⟩
def kVI(G:Good W)(h:Pel W a b T off){A D M:List Nat}{x y k l:Nat}(e:T=A++(x::(k::M)++[y])++D)(ch:E W x y)(hl:l∈A++D)(ek:E W k l):False:=by
 have S:=(Wb.of G).toNb;have a5:=h.nd;rw[e]at a5;have d1:=bj.mp a5;have d2:=bj.mp d1.1;have H:(x::(k::M)++[y]).Nodup:=d2.2.1
 have lC:l∉x::(k::M)++[y]:=λ z=>by
  rcases bu.mp hl with m | m
  ·exact d2.2.2 l m l z rfl
  ·exact d1.2.2 l (cw _ z) l m rfl
 have lT:l∈T:=by
  rw[e];rcases bu.mp hl with m | m
  ·exact cj _ (cj _ m)
  ·exact cw _ m
 have nT:∀ u v,Adj (x::(k::M)++[y]) u v->Nx T u v:=λ u v j=>by
  rw[e];exact(nxO u v).mpr (.inl j)
 have nC:∀ u v,Adj (x::(k::M)++[y]) u v->Nx (x::(k::M)++[y]) u v:=λ u v j=>(nxP (k::M) x y u v).mpr (.inl j);have a2:Nx (x::(k::M)++[y]) y x:=(nxP (k::M) x y y x).mpr (.inr ⟨rfl,rfl⟩)
 have ce:∀ p q,Nx (x::(k::M)++[y]) p q->E W p q:=λ p q hn=>by
  rcases(nxP (k::M) x y p q).mp hn with j | ⟨rfl,rfl⟩
  ·exact S.sym _ _ (h.path (nT p q j))
  ·exact S.sym _ _ ch
 obtain⟨c,c1,sy,a6⟩:=kTG S G.con (kJI G) H (by simp) ce
 have Z:∀{v p n z:Nat},Nx (x::(k::M)++[y]) p v->Nx (x::(k::M)++[y]) v n->E W v z->z≠p->z≠n->c v z=c z v:=λ hp hn ez n1 n2=>sy _ _ ez (λ L=>n2 (jN H L hn)) (λ L=>n1 (yF H L hp))
 have a1:Adj (x::(k::M)++[y]) x k:=.inl ⟨rfl,rfl⟩
 obtain⟨n,a0⟩ : ∃ n,Adj (x::(k::M)++[y]) k n:=by
  cases M with
  | nil=>exact⟨y,.inr (.inl ⟨rfl,rfl⟩)⟩
  | cons m M=>exact⟨m,.inr (.inl ⟨rfl,rfl⟩)⟩
 have kA:c k l=c n k:=by
  obtain⟨row,r,outs,N,O,a7,C,L,ht⟩:=h.row x k n (nT _ _ a1) (nT _ _ a0);obtain⟨a3,o,ml⟩:=id ek;rw[N]at o
  cases o
  have X:(r++outs).Nodup:=O.nd.mp (S.nd _ _ N)
  have li:l∈r:=by
   rcases bu.mp ((O.mem l).mp ml) with z | z
   ·exact z
   ·exact absurd (C l z) (h.out l lT)
  obtain⟨I,rfl⟩:=vA ht;have f:=(bj.mp X).1
  have lI:l∈I:=by
   rcases bu.mp li with z | z
   ·exact z
   ·rw[de.mp z]at lC
    exact absurd (kT (nC _ _ a0)).2 lC
  refine kMZ S c1 (A:=[]) (B:=outs) (t:=n) N I (by simpa using O) (λ z hz=>?_) l lI;have zI:z∈I:=yc hz;refine Z (nC _ _ a1) (nC _ _ a0) ⟨row,N,(O.mem z).mpr (by simp[zI])⟩ (λ zx=>?_) (λ zn=>?_)
  ·cases I with
   | nil=>cases hz
   | cons i I =>
    have:i=x:=cc L;rw[iE,eK]at f;exact f.1 (cj _ (by rw[this,<-zx];exact hz))
  ·exact(bj.mp f).2.2 z zI n (by simp) zn
 have back:∃ p q,Nx (x::(k::M)++[y]) p q/\c l k=c p q:=by
  rcases bu.mp hl with m | m
  ·-- ahead of x
   have a8:A≠[]:=EI m;obtain⟨A',p0,rfl⟩ : ∃ I u,A=I++[u]:=⟨A.dropLast,A.getLast a8,(fh a8).symm⟩
   have ah:Nx T p0 x:=by
    rw[e,show A'++[p0]++(x::(k::M)++[y])++D=A'++p0::x::((k::M)++[y]++D) by simp];exact wX _ _ _ _
   have key:c x p0=c y x:=by
    obtain⟨row,r,outs,N,O,a7,C,L,ht⟩:=h.row p0 x k ah (nT _ _ a1);have X:(r++outs).Nodup:=O.nd.mp (S.nd _ _ N);have f:=(bj.mp X).1;obtain⟨a3,o,my⟩:=id ch;rw[N]at o
    cases o
    have yT:y∈T:=by rw[e];simp
    have yi:y∈r:=by
     rcases bu.mp ((O.mem y).mp my) with z | z
     ·exact z
     ·exact absurd (C y z) (h.out y yT)
    obtain⟨U,Y,rfl⟩:=xr yi;have ab:p0≠y:=λ z=>d2.2.2 p0 (by simp) y (by simp) z
    have ky:k≠y:=λ z=>by
     rw[z]at H;simp at H
    have ac:p0∈U:=by
     cases U with
     | nil=>exact absurd (cc L).symm ab
     | cons i U=>rw[show p0=i from(cc L).symm];simp
    refine kMZ S c1 (A:=[]) (B:=Y++outs) (t:=y) N U (by simpa using O) (λ z hz=>?_) p0 ac;have zI:z∈U:=yc hz;refine Z a2 (nC _ _ a1) ⟨row,N,(O.mem z).mpr (by simp[zI])⟩ (λ zy=>?_) (λ zk=>?_)
    ·exact(bj.mp f).2.2 z zI y (by simp) zy
    ·obtain⟨J,hJ⟩:=vA ht
     have kI:k∈y::Y:=by
      have:(U++y::Y).getLast?=(y::Y).getLast?:=by rw[eZ,fk (yw y Y)];rfl
      rw[this]at ht;exact yt ht
     exact(bj.mp f).2.2 z zI k kI zk
   refine⟨y,x,a2,?_⟩;refine cJ S c1 sy (A'++[p0]).reverse x (λ p q j=>?_) (λ d hd hc=>?_) (λ d1 hd=>?_) l (uh.mpr m) k (S.sym _ _ ek)
   ·have j':Adj (A'++[p0]++[x]).reverse p q:=by
     rw[yo];exact j
    have j2:=kHL j';refine h.path (u:=q) (v:=p) ?_;rw[e];show Adj (A'++[p0]++(x::(k::M)++[y])++D++_) q p;rw[show A'++[p0]++(x::(k::M)++[y])++D=(A'++[p0])++x::((k::M)++[y]++D) by simp,dr (A'++[p0])];exact(qT _ x _ q p).mpr (.inl j2)
   ·exact d2.2.2 d (uh.mp hd) d hc rfl
   ·rw[yo]at hd
    cases hd
    exact key
  ·-- behind y
   have al:D≠[]:=EI m
   obtain⟨g,D',rfl⟩ : ∃ g D',D=g::D':=by
    cases D with
    | nil=>exact absurd rfl al
    | cons g D'=>exact⟨g,D',rfl⟩
   obtain⟨Q,p,hQ⟩ : ∃ Q p,k::M=Q++[p]:=⟨(k::M).dropLast,(k::M).getLast (by simp),(fh (by simp)).symm⟩
   have a4:Adj (x::(k::M)++[y]) p y:=by
    rw[hQ,show x::(Q++[p])++[y]=(x::Q)++p::[y] by simp];exact(qT (x::Q) p [y] p y).mpr (.inr (.inl ⟨rfl,rfl⟩))
   have ag:Nx T y g:=by
    rw[e,show A++(x::(k::M)++[y])++g::D'=(A++x::(k::M))++y::g::D' by simp];exact wX _ _ _ _
   have px:p≠x:=λ z=>by
    rw[hQ,z]at H;simp at H
   have key:c y g=c y x:=by
    obtain⟨row,r,outs,N,O,a7,C,L,ht⟩:=h.row p y g (nT _ _ a4) ag;have X:(r++outs).Nodup:=O.nd.mp (S.nd _ _ N);have f:=(bj.mp X).1;obtain⟨a3,o,mx⟩:=S.sym _ _ ch;rw[N]at o
    cases o
    have xT:x∈T:=by rw[e];simp
    have xi:x∈r:=by
     rcases bu.mp ((O.mem x).mp mx) with z | z
     ·exact z
     ·exact absurd (C x z) (h.out x xT)
    obtain⟨U,Y,rfl⟩:=xr xi;have a9:g≠x:=λ z=>d1.2.2 x (by simp) g (by simp) z.symm
    have dI:g∈Y:=by
     have e2:(U++x::Y).getLast?=(x::Y).getLast?:=by rw[eZ,fk (yw x Y)];rfl
     rw[e2]at ht;rcases cy.mp (yt ht) with z | z
     ·exact absurd z a9
     ·exact z
    have pI:p∈U:=by
     cases U with
     | nil=>exact absurd (cc L).symm px
     | cons i U=>rw[show p=i from(cc L).symm];simp
    refine kMY S c1 N Y U outs x (by simpa using O) (λ z hz=>?_) g dI;refine Z (nC _ _ a4) a2 ⟨row,N,(O.mem z).mpr (by simp[hz])⟩ (λ zp=>?_) (λ zx=>?_)
    ·exact(bj.mp f).2.2 p pI z (by simp[hz]) zp.symm
    ·have:=(bj.mp f).2.1
     rw[eK]at this;exact this.1 (zx ▸ hz)
   refine⟨y,x,a2,?_⟩;refine cJ S c1 sy (g::D') y (λ p q j=>?_) (λ d hd hc=>?_) (λ d1 hd=>?_) l m k (S.sym _ _ ek)
   ·refine S.sym _ _ (h.path (u:=p) (v:=q) ?_)
    rw[e];show Adj (A++(x::(k::M)++[y])++g::D'++_) p q;rw[show A++(x::(k::M)++[y])++g::D'=(A++x::(k::M))++y::(g::D') by simp,dr (A++x::(k::M))];refine(qT _ y _ p q).mpr (.inr ?_)
    have:∀(l s:List Nat),Adj l p q->Adj (l++s) p q:=λ l=>by
     induction l with
     | nil=>intro s h;exact h.elim
     | cons i l ih =>
      intro s h
      cases l with
      | nil=>exact h.elim
      | cons i2 l =>
       rcases h with h | h
       ·exact .inl h
       ·exact .inr (ih s h)
    exact this (y::g::D') _ j
   ·exact d1.2.2 d (cw _ hc) d hd rfl
   ·cases hd
    exact key
 obtain⟨p,q,af,ak⟩:=back;have s1:c k l=c l k:=sy k l ek (λ L=>lC (kT L).2) (λ L=>lC (kT L).1);refine a6 k n (nC _ _ a0) ?_;rw[kQD S H c1 ce sy (nC _ _ a0) af,<-ak,<-s1,kA]
end
end Fc
namespace Tri
open Cyc Rnd
section
variable {W M:Rows}
end
section
variable {W V:Rows} {ns:List Nat}
end
section
variable {W W':Rows}
def kKP{a b:Nat}(S:Nb W)(e:E W a b):Top W [a,b] [a,b]:=by
 refine⟨?_,λ x c=>c,λ x y ad=>?_⟩
 ·have:=(S.e e).2.2
  simp[this.symm]
 ·rcases ad with⟨rfl,rfl⟩ | z
  ·exact e
  ·exact absurd z id
def kIZ{a b c:Nat}{d:List Nat}{m l:List (List Nat)}(o:3<=d.length)(h:yS W a b c d=some (m,l)):∃ r,d=a::b::r/\r.getLast?=some c/\goF W d r.length=some (m,l):=by
 unfold yS at h
 split at h
 ·rename_i q
  obtain⟨g,i,f⟩:=q
  match d,o,g,i,f,h with
  | x::y::z::r,_,g,i,f,h =>
   have p:x=a:=cc g;have n:y=b:=cc i;subst p;subst n;refine⟨z::r,rfl,?_,h⟩;rw[AW,AW]at f;exact f
 ·cases h
end
end Tri
namespace Fc
open Tri Cyc Rnd
section
variable {W:Rows}
def kDH(S:Nb W):∃ R:List (Nat×Nat),xW W=R.map (λ r=>(rnd W r).map (·.1))/\(∀ r∈R,r∈kO W/\∀ u∈rnd W r,leP r u=true)/\∀ t∈kO W,∃ r∈R,t∈rnd W r:=by
 have q:∀ t∈stepsS W,t∈kO W:=λ t h=>(sortP_perm _).mem_iff.mp h;have p:(stepsS W).Pairwise (λ a b=>leP a b=true):=pZ (kO W)
 have key:∀ n,n<=(stepsS W).length->∃ R:List (Nat×Nat),(fgo W ((stepsS W).take n)).1=R.map (λ r=>(rnd W r).map (·.1))/\(fgo W ((stepsS W).take n)).2=R.flatMap (rnd W)/\∀ r∈R,r∈kO W/\∀ u∈rnd W r,leP r u=true:=λ n=>by
  induction n with
  | zero=>intro _;exact⟨[],rfl,rfl,by simp⟩
  | succ n ih =>
   intro G;obtain⟨R,h1,f,i⟩:=ih (by omega);have s:=fgo_ok S ((stepsS W).take n) λ t h=>q t (wc h);have d:n<(stepsS W).length:=by omega
   have e:(stepsS W).take (n+1)=(stepsS W).take n++[(stepsS W)[n]]:=by rw[jf,aa d];rfl
   have o:=q _ (gh d);rw[e,fgo_snoc];unfold fstep
   split
   ·exact⟨R,h1,f,i⟩
   ·rename_i c
    refine⟨R++[(stepsS W)[n]],by rw[eN,h1];rfl,by rw[zd,f,xw],λ r B=>?_⟩;rcases bu.mp B with z | z
    ·exact i r z
    ·rw[de.mp z]
     refine⟨o,λ u v=>?_⟩;have A:=rnd_sub S o v;have x:u∈stepsS W:=(sortP_perm _).mem_iff.mpr A;obtain⟨m,y,rfl⟩:=fc.mp x;rcases iA m n with l | l
     ·exfalso
      have g:=s.cov _ (fc.mpr ⟨m,by rw[eJ];omega,by rw[xt]⟩ : (stepsS W)[m]∈(stepsS W).take n);obtain⟨j,C⟩:=(uK S o).mp v;obtain⟨p0,_,back,_⟩:=gW S o;rw[<-C]at g;generalize(stepsS W)[n]=t at *
      have:Rnd.it (nxt W) (per W t*(j+1)-j) (Rnd.it (nxt W) j t)=t:=by
       have le:j<=per W t*(j+1):=fz (AR j) (Cz _ p0);rw[<-uC,EE le,kEF _ _ back,Eh]
       rfl
      rw[<-this]at c;exact c (s.it g _)
     ·rcases Nat.eq_or_lt_of_le l with e | l
      ·subst e
       rw[leP_iff];omega
      ·exact(jl.mp p) n m d y l
 obtain⟨R,h1,f,i⟩:=key _ (bg _);rw[iW]at h1 f;refine⟨R,h1,i,λ t D=>?_⟩;have:=(mP S).mem_iff.mpr D;rw[f]at this;exact Az.mp this
def kBK(x y v:Nat):Nat:=if y<x then(if v<y then v else y) else if v<x then v else x
def nf(x y v:Nat):List Nat:=if kBK x y v=x then[x,y,v] else if kBK x y v=y then[y,v,x] else[v,x,y]
def hV(x y v:Nat):nf x y v=[x,y,v]\/nf x y v=[y,v,x]\/nf x y v=[v,x,y]:=by
 unfold nf
 split
 ·exact .inl rfl
 ·split
  ·exact .inr (.inl rfl)
  ·exact .inr (.inr rfl)
def nf_mem{x y v z:Nat}:z∈nf x y v↔z=x\/z=y\/z=v:=by
 rcases hV x y v with e | e | e<;>rw[e]<;>simp<;>omega
def kMU{p q s:Nat}(h:p<q)(h':p<s):nf p q s=[p,q,s]/\nf q s p=[p,q,s]/\nf s p q=[p,q,s]:=by
 have a:kBK p q s=p:=by unfold kBK;rw[if_neg (by omega),if_neg (by omega)]
 have d:kBK q s p=p:=by
  unfold kBK;by_cases c:s<q
  ·rw[if_pos c,if_pos h']
  ·rw[if_neg c,if_pos h]
 have b:kBK s p q=p:=by unfold kBK;rw[if_pos h',if_neg (by omega)]
 refine⟨?_,?_,?_⟩
 ·unfold nf;rw[a,if_pos rfl]
 ·unfold nf;rw[d,if_neg (by omega),if_neg (by omega)]
 ·unfold nf;rw[b,if_neg (by omega),if_pos rfl]
def kSY{x y d c v:Nat}(h1:x≠v)(h:y≠v)(g:d≠v)(f:c≠v)(e:nf x y v=nf d c v):x=d/\y=c:=by
 rcases hV x y v with a | a | a<;>rcases hV d c v with b | b | b<;>rw[a,b]at e<;>simp at e<;>omega
def kWD(S:Nb W)(three:∀ t∈kO W,(nxt W (nxt W t)).2=t.1){p q:Nat}(h:E W p q):rnd W (p,q)=[(p,q),(q,(nxt W (p,q)).2),((nxt W (p,q)).2,p)]:=by
 have g:(p,q)∈kO W:=mem_steps.mpr h;have f:p≠q:=λ z=>(S.e h).2.2 z.symm;obtain⟨s,m,a,i⟩:=xO S h;have d:=three _ g;have c:=three (q,s) (mem_steps.mpr i);rw[a]at d;have b:nxt W (q,s)=(s,p):=rm rfl d;rw[b]at c;have l:nxt W (s,p)=(p,q):=rm rfl c
 have pk:per W (p,q)=3:=by
  refine per_is (by omega) ?_ λ j o n=>?_
  ·show nxt W (nxt W (nxt W (p,q)))=_
   rw[a,b,l]
  ·rcases(by omega:j=1\/j=2) with rfl | rfl
   ·show nxt W (p,q)≠_
    rw[a];exact λ z=>f (congrArg Bp z).symm
   ·show nxt W (nxt W (p,q))≠_
    rw[a,b];exact λ z=>f (congrArg Bq z)
 unfold rnd;rw[pk,a];show[(p,q),nxt W (p,q),nxt W (nxt W (p,q))]=_;rw[a,b]
def oT(S:Nb W)(three:∀ t∈kO W,(nxt W (nxt W t)).2=t.1){x y:Nat}(h:E W x y):nf x y (nxt W (x,y)).2∈xW W:=by
 obtain⟨R,e,h1,A⟩:=kDH S;obtain⟨⟨p,q⟩,m,b⟩:=A (x,y) (mem_steps.mpr h);obtain⟨u,c⟩:=h1 _ m;have d:=mem_steps.mp u;have a:=kWD S three d;obtain⟨s,M,f,n⟩:=xO S d;have o:=three _ u;have r:=three (q,s) (mem_steps.mpr n);rw[f]at o;have g:nxt W (q,s)=(s,p):=rm rfl o;rw[g]at r;have D:nxt W (s,p)=(p,q):=rm rfl r;rw[f]at a
 have i:E W s p:=by
  obtain⟨N,_,l,I⟩:=xO S n;rw[g]at l;have:=congrArg Bq l;simp only at this;rw[this];exact I
 rw[a]at c b;have H:=leP_iff.mp (c (q,s) (by simp));have v:=leP_iff.mp (c (s,p) (by simp));have B:p≠q:=λ z=>(S.e d).2.2 z.symm;have C:s≠p:=λ z=>(S.e i).2.2 z.symm;simp only at H v;obtain⟨G,L,J⟩:=kMU (p:=p) (q:=q) (s:=s) (by omega) (by omega)
 have mem:[p,q,s]∈xW W:=by
  rw[e];exact iK.mpr ⟨(p,q),m,by rw[a];rfl⟩
 simp only[cy,gj,or_false,Prod.mk.injEq]at b;rcases b with⟨rfl,rfl⟩ | ⟨rfl,rfl⟩ | ⟨rfl,rfl⟩
 ·rw[f]
  exact G ▸ mem
 ·rw[g]
  exact L ▸ mem
 ·rw[D]
  exact J ▸ mem
theorem dB{α:Type}[DecidableEq α]:∀{L M:List α},L.Nodup->(∀ x∈L,x∈M)->M.length<=L.length->L.Perm M
 | [],M,_,_,h=>by
  rw[qv,Nat.le_zero]at h;rw[iq.mp h]
 | x::L,M,nd,sub,h=>by
  have b:=sub x (eV ..);have a:=eK.mp nd;refine .trans ?_ (List.perm_cons_erase b).symm;refine .cons x (dB a.2 (λ y c=>?_) ?_)
  ·exact(List.mem_erase_of_ne λ z:y=x=>a.1 (z ▸ c)).mpr (sub y (dq _ c))
  ·rw[List.length_erase_of_mem b]
   rw[eh]at h;omega
def pf(F:List Nat)(v:Nat):List (List Nat):=(F.zip F.tail).map λ t=>nf t.1 t.2 v
def mkF(b:List Nat)(a:List (List Nat)):List (List Nat):=(cz a.length).flatMap λ k=>pf (a.getD k []) (b.getD (k+2) 0)
def kBG(a:List Nat)(fs:List (List Nat))(st:List Nat):mkF a (fs++[st])=mkF a fs++pf st (a.getD (fs.length+2) 0):=by
 unfold mkF;rw[cq,iR,Bo,zd,xw]
 congr 1
 ·show((cz fs.length).map _).flatten=((cz fs.length).map _).flatten
  congr 1
  refine zg λ k b=>?_;have:=iB.mp b;have q:(fs++[st]).getD k []=fs.getD k []:=by rw[ai,ai,cm this]
  rw[q]
 ·have q:(fs++[st]).getD fs.length []=st:=by rw[ai,gn];rfl
  rw[q]
structure LF(W:Rows)(ms:List Nat)(a b i:Nat)(fs ts:List (List Nat)):Prop where
 lf:fs.length=i
 lt:ts.length=i+1
 inF:∀ f∈mkF ms fs,f∈xW W/\∀ x∈f,x∈ms.take (i+2)
 nd:(mkF ms fs).Nodup
 cnt:(mkF ms fs).length+(ts.getLastD []).length=2+2*i
 top:∀(k:Nat)(T:List Nat),ts[k]?=some T->Top W (ms.take (k+2)) T/\T.head?=some a/\T.getLast?=some b/\ms.getD (k+1) 0∈T
 st:∀(k:Nat)(F T T':List Nat),fs[k]?=some F->ts[k]?=some T->ts[k+1]?=some T'->T'.length+F.length=T.length+3/\2<=F.length/\∀ x∈T',x∈T\/x=ms.getD (k+2) 0
def fN{F:List Nat}(h:F.Nodup):(F.zip F.tail).Nodup:=by
 refine jl.mpr λ i j a b c e=>?_;rw[Bx]at a b;rw[FE,FE]at e;have:=(xf h).mp (congrArg Bp e);omega
def aP{F:List Nat}{x y:Nat}(h:(x,y)∈F.zip F.tail):x∈F/\y∈F:=⟨(Bi h).1,yc (Bi h).2⟩
def kMG{F:List Nat}{v:Nat}(h:F.Nodup)(n:v∉F):(pf F v).Nodup:=by
 unfold pf;refine ip.mpr ((fN h).imp_of_mem λ{s t} c o p e=>p ?_);have a:∀{z},z∈F->z≠v:=λ i q=>n (q ▸ i);obtain⟨l,b⟩:=aP (show(s.1,s.2)∈_ from c);obtain⟨g,d⟩:=aP (show(t.1,t.2)∈_ from o);obtain⟨f,m⟩:=kSY (a l) (a b) (a g) (a d) e;exact rm f m
def kSH(F:List Nat)(v:Nat):(pf F v).length=F.length-1:=by
 unfold pf;rw[aj,Bx,Cm];omega
def LF.of(S:Nb W)(three:∀ t∈kO W,(nxt W (nxt W t)).2=t.1){d:List Nat}{a b:Nat}(D:d.Nodup)(Y:d.take 2=[a,b])(a1:E W a b) :
  ∀{i:Nat}{fs Q:List (List Nat)},i+2<=d.length->goF W d i=some (fs,Q)->LF W d a b i fs Q:=by
 have h0:Top W (d.take 2) (d.take 2):=by rw[Y];exact kKP S a1
 intro i
 induction i with
 | zero =>
  intro fs Q hl h;unfold goF at h;have h:=cc h;injection h with h1 h2
  rw[<-h1,<-h2,Y]
  have U:d.getD 1 0=b:=by
   match d,Y with
   | x::y::r,e=>simp at e;exact e.2
  refine⟨rfl,rfl,(by intro f hf;simp[mkF]at hf),(by simp[mkF]),(by simp[mkF]),λ k T e=>?_,λ k F T T' e=>by simp at e⟩
  match k,e with
  | 0,e =>
   cases e
   refine⟨by rw[<-Y];exact h0,rfl,rfl,by rw[U];simp⟩
  | k+1,e=>simp at e
 | succ i ih =>
  intro fs Q hl h;obtain⟨f1,s,e⟩:=bK (i:=i) (j:=1) h;obtain⟨st,z,U,X⟩:=uD e h;have L:=ih (by omega) e;have TT:=fL D S.sym h0 (by omega) e;have T2:=fL D S.sym h0 (by omega) h;have np:d.getD (i+2) 0∉d.take (i+2):=uJ D (by omega) (by omega);obtain⟨_,_,_,ez⟩:=TT.step S.sym np z;obtain⟨B,f,M,l,C,s1,N,mem,nz⟩:=wF TT.nd z;have lf:=L.lf;have lt:=L.lt
  have tl:s[i]?=some (s.getLastD []):=by
   rw[iF,iU,show s.length-1=i by omega,aa (by omega)]
   rfl
  obtain⟨_,hd,o,_⟩:=L.top i _ tl
  have J:poF (s.getLastD []) st (d.getD (i+2) 0)=B++[f,d.getD (i+2) 0,l]++C:=by
   rw[s1];exact uI N TT.nd
  have g:Q.getLastD []=poF (s.getLastD []) st (d.getD (i+2) 0):=by
   rw[X];generalize poF (s.getLastD []) st (d.getD (i+2) 0)=Z;rw[iF,eZ]
   rfl
  have snd:st.Nodup:=by
   have:=TT.nd;rw[N]at this;rw[s1];exact(bj.mp (bj.mp this).1).2.1
  have a0:d.getD (i+2) 0∉st:=λ q=>np ((mem _).mp q).1;have ga:d[i+2]?=some (d.getD (i+2) 0):=by rw[ai,aa (by omega)];rfl
  have tk:d.take (i+1+2)=d.take (i+2)++[d.getD (i+2) 0]:=by rw[jf,ga];rfl
  have lst:st.length=M.length+2:=by rw[s1];simp
  have lT:(s.getLastD []).length=B.length+(M.length+2)+C.length:=by rw[N];simp only[cq,eh,qv]
  have lP:(B++[f,d.getD (i+2) 0,l]++C).length=B.length+3+C.length:=by simp only[cq,eh,qv]
  have A:∀ F∈pf st (d.getD (i+2) 0),∃ x y,(x,y)∈st.zip st.tail/\F=nf x y (d.getD (i+2) 0):=λ F O=>by
   obtain⟨⟨x,y⟩,n,rfl⟩:=iK.mp O;exact⟨x,y,n,rfl⟩
  have mk:mkF d fs=mkF d f1++pf st (d.getD (i+2) 0):=by rw[U,kBG,lf]
  refine⟨by rw[U,cq,lf];rfl,by rw[X,cq,lt];rfl,?_,?_,?_,?_,?_⟩
  ·intro F O
   rw[mk]at O;rcases bu.mp O with m | m
   ·obtain⟨p,v⟩:=L.inF F m
    exact⟨p,λ x hx=>by rw[tk];exact cj _ (v x hx)⟩
   ·obtain⟨x,y,n,rfl⟩:=A F m
    have nv:(nxt W (x,y)).2=d.getD (i+2) 0:=nz _ n;refine⟨by rw[<-nv];exact oT S three (ez _ n),λ u hu=>?_⟩;rw[tk];rcases nf_mem.mp hu with rfl | rfl | rfl
    ·exact cj _ ((mem _).mp (aP n).1).1
    ·exact cj _ ((mem _).mp (aP n).2).1
    ·exact cw _ (de.mpr rfl)
  ·rw[mk]
   refine bj.mpr ⟨L.nd,kMG snd a0,λ F O G hG q=>?_⟩;subst q;obtain⟨x,y,n,rfl⟩:=A F hG;exact np ((L.inF _ O).2 _ (nf_mem.mpr (.inr (.inr rfl))))
  ·have:=L.cnt
   rw[mk,g,J,cq,kSH,lP];omega
  ·intro k T I
   rw[X]at I;rcases iA k s.length with c | c
   ·rw[cm c]at I
    exact L.top k T I
   ·have kk:k=i+1:=by
     have:=(au.mp I).1;rw[cq,iR]at this;omega
    subst kk
    have:T=Q.getLastD []:=by
     rw[g];rw[ck c,show i+1-s.length=0 by omega]at I;exact(cc I).symm
    rw[this];refine⟨T2,?_,?_,?_⟩
    ·rw[g,J]
     rw[N]at hd
     cases B with
     | nil=>simpa using hd
     | cons x B=>simpa using hd
    ·rw[g,J]
     rw[N]at o;rw[eZ]at o ⊢
     cases hC:C.getLast? with
     | none =>
      rw[hC,eZ,eZ]at o;rw[eZ];simpa using o
     | some x =>
      rw[hC]at o;simpa using o
    ·rw[g,J]
     simp
  ·intro k F T T' p v H
   rw[U]at p;rw[X]at v H;rcases iA k i with c | c
   ·rw[cm (by omega)]at p v H
    exact L.st k F T T' p v H
   ·have kk:k=i:=by
     have:=(au.mp p).1;rw[cq,iR]at this;omega
    subst kk;rw[ck (by omega),show k-f1.length=0 by omega]at p;rw[cm (by omega),tl]at v;rw[ck (by omega),show k+1-s.length=0 by omega]at H;have p:=cc p;have v:=cc v;have H:=cc H;rw[<-p,<-v,<-H];refine⟨by rw[J,lP,lst,lT];omega,by omega,λ x hx=>?_⟩;rw[J]at hx;rw[N];simp only[bu,cy,gj,or_false]at hx ⊢
    grind
def kGM{x y:Nat}(h:E W x y):y∈W.getD x []:=by
 obtain⟨row,e,m⟩:=h;rw[ai,e];exact m
def laid_made(S:Nb W)(three:∀ t∈kO W,(nxt W (nxt W t)).2=t.1)(cnt:(kO W).length+12=6*W.length){A:List Nat}{a b c:Nat}{X o:List (List Nat)}(pm:A.Perm (cz W.length))(l3:3<=W.length)(Y:E W a c)(hb:(nxt W (a,c)).2=b)(s:E W a b)(lf:yS W a b c A=some (X,o)) :
  LF W A a b (W.length-2) X o/\o.getLast?=some [a,c,b]/\o[0]?=some [a,b]/\(nf a c b::mkF A X).Perm (xW W):=by
 have n:A.Nodup:=pm.nodup_iff.mpr sj;have H:A.length=W.length:=by rw[pm.length_eq,eY]
 obtain⟨r,rfl,Q,h⟩:=kIZ (by omega) lf
 obtain⟨m,hm⟩ : ∃ m,r.length=m+1:=by
  cases r with
  | nil=>cases Q
  | cons x r=>exact⟨r.length,rfl⟩
 have lW:W.length=m+3:=by rw[<-H,eh,eh,hm]
 rw[hm]at h;have U:=LF.of S three n rfl s (by rw[H];omega) h;obtain⟨f1,t1,e⟩:=bK (i:=m) (j:=1) h;obtain⟨st,z,e1,e3⟩:=uD e h;have L:=LF.of S three n rfl s (by rw[H];omega) e;have TT:=fL n S.sym (kKP S s) (by rw[H];omega) e
 have ec:(a::b::r).getD (m+2) 0=c:=by
  rw[iU,hm]at Q;show r.getD m 0=c;rw[ai];rw[show m+1-1=m from rfl]at Q;rw[Q]
  rfl
 have Z:(a::b::r).getD (m+2) 0∉(a::b::r).take (m+2):=uJ n (by omega) (by rw[H];omega);rw[ec]at Z z e3;obtain⟨B,f,M,l,C,G,et,mem,nz⟩:=wF TT.nd z;obtain⟨D,r1,n1,O⟩:=xO S Y;rw[n1]at hb;have a0:D=b:=hb;subst a0;have ma:a∈st:=(mem a).mpr ⟨by simp,kGM (S.sym _ _ Y)⟩;have mb:D∈st:=(mem D).mpr ⟨by simp,kGM O⟩
 have tl:t1[m]?=some (t1.getLastD []):=by
  have:=L.lt;rw[iF,iU,show t1.length-1=m by omega,aa (by omega)]
  rfl
 obtain⟨_,hd,g,_⟩:=L.top m _ tl;have I:=TT.nd;rw[et]at hd g I;rw[G]at ma mb;have d1:=bj.mp I;have d2:=bj.mp d1.1
 have hB:B=[]:=by
  cases B with
  | nil=>rfl
  | cons x B =>
   have:x=a:=by simpa using hd
   exact absurd rfl (d2.2.2 x (eV ..) a ma |> λ q=>λ _=>q this)
 have hC:C=[]:=by
  cases hC:C.getLast? with
  | none=>exact CF.mp hC
  | some x =>
   rw[eZ,hC]at g;have:x=D:=by simpa using g
   have hx:x∈C:=yt hC;exact absurd this.symm (d1.2.2 D (cw _ mb) x hx)
 subst hB;subst hC;have hf:f=a:=by simpa using hd
 have hl:l=D:=by
  rw[iY,ub,eZ]at g;simpa using g
 subst hf;subst hl
 have d:o.getLast?=some [f,c,l]:=by
  rw[e3,eZ,G,uI et TT.nd]
  rfl
 have p:o.getLastD []=[f,c,l]:=by rw[iF,d];rfl
 have t0:o[0]?=some [f,l]:=by
  have:∀{i:Nat}{fs T:List (List Nat)},goF W (f::l::r) i=some (fs,T)->T[0]?=some [f,l]:=by
   intro i
   induction i with
   | zero =>
    intro fs T q;unfold goF at q;have q:=cc q;injection q with q1 N
    rw[<-N]
    rfl
   | succ i ih =>
    intro fs T q;obtain⟨f2,t2,N⟩:=bK (i:=i) (j:=1) q;obtain⟨a4,z2,q3,q4⟩:=uD N q;have:=(lU N).2;rw[q4,cm (by omega)];exact ih N
  exact this h
 refine⟨by rw[show W.length-2=m+1 by omega];exact U,d,t0,?_⟩;have a2:f≠c:=λ q=>(S.e Y).2.2 q.symm;have a3:l≠c:=(S.e O).2.2;have mk:mkF (f::l::r) X=mkF (f::l::r) f1++pf st c:=by rw[e1,kBG,L.lf,ec]
 have snd:st.Nodup:=by rw[G];exact d2.2.1
 have faces:W.length+(xW W).length=(tiesS W).length+2:=by
  have:=((three_cornered S).mpr ⟨three,cnt⟩).1;unfold facesS at this;rw[(zE _).length_eq]at this;exact this
 have a1:=tM S;refine dB (eK.mpr ⟨λ q=>?_,U.nd⟩) (λ F hF=>?_) ?_
 ·rw[mk]at q
  rcases bu.mp q with q | q
  ·exact Z ((L.inF _ q).2 c (nf_mem.mpr (.inr (.inl rfl))))
  ·obtain⟨⟨x,y⟩,J,q⟩:=iK.mp q
   have q:nf x y c=nf f c l:=q;obtain⟨hx,hy⟩:=aP J;have nx:x≠c:=λ w=>Z (w ▸ ((mem x).mp hx).1);have ny:y≠c:=λ w=>Z (w ▸ ((mem y).mp hy).1)
   have:y=f:=by
    rcases hV x y c with u | u | u<;>rcases hV f c l with v | v | v<;>rw[u,v]at q<;>simp at q<;>omega
   have ht:=(Bi J).2;rw[G,this]at ht;rw[G]at snd;exact(eK.mp snd).1 ht
 ·rcases cy.mp hF with rfl | hF
  ·have:=oT S three Y
   rw[n1]at this;exact this
  ·exact(U.inF F hF).1
 ·have:=U.cnt
  rw[p]at this;simp only[eh,qv]at this ⊢;omega
end
end Fc
namespace Tri
open Cyc Rnd
theorem kCG:∀{l:List Nat}{x:Nat},x∈l.tail->∃ y,Adj l y x
 | [],_,h=>by cases h
 | [_],_,h=>by cases h
 | a::b::r,x,h=>by
  rcases cy.mp h with rfl | h
  ·exact⟨a,.inl ⟨rfl,rfl⟩⟩
  ·obtain⟨y,c⟩:=kCG (l:=b::r) (x:=x) h
   exact⟨y,.inr c⟩
section
variable {W:Rows}
def kEY(S:Nb W)(three:∀ t∈kO W,(nxt W (nxt W t)).2=t.1){x y:Nat}(h:E W x y):∃ z,nxt W (x,y)=(y,z)/\nxt W (y,z)=(z,x)/\nxt W (z,x)=(x,y)/\E W y z/\E W z x:=by
 obtain⟨z,l,g,a⟩:=xO S h;have d:=three _ (mem_steps.mpr h);have c:=three (y,z) (mem_steps.mpr a);rw[g]at d;have b:nxt W (y,z)=(z,x):=rm rfl d;rw[b]at c;obtain⟨q,_,f,i⟩:=xO S a;rw[b]at f;have:x=q:=congrArg Bq f;subst this;exact⟨z,g,b,rm rfl c,a,i⟩
end
end Tri
namespace Fc
open Cyc Rnd Tri
theorem kCH:∀{l:List Nat}{p q:Nat}(s:List Nat),Adj l p q->Adj (l++s) p q
 | [],_,_,_,h=>h.elim
 | [_],_,_,_,h=>h.elim
 | i::j::l,p,q,s,h=>by
  rcases h with h | h
  ·exact .inl h
  ·exact .inr (kCH (l:=j::l) s h)
def kOF{l:List Nat}{p q:Nat}(r:List Nat)(h:Adj l p q):Nx (l++r) p q:=by
 show Adj (l++r++_) p q;rw[dr];exact kCH _ h
section
variable {W:Rows} {T off:List Nat} {a b:Nat}
def kWK{T:List Nat}{i d:Nat}(b:2<=d)(h:i+d<T.length):∃ M,T=T.take i++(T.getD i 0::(T.getD (i+1) 0::M)++[T.getD (i+d) 0])++T.drop (i+d+1):=by
 refine⟨(T.drop (i+2)).take (d-2),?_⟩
 have g:∀ k,k<T.length->T.drop k=T.getD k 0::T.drop (k+1):=λ k a=>by
  rw[vf a,ai,aa a]
  rfl
 conv=>lhs;rw[<-gi i T,g i (by omega),g (i+1) (by omega),<-gi (d-2) (T.drop (i+1+1)),Af,show i+1+1+(d-2)=i+d by omega,g (i+d) h]
 simp
def Pel.loose(G:Good W)(h:Pel W a b T off)(H:3<=T.length):∃ i,0<i/\i+1<T.length/\∀ j,j<T.length->E W (T.getD i 0) (T.getD j 0)->j+1=i\/j=i+1:=by
 refine iH λ o=>?_;have S:=(Wb.of G).toNb;have n:∀ i,0<i->i+1<T.length->∃ j,j<T.length/\E W (T.getD i 0) (T.getD j 0)/\j+1≠i/\j≠i+1/\j≠i:=λ i h0 h1=>iH λ z=>o ⟨i,h0,h1,λ j f e=>iH λ y=>z ⟨j,f,e,λ q=>y (.inl q),λ q=>y (.inr q),λ q=>by subst q;exact(S.e e).2.2 rfl⟩⟩
 have p:∃ d,2<=d/\∃ i,i+d<T.length/\¬ (i=0/\i+d+1=T.length)/\E W (T.getD i 0) (T.getD (i+d) 0):=by
  obtain⟨j,f,e,x,A,s⟩:=n 1 (by omega) (by omega);exact⟨j-1,by omega,1,by omega,by omega,by rw[show 1+(j-1)=j by omega];exact e⟩
 obtain⟨d,⟨B,i,C,D,e⟩,r⟩:=kGN p;obtain⟨l,u,m,x,A,s⟩:=n (i+1) (by omega) (by omega);by_cases c:i<=l/\l<=i+d
 ·refine r (l-(i+1)) (by omega) ⟨by omega,i+1,by omega,by omega,?_⟩
  rw[show i+1+(l-(i+1))=l by omega];exact m
 ·obtain⟨M,v⟩:=kWK B C
  refine kVI G h v e ?_ m;have g:T[l]?=some (T.getD l 0):=by rw[ai,aa u];rfl
  rcases iA l i with z | z
  ·refine cj _ (eA (i:=l) ?_)
   rw[rh z];exact g
  ·refine cw _ (eA (i:=l-(i+d+1)) ?_)
   rw[EJ,show i+d+1+(l-(i+d+1))=l by omega];exact g
def Pel.step(G:Good W)(h:Pel W a b T off){A D:List Nat}{u v w:Nat}(e:T=A++[u,v,w]++D)(lo:∀ z∈T,E W v z->z=u\/z=w) :
  ∃ mid row outs,W[v]?=some row/\Ro row ((u::mid++[w])++outs)/\(∀ x∈outs,x∈off)/\(∀ x∈u::mid++[w],x∉off)/\Pel W a b (A++(u::mid++[w])++D) (off++[v]):=by
 have S:=(Wb.of G).toNb;have a4:=h.nd;rw[e]at a4;have nT:∀ p q,Nx T p q↔(p=u/\q=v)\/(p=v/\q=w)\/Adj (w::(D++A)++[u]) p q:=λ p q=>by rw[e];exact kWF p q
 obtain⟨row,ah,outs,er,ro,a5,a0,hh,ht⟩:=h.row u v w ((nT _ _).mpr (.inl ⟨rfl,rfl⟩)) ((nT _ _).mpr (.inr (.inl ⟨rfl,rfl⟩)))
 have uw:u≠w:=λ z=>by
  have:=(bj.mp (bj.mp a4).1).2.1;rw[z]at this;simp at this
 obtain⟨mid,rfl⟩ : ∃ mid,ah=u::mid++[w]:=by
  obtain⟨I,rfl⟩:=aI hh;obtain⟨J,hJ⟩:=vA ht
  cases J with
  | nil =>
   injection hJ with h1 h2
   exact absurd h1 uw
  | cons j J =>
   injection hJ with h1 h2
   exact⟨J,by rw[h2];rfl⟩
 have ag:((u::mid++[w])++outs).Nodup:=ro.nd.mp (S.nd _ _ er);have a6:=(bj.mp ag).1;have vT:v∈T:=by rw[e];simp
 have a9:∀ z∈u::mid++[w],E W v z:=λ z hz=>⟨row,er,(ro.mem z).mpr (cj _ hz)⟩
 have Q:∀ z∈mid,z∉T:=λ z hz hT=>by
  have n1:=(bj.mp a6).1;rcases lo z hT (a9 z (by simp[hz])) with rfl | rfl
  ·exact(eK.mp n1).1 hz
  ·exact(bj.mp a6).2.2 z (by simp[hz]) z (by simp) rfl
 have vi:v∉u::mid++[w]:=λ z=>(S.e (a9 v z)).2.2 rfl;have q1:=bj.mp a4;have q2:=bj.mp q1.1
 have st:Str A mid D u w v:=by
  refine⟨?_,?_⟩
  ·rw[bj]
   refine⟨?_,q1.2.1,λ x g y hy z=>?_⟩
   ·rw[bj]
    refine⟨q2.1,a6,λ x g y hy z=>?_⟩;subst z;by_cases m:x∈mid
    ·exact Q x m (by rw[e];simp[g])
    ·refine q2.2.2 x g x ?_ rfl
     simp at hy ⊢;rcases hy with rfl | z | rfl
     ·exact .inl rfl
     ·exact absurd z m
     ·exact .inr (.inr rfl)
   ·subst z
    rcases bu.mp g with m | m
    ·exact q1.2.2 x (cj _ m) x hy rfl
    ·by_cases c:x∈mid
     ·exact Q x c (by rw[e];simp[hy])
     ·refine q1.2.2 x (cw _ ?_) x hy rfl
      simp at m ⊢;rcases m with rfl | z | rfl
      ·exact .inl rfl
      ·exact absurd z c
      ·exact .inr (.inr rfl)
  ·intro z
   rcases bu.mp z with z | z
   ·rcases bu.mp z with z | z
    ·exact q2.2.2 v z v (by simp) rfl
    ·exact vi z
   ·exact q1.2.2 v (by simp) v z rfl
 obtain⟨f1,f2,f3,f4,f5,f6,f7,f8⟩:=st.facts;have a8:=h.out v vT
 have r:∀{x:Nat},x∉off->x≠v->x∉off++[v]:=λ h1 h2 z=>by
  rcases bu.mp z with z | z
  ·exact h1 z
  ·exact h2 (de.mp z)
 have rv:∀{p q:Nat},Adj (u::mid++[w]) p q->R W v p q:=λ{p q} j=>⟨row,er,(ro.nx p q).mpr (kOF outs j)⟩;refine⟨mid,row,outs,er,ro,a0,a5,st.nd,?_,?_,by simp;omega,λ x g=>?_,?_,λ x y g ac af=>?_,λ p z n hp hn=>?_⟩
 ·have:=h.hd
  rw[e]at this
  cases A with
  | nil=>exact this
  | cons i A=>exact this
 ·have:=h.lt
  rw[e]at this;rcases vc D with rfl | ⟨D',d,rfl⟩
  ·rw[iY]at this ⊢
   rw[show A++[u,v,w]=(A++[u,v])++[w] by simp,ke]at this;rw[show A++(u::mid++[w])=(A++(u::mid))++[w] by simp,ke];exact this
  ·rw[xb,<-dr,ke]at this ⊢
   exact this
 ·have xv:x≠v:=λ z=>st.fr (z ▸ g)
  refine r ?_ xv;by_cases m:x∈u::mid++[w]
  ·exact a5 x m
  ·refine h.out x ?_
   rw[e];simp at g m ⊢
   grind
 ·rw[bj]
  exact⟨h.nof,by simp,λ x g y hy z=>a8 (by rw[<-de.mp hy,<-z];exact g)⟩
 ·have xo:x∉off:=λ z=>g (cj _ z)
  have xv:x≠v:=λ z=>g (by rw[z];simp)
  have xT:x∉T:=λ z=>ac (by
   rw[e]at z;simp at z ⊢
   grind)
  refine r (h.inn x y xo xT af) λ z=>ac ?_;subst z;obtain⟨r',a7,mr⟩:=S.sym _ _ af;rw[er]at a7
  cases a7
  rcases bu.mp ((ro.mem x).mp mr) with m | m
  ·exact cj _ (cw _ m)
  ·exact absurd (a0 x m) xo
 ·rcases(nxO p z).mp hp with j1 | j1<;>rcases(nxO z n).mp hn with j2 | j2
  ·-- a place that comes to the row
   obtain⟨_,z2,_,z4⟩:=st.kk j1;obtain⟨_,_,z6,_⟩:=st.kk j2
   have zm:z∈mid:=by
    simp at z2;rcases z2 with q | q | q
    ·exact absurd q z4
    ·exact q
    ·exact absurd q z6
   have r1:=G.tri _ _ _ (G.tri _ _ _ (rv j1));have r2:=G.tri _ _ _ (rv j2);obtain⟨rz,M,x1⟩:=r1;obtain⟨ab,B,x2⟩:=r2;rw[M]at B
   cases B
   have s:=S.nd _ _ M;obtain⟨X,Y,rfl⟩:=xr (kT x1).1;have l:Ro (X++v::Y) ((Y++X)++[v]):=⟨X++[v],Y,by simp,by simp⟩;have O:Ro (X++v::Y) (v::(Y++X)):=⟨X,v::Y,by simp,by simp⟩;have U:=l.nd.mp s;generalize Y++X=L at *;have pv:p≠v:=λ q=>vi (q ▸ (st.kk j1).1);refine⟨_,L,[v],M,l,λ x g=>?_,λ x g=>by rw[de.mp g];simp,?_,?_⟩
   ·have zo:=h.inn z x (a5 z (by simp[zm])) (Q z zm) ⟨_,M,(l.mem x).mpr (by simp[g])⟩
    refine r zo λ q=>?_;exact(bj.mp U).2.2 x g v (by simp) q
   ·cases L with
    | nil =>
     have:=kT ((O.nx v p).mp x1);simp at this;exact absurd this pv
    | cons p' L =>
     have:=jN s x1 ((O.nx v p').mpr (wX [] v p' L));rw[this]
     rfl
   ·rcases vc L with rfl | ⟨L',n',rfl⟩
    ·have:=kT ((O.nx v p).mp x1)
     simp at this;exact absurd this pv
    ·have:=yF s x2 ((l.nx n' v).mpr (by rw[xb,dr];exact wX L' n' v []))
     rw[this,xb,ke]
  ·-- w
   have zw:z=w:=by
    obtain⟨_,z2,_,z4⟩:=st.kk j1;rcases(st.j j2).1 with q | q
    ·exact q
    ·obtain⟨a1,a2,a3⟩:=f4 z q
     simp at z2;rcases z2 with q | q | q
     ·exact absurd q a1
     ·exact absurd q a3
     ·exact q
   subst zw;obtain⟨rz,Z,f,M,l,C,o,N,H⟩:=h.row v z n ((nT _ _).mpr (.inr (.inl ⟨rfl,rfl⟩))) ((nT _ _).mpr (.inr (.inr j2)));have r1:=G.tri _ _ _ (G.tri _ _ _ (rv j1));obtain⟨ab,B,x1⟩:=r1;rw[M]at B
   cases B
   have s:=S.nd _ _ M;have U:=l.nd.mp s
   have nv:n≠v:=λ q=>by
    rcases(st.j j2).2 with y | y
    ·exact f5 (by rw[<-y,q])
    ·exact f8 (q ▸ y)
   obtain⟨I,rfl⟩:=aI N
   cases I with
   | nil=>exact absurd (cc H).symm nv
   | cons p' I =>
    have pp:=jN s x1 ((l.nx v p').mpr (wX [] v p' (I++f)));refine⟨rz,p'::I,f++[v],M,?_,λ x g=>?_,λ x g=>?_,by rw[pp];rfl,?_⟩
    ·exact l.trans ⟨[v],p'::I++f,by simp,by simp⟩
    ·refine r (C x (dq _ g)) λ q=>?_
     have:=(bj.mp U).1;exact(eK.mp this).1 (q ▸ g)
    ·rcases bu.mp g with m | m
     ·exact cj _ (o x m)
     ·exact cw _ m
    ·rw[AW]at H
     exact H
  ·-- u
   have zu:z=u:=by
    obtain⟨z2,_,z4,_⟩:=st.kk j2;rcases(st.j j1).2 with q | q
    ·exact q
    ·obtain⟨a1,a2,a3⟩:=f4 z q
     simp at z2;rcases z2 with q | q | q
     ·exact q
     ·exact absurd q a3
     ·exact absurd q a2
   subst zu;obtain⟨rz,Z,f,M,l,C,o,N,H⟩:=h.row p z v ((nT _ _).mpr (.inr (.inr j1))) ((nT _ _).mpr (.inl ⟨rfl,rfl⟩));have r1:=G.tri _ _ _ (rv j2);obtain⟨ab,B,x1⟩:=r1;rw[M]at B
   cases B
   have s:=S.nd _ _ M;have U:=l.nd.mp s
   have pv:p≠v:=λ q=>by
    rcases(st.j j1).1 with y | y
    ·exact f6 (by rw[<-y,q])
    ·exact f8 (q ▸ y)
   obtain⟨J,rfl⟩:=vA H;rcases vc J with rfl | ⟨J',n',rfl⟩
   ·exact absurd (cc N).symm pv
   ·rw[xb]at *
    have pp:=yF s x1 ((l.nx n' v).mpr (by rw[dr,dr];exact wX J' n' v f));refine⟨rz,J'++[n'],v::f,M,?_,λ x g=>?_,λ x g=>?_,?_,by rw[pp,ke]⟩
    ·have:J'++[n']++v::f=J'++[n']++[v]++f:=by simp
     rw[this];exact l
    ·refine r (C x (cj _ g)) λ q=>?_
     have:=(bj.mp U).1;exact(bj.mp this).2.2 x g v (by simp) q
    ·rcases cy.mp g with m | m
     ·rw[m];simp
     ·exact cj _ (o x m)
    ·cases J' with
     | nil=>exact N
     | cons i J'=>exact N
  ·-- the others
   have zo:z∈D++A:=by
    rcases(st.j j1).2 with q | q
    ·rcases(st.j j2).1 with y | y
     ·exact absurd (q.symm.trans y) uw
     ·exact y
    ·exact q
   obtain⟨rz,Z,f,M,l,C,o,N,H⟩:=h.row p z n ((nT _ _).mpr (.inr (.inr j1))) ((nT _ _).mpr (.inr (.inr j2)));refine⟨rz,Z,f,M,l,λ x g=>r (C x g) λ q=>?_,λ x g=>cj _ (o x g),N,H⟩;subst q;have ak:E W z x:=⟨rz,M,(l.mem x).mpr (cj _ g)⟩;obtain⟨a1,a2,a3⟩:=f4 z zo
   have zT:z∈T:=by
    rw[e];simp at zo ⊢
    grind
   rcases lo z zT (S.sym _ _ ak) with y | y
   ·exact a1 y
   ·exact a2 y
end
section
variable {W:Rows} {a b c:Nat}
def kLU(S:Nb W){z n p:Nat}(h:R W z n p)(f:n≠p):∃ row ins,W[z]?=some row/\Ro row ins/\ins.head?=some p/\ins.getLast?=some n:=by
 obtain⟨row,b,x⟩:=h;have nd:=S.nd _ _ b;obtain⟨X,Y,rfl⟩:=xr (kT x).2;have c:Ro (X++p::Y) (p::(Y++X)):=⟨X,p::Y,rfl,by simp⟩;have a:Ro (X++p::Y) ((Y++X)++[p]):=⟨X++[p],Y,by simp,by simp⟩;refine⟨_,p::(Y++X),b,c,rfl,?_⟩;generalize Y++X=L at *;rcases vc L with rfl | ⟨g,d,rfl⟩
 ·have:=(kT ((c.nx n p).mp x)).1
  simp at this;exact absurd this f
 ·rw[xb]at *
  have:=yF nd x ((a.nx d p).mpr (by rw[dr];exact wX g d p []));rw[this,<-iE,ke]
def base_ne(G:Good W)(h:R W c b a):a≠c/\b≠c/\a≠b:=by
 obtain⟨_,_,_,h1,f⟩:=yQ G h;obtain⟨_,_,_,d,_⟩:=yQ G (G.tri _ _ _ h);exact⟨f,h1,d⟩
def Pel.start(G:Good W)(h:R W c b a):Pel W a b [a,c,b] []:=by
 have S:=(Wb.of G).toNb;obtain⟨i,l,g⟩:=base_ne G h;have m:=G.tri _ _ _ h;have B:=G.tri _ _ _ m;refine⟨by simp;exact⟨⟨i,g⟩,l.symm⟩,rfl,rfl,by simp,by simp,by simp,λ _ _ _ _ _=>by simp,λ u v w o f=>?_⟩
 have key:∀{z n p:Nat},R W z n p->n≠p->∃ row d outs,W[z]?=some row/\Ro row (d++outs)/\(∀ x∈d,x∉([]:List Nat))/\(∀ x∈outs,x∈([]:List Nat))/\d.head?=some p/\d.getLast?=some n:=λ s r=>by
  obtain⟨row,d,y,A,q,C⟩:=kLU S s r;exact⟨row,d,[],y,by rw[iY];exact A,by simp,by simp,q,C⟩
 rw[nx3]at o f;rcases o with⟨rfl,rfl⟩ | ⟨rfl,rfl⟩ | ⟨rfl,rfl⟩
 ·rcases f with⟨z,_⟩ | ⟨_,rfl⟩ | ⟨z,_⟩
  ·exact absurd z.symm i
  ·exact key h g.symm
  ·exact absurd z.symm l
 ·rcases f with⟨z,_⟩ | ⟨z,_⟩ | ⟨_,rfl⟩
  ·exact absurd z.symm g
  ·exact absurd z l
  ·exact key m i
 ·rcases f with⟨_,rfl⟩ | ⟨z,_⟩ | ⟨z,_⟩
  ·exact key B l.symm
  ·exact absurd z i
  ·exact absurd z g
def Pel.stop(G:Good W){c:List Nat}(h:Pel W a b [a,b] c):∀ x,x<W.length->x∈c\/x=a\/x=b:=by
 have S:=(Wb.of G).toNb
 have nx:∀ p q,Nx [a,b] p q↔(p=a/\q=b)\/(p=b/\q=a):=λ p q=>by
  show Adj [a,b,a] p q↔_;simp only[Adj,or_false]
 have only:∀ y z,Nx [a,b] z y->Nx [a,b] y z->∀ x,E W y x->x∈c\/x=z:=λ y z h1 B x e=>by
  obtain⟨row,C,outs,v,n,H,f,N,A⟩:=h.row z y z h1 B;obtain⟨s,d,m⟩:=e;rw[v]at d
  cases d
  have nd:=(bj.mp (n.nd.mp (S.nd _ _ v))).1;rcases bu.mp ((n.mem x).mp m) with q | q
  ·obtain⟨I,rfl⟩:=aI N
   rcases vc I with rfl | ⟨O,i,rfl⟩
   ·exact .inr (de.mp q)
   ·rw[xb,<-iE,ke]at A
    rw[cc A]at nd;simp at nd
  ·exact .inl (f x q)
 have J:∀ x,E W a x->x∈c\/x=b:=only a b ((nx b a).mpr (.inr ⟨rfl,rfl⟩)) ((nx a b).mpr (.inl ⟨rfl,rfl⟩));have D:∀ x,E W b x->x∈c\/x=a:=only b a ((nx a b).mpr (.inl ⟨rfl,rfl⟩)) ((nx b a).mpr (.inr ⟨rfl,rfl⟩));intro x M;refine iH λ l=>?_;have L:a<W.length:=(S.e (h.path ((nx b a).mpr (.inr ⟨rfl,rfl⟩)))).1;have r:Reach W x a:=(Reach.symm S.sym (G.con x M)).trans (G.con a L)
 have key:∀ y,Reach W x y->y∉c/\y≠a/\y≠b:=λ y r=>by
  induction r with
  | here=>exact⟨λ z=>l (.inl z),λ z=>l (.inr (.inl z)),λ z=>l (.inr (.inr z))⟩
  | more _ e ih =>
   rename_i y z _
   obtain⟨g,o,u⟩:=ih;refine⟨h.inn y z g (by simp;exact⟨o,u⟩) e,λ q=>?_,λ q=>?_⟩
   ·subst q
    rcases J y (S.sym _ _ e) with q | q
    ·exact g q
    ·exact u q
   ·subst q
    rcases D y (S.sym _ _ e) with q | q
    ·exact g q
    ·exact o q
 exact(key a r).2.1 rfl
inductive Peels(W:Rows)(a b:Nat):List Nat->List Nat->List Nat->Prop
 | done {off:List Nat}:Pel W a b [a,b] off->Peels W a b [a,b] off []
 | step {A D mid off rest row outs:List Nat} {u v w:Nat}:Pel W a b (A++[u,v,w]++D) off->W[v]?=some row->Ro row ((u::mid++[w])++outs)->(∀ x∈outs,x∈off)->Peels W a b (A++(u::mid++[w])++D) (off++[v]) rest->Peels W a b (A++[u,v,w]++D) off (v::rest)
def Peels.pel{T c rest:List Nat}(h:Peels W a b T c rest):Pel W a b T c:=by
 cases h with
 | done h=>exact h
 | step h _ _ _ _=>exact h
def Peels.end_{T c rest:List Nat}(h:Peels W a b T c rest):Pel W a b [a,b] (c++rest):=by
 induction h with
 | done h=>rw[iY];exact h
 | step _ _ _ _ _ ih =>
  rw[dr]at ih;exact ih
def Peels.sub{T c rest:List Nat}(h:Peels W a b T c rest):∀ x∈T,x=a\/x=b\/x∈rest:=by
 induction h with
 | done h =>
  intro x d;simp at d;rcases d with q | q
  ·exact .inl q
  ·exact .inr (.inl q)
 | step _ _ _ _ _ ih =>
  rename_i A D mid c rest row outs u v w _ _ _ _ _
  intro x d;by_cases q:x=v
  ·exact .inr (.inr (by rw[q];simp))
  ·rcases ih x (by simp at d ⊢;grind) with q | q | q
   ·exact .inl q
   ·exact .inr (.inl q)
   ·exact .inr (.inr (dq _ q))
def kGD(G:Good W){A D d c rest row outs:List Nat}{u v w:Nat}(B:W[v]?=some row)(n:Ro row ((u::d++[w])++outs))(i:∀ x∈outs,x∈c)(l:Peels W a b (A++(u::d++[w])++D) (c++[v]) rest)(more:List Nat) :
  (a::b::(rest.reverse++v::more)).getD (rest.length+2) 0=v/\stF W (A++(u::d++[w])++D) ((a::b::(rest.reverse++v::more)).take (rest.length+2)) ((a::b::(rest.reverse++v::more)).getD (rest.length+2) 0)=some (u::d++[w]):=by
 have S:=(Wb.of G).toNb
 have M:(a::b::(rest.reverse++v::more)).take (rest.length+2)=a::b::rest.reverse:=by
  rw[show a::b::(rest.reverse++v::more)=(a::b::rest.reverse)++v::more by simp,AD (by simp)]
 have s:(a::b::(rest.reverse++v::more)).getD (rest.length+2) 0=v:=by
  rw[ai,show a::b::(rest.reverse++v::more)=(a::b::rest.reverse)++v::more by simp,ck (by simp)];simp
 have p:=l.end_;have J:=l.pel;have h:=p.out;have f:=p.nof;have H:a∉(c++[v])++rest:=h a (by simp);have C:b∉(c++[v])++rest:=h b (by simp)
 have N:a≠b:=by
  have:=p.nd;simpa using this
 have g:rest.Nodup:=(bj.mp f).2.1;refine⟨s,?_⟩;rw[M,s];have I:W.getD v []=row:=by rw[ai,B];rfl
 refine kLC J.nd ?_ rfl (λ q m=>?_) (λ q=>?_) (λ t O=>?_)
 ·rw[eK,eK,cy,uh,uh]
  exact⟨λ z=>z.elim N λ q=>H (cw _ q),λ q=>C (cw _ q),(Ah rest).nodup_iff.mpr g⟩
 ·rcases l.sub q m with y | y | y
  ·simp[y]
  ·simp[y]
  ·simp[y]
 ·rw[I]
  constructor
  ·intro m
   refine⟨?_,(n.mem q).mpr (cj _ m)⟩;rcases l.sub q (cj _ (cw _ m)) with y | y | y
   ·simp[y]
   ·simp[y]
   ·simp[y]
  ·rintro⟨h1,L⟩
   rcases bu.mp ((n.mem q).mp L) with y | y
   ·exact y
   ·have o:=i q y
    exfalso;simp only[cy,uh]at h1;rcases h1 with rfl | rfl | h1
    ·exact H (cj _ (cj _ o))
    ·exact C (cj _ (cj _ o))
    ·exact(bj.mp f).2.2 q (cj _ o) q h1 rfl
 ·have j:=fG (show(t.1,t.2)∈_ from O)
  have r:R W v t.1 t.2:=⟨row,B,(n.nx _ _).mpr (kOF outs j)⟩;have:=sI S.nd (G.tri _ _ _ (G.tri _ _ _ r));rw[show t=(t.1,t.2) from rfl,this]
def Peels.go(G:Good W){T c rest:List Nat}(h:Peels W a b T c rest):∀ more,∃ fs ts,goF W (a::b::(rest.reverse++more)) rest.length=some (fs,ts)/\ts.getLastD []=T:=by
 have S:=(Wb.of G).toNb
 induction h with
 | done h=>exact λ more=>⟨[],[[a,b]],rfl,rfl⟩
 | step hp er ro hout hs ih =>
  rename_i A D mid c rest row outs u v w
  intro more;obtain⟨fs,ts,g,lt⟩:=ih (v::more);have f:(v::rest).reverse++more=rest.reverse++v::more:=by simp
  rw[f];obtain⟨d,z⟩:=kGD G er ro hout hs more;rw[<-lt]at z;have i:=hs.pel;refine⟨_,_,lS g z,?_⟩;rw[bH,lt,d,uI rfl i.nd]
def Peels.laid(G:Good W){rest:List Nat}(h:Peels W a b [a,c,b] [] rest)(p:R W c b a) :
  (a::b::rest.reverse).Perm (cz W.length)/\∃ Fs Ts,yS W a b c (a::b::rest.reverse)=some (Fs,Ts):=by
 have S:=(Wb.of G).toNb;have f:=h.end_;rw[ub]at f;have I:a∉rest:=f.out a (by simp);have H:b∉rest:=f.out b (by simp);obtain⟨L,N,y⟩:=base_ne G p;obtain⟨M,r,s,_,_⟩:=yQ G p
 have d:∀{T m rest:List Nat},Peels W a b T m rest->∀ x∈rest,x<W.length:=λ h=>by
  induction h with
  | done=>intro x i;cases i
  | step _ er _ _ _ ih =>
   intro x i;rcases cy.mp i with rfl | q
   ·exact(au.mp er).1
   ·exact ih x q
 have C:∃ o,rest=c::o:=by
  generalize l:[a,c,b]=T at h
  cases h with
  | done=>simp at l
  | step _ _ _ _ _ =>
   rename_i A D mid rest row outs u v w _ _ _ _ _
   have B:=congrArg iV l;simp at B;have hA:A=[]:=iq.mp (by omega);subst hA;simp at l;exact⟨rest,by rw[l.2.1]⟩
 obtain⟨o,n⟩:=C;refine⟨?_,?_⟩
 ·refine(vb ?_ sj).mpr λ x=>?_
  ·rw[eK,eK,cy,uh,uh]
   exact⟨λ z=>z.elim y I,H,(Ah rest).nodup_iff.mpr f.nof⟩
  ·rw[cy,cy,uh,iB]
   constructor
   ·rintro(rfl | rfl | q)
    ·exact s
    ·exact r
    ·exact d h x q
   ·intro i
    rcases f.stop G x i with q | q | q
    ·exact .inr (.inr q)
    ·exact .inl q
    ·exact .inr (.inl q)
 ·obtain⟨fs,J,g,_⟩:=h.go G []
  rw[iY]at g;refine⟨fs,J,?_⟩;unfold yS;rw[if_pos]
  ·rw[show(a::b::rest.reverse).length-2=rest.length by simp]
   exact g
  ·refine⟨rfl,rfl,?_⟩
   rw[n,yu,<-iE,<-iE,ke]
end
section
variable {W:Rows} {T off:List Nat} {a b:Nat}
def mem_getD{v z:Nat}:z∈W.getD v []↔E W v z:=by
 rw[ai];constructor
 ·intro h
  cases e:W[v]? with
  | none=>rw[e]at h;cases h
  | some row =>
   rw[e]at h;exact⟨row,e,h⟩
 ·rintro⟨row,e,m⟩
  rw[e];exact m
def cut3{i:Nat}(h0:0<i)(h1:i+1<T.length):T=T.take (i-1)++[T.getD (i-1) 0,T.getD i 0,T.getD (i+1) 0]++T.drop (i+2):=by
 have g:∀ k,k<T.length->T.drop k=T.getD k 0::T.drop (k+1):=λ k a=>by
  rw[vf a,ai,aa a]
  rfl
 conv=>lhs;rw[<-gi (i-1) T,g (i-1) (by omega),show i-1+1=i by omega,g i (by omega),g (i+1) (by omega)]
 simp
def getD_inj{T:List Nat}(nd:T.Nodup){i j:Nat}(hi:i<T.length)(a:j<T.length)(e:T.getD i 0=T.getD j 0):i=j:=by
 rw[ai,ai,aa hi,aa a]at e;exact(xf nd).mp e
def rot_of{row X:List Nat}{u:Nat}(nd:row.Nodup)(h:Ro row (u::X)):rot row u=u::X:=by
 obtain⟨A,B,rfl,e⟩:=h;unfold rot
 cases B with
 | nil =>
  rw[ub]at e;subst e;simp
 | cons b B =>
  injection e with e1 e2
  subst e1;have a:u∉A:=λ z=>(bj.mp nd).2.2 u z u (by simp) rfl;rw[lN a,BN rfl,AD rfl,e2]
  rfl
def Pel.two_end(h:Pel W a b T off)(l:T.length=2):T=[a,b]:=by
 have h1:=h.hd;have c:=h.lt
 match T,l with
 | [x,y],_ =>
  cases h1
  cases c
  rfl
end
end Fc
namespace Tri
open Cyc Rnd
structure Hist(W:Rows)(ms:List Nat)(a b c:Nat)(Fs Ts:List (List Nat)):Prop where
 msn:ms.Nodup
 all:∀ p,p∈ms↔p<W.length
 lf:Fs.length+2=ms.length
 a0:ms.getD 0 0=a
 b1:ms.getD 1 0=b
 cl:ms.getD (Fs.length+1) 0=c
 pos:0<Fs.length
 first:Ts.getD 0 []=[a,b]
 last:Ts.getD Fs.length []=[a,c,b]
 ends:∀ k,k<=Fs.length->(Ts.getD k []).head?=some a/\(Ts.getD k []).getLast?=some b
 top:∀ k,k<=Fs.length->(Ts.getD k []).Nodup/\∀ x∈Ts.getD k [],x∈ms.take (k+2)
 cut:∀ k,k<Fs.length->∃ B f M l C,Fs.getD k []=f::M++[l]/\Ts.getD k []=B++(f::M++[l])++C/\Ts.getD (k+1) []=B++[f,ms.getD (k+2) 0,l]++C
 mem:∀ k,k<Fs.length->∀ q,q∈Fs.getD k []↔q∈ms.take (k+2)/\E W (ms.getD (k+2) 0) q
 adj:∀ k x y,k<Fs.length->Adj (Fs.getD k []) x y->R W y (ms.getD (k+2) 0) x
def sN{α:Type}{l r:List α}{k:Nat}{d:α}(h:k<l.length):(l++r).getD k d=l.getD k d:=by rw[ai,cm h,ai]
def kNP{α:Type}{l:List α}{x:α}{k:Nat}{d:α}(h:k=l.length):(l++[x]).getD k d=x:=by rw[ai,ck (by omega),h];simp
theorem kNO{W:Rows}{d:List Nat}:∀{i:Nat}{fs b:List (List Nat)},goF W d i=some (fs,b)->∀ k,k<i->stF W (b.getD k []) (d.take (k+2)) (d.getD (k+2) 0)=some (fs.getD k [])/\b.getD (k+1) []=poF (b.getD k []) (fs.getD k []) (d.getD (k+2) 0)
 | 0,_,_,_,k,hk=>absurd hk (AF k)
 | i+1,fs,b,h,k,hk=>by
  obtain⟨f,a,e⟩:=bK (i:=i) (j:=1) h;obtain⟨st,z,m,g⟩:=uD e h;obtain⟨p,l⟩:=lU e;have o:a.getLastD []=a.getD i []:=by rw[iF,iU,ai,l];rfl
  rw[o]at z g;subst m;subst g;rcases iA k i with c | c
  ·have n:=kNO e k c
   rw[show(a++_).getD k []=a.getD k [] by rw[sN (by omega)],show(f++_).getD k []=f.getD k [] by rw[sN (by omega)],show(a++_).getD (k+1) []=a.getD (k+1) [] by rw[sN (by omega)]];exact n
  ·have:k=i:=by omega
   subst this;rw[show(a++_).getD k []=a.getD k [] by rw[sN (by omega)],show(f++[st]).getD k []=st by exact kNP (by omega)];refine⟨z,?_⟩;exact kNP (by omega)
def kUU{W:Rows}{v z:Nat}:z∈W.getD v []↔E W v z:=Fc.mem_getD
theorem Hist.of{W:Rows}(G:Good W){m:List Nat}{a b c:Nat}{o s:List (List Nat)}(D:m.Perm (cz W.length))(L:R W c b a)(u:yS W a b c m=some (o,s)):Hist W m a b c o s:=by
 have S:=(Wb.of G).toNb;obtain⟨three,cnt⟩:=zK G;obtain⟨n1,n2,n3⟩:=Fc.base_ne G L;have Q:=G.tri _ _ _ L;have O:=G.tri _ _ _ Q;have hE:E W a c:=(yP O).1;have J:E W a b:=(yP O).2;have H:(nxt W (a,c)).2=b:=kBD S.nd L;have n:m.Nodup:=D.nodup_iff.mpr sj;have lm:m.length=W.length:=by rw[D.length_eq,eY]
 have T:=G.three;obtain⟨X,last,first,_⟩:=Fc.laid_made S three cnt D T hE H J u;unfold yS at u
 split at u
 ·rename_i ee
  obtain⟨U,e1,N⟩:=ee;have go:=u;obtain⟨q1,q2⟩:=lU go;have i:=kNO go;have Z:∀ k,k<=o.length->s[k]?=some (s.getD k []):=λ k d=>by rw[ai,aa (by omega)];rfl
  have h:=λ k d=>X.top k _ (Z k d);refine⟨n,λ p=>by rw[D.mem_iff,iB],by omega,by rw[ai,U];rfl,by rw[ai,e1];rfl,?_,by omega,by rw[ai,first];rfl,?_,λ k d=>⟨(h k d).2.1,(h k d).2.2.1⟩,λ k d=>⟨(h k d).1.nd,(h k d).1.sub⟩,λ k d=>?_,λ k d q=>?_,λ k x y d ad=>?_⟩
  ·rw[iU]at N
   rw[show o.length+1=m.length-1 by omega,ai,N]
   rfl
  ·rw[iU]at last
   rw[show o.length=s.length-1 by omega,ai,last]
   rfl
  ·obtain⟨z,e⟩:=i k (by omega)
   obtain⟨B,f,M,l,C,A,g,_,_⟩:=wF (h k (by omega)).1.nd z;refine⟨B,f,M,l,C,A,g,?_⟩;rw[e,A];exact uI g (h k (by omega)).1.nd
  ·obtain⟨z,_⟩:=i k (by omega)
   obtain⟨B,f,M,l,C,A,g,mem,_⟩:=wF (h k (by omega)).1.nd z;rw[mem q,kUU]
  ·obtain⟨z,_⟩:=i k (by omega)
   obtain⟨B,f,M,l,C,A,g,mem,nz⟩:=wF (h k (by omega)).1.nd z;obtain⟨_,_,_,Y⟩:=(h k (by omega)).1.step S.sym (uJ n (bg _) (by omega)) z;have:=kHK ad;have v:=nz _ this;have I:=Y _ this;obtain⟨zz,r,hn,_⟩:=xO S I;rw[hn]at v;have v:zz=_:=v;rw[<-v];exact r
 ·cases u
def Ch(W:Rows)(p:Nat)(l:List Nat):Prop:=∀ x y,Adj l x y->R W p x y
def sW{W:Rows}{p x y:Nat}{A B:List Nat}(h1:Ch W p (A++[x]))(a:Ch W p (y::B))(r:R W p x y):Ch W p (A++[x]++y::B):=λ u v h=>by
 rw[dr]at h;rcases(qT A x (y::B) u v).mp h with h | h
 ·exact h1 u v h
 ·rcases(zU x y B u v).mp h with⟨rfl,rfl⟩ | h
  ·exact r
  ·exact a u v h
def sV{W:Rows}{p x:Nat}:Ch W p [x]:=λ _ _ h=>h.elim
def cut_adj{B M C:List Nat}{f l x y:Nat}:Adj (B++(f::M++[l])++C) x y↔Adj (B++[f]) x y\/Adj (f::M++[l]) x y\/Adj (l::C) x y:=by
 rw[show B++(f::M++[l])++C=B++f::(M++[l]++C) by simp,qT B f (M++[l]++C),show f::(M++[l]++C)=(f::M)++l::C by simp,qT (f::M) l C]
structure Side(W:Rows)(ms:List Nat)(Fs Ts:List (List Nat))(k i u w:Nat)(L Q:List Nat):Prop where
 l:Adj (Ts.getD i []) u (ms.getD (k+2) 0)
 r:Adj (Ts.getD i []) (ms.getD (k+2) 0) w
 cl:∃ X,Fs.getD k []++L=X++[w]
 cr:∃ X,Q++[(Fs.getD k []).headD 0]=u::X
 hl:Ch W (ms.getD (k+2) 0) (Fs.getD k []++L)
 hr:Ch W (ms.getD (k+2) 0) (Q++[(Fs.getD k []).headD 0])
 il:∀ z∈L,∃ j,k<j/\j<i/\z=ms.getD (j+2) 0/\(Fs.getD j []).headD 0=ms.getD (k+2) 0
 ir:∀ z∈Q,∃ j,k<j/\j<i/\z=ms.getD (j+2) 0/\(Fs.getD j []).getLastD 0=ms.getD (k+2) 0
section
variable {W:Rows} {ms:List Nat} {a b c:Nat} {Fs Ts:List (List Nat)}
def Hist.side0(G:Good W)(h:Hist W ms a b c Fs Ts){k:Nat}(m:k<Fs.length):∃ u w,Side W ms Fs Ts k (k+1) u w [] []:=by
 obtain⟨B,f,M,l,C,i,n,g⟩:=h.cut k m;refine⟨f,l,?_,?_,⟨f::M,by rw[i];simp⟩,⟨[],by rw[i];rfl⟩,λ x y ad=>?_,sV,λ z d=>(by cases d),λ z d=>(by cases d)⟩
 ·rw[g,show B++[f,ms.getD (k+2) 0,l]++C=B++(f::[ms.getD (k+2) 0]++[l])++C by simp]
  exact cut_adj.mpr (.inr (.inl (.inl ⟨rfl,rfl⟩)))
 ·rw[g,show B++[f,ms.getD (k+2) 0,l]++C=B++(f::[ms.getD (k+2) 0]++[l])++C by simp]
  exact cut_adj.mpr (.inr (.inl (.inr (.inl ⟨rfl,rfl⟩))))
 ·rw[iY]at ad
  exact G.tri _ _ _ (h.adj k x y m ad)
def kIC(G:Good W)(h:Hist W ms a b c Fs Ts){k i u w:Nat}{L Q:List Nat}(ki:k<i)(hi:i<Fs.length)(s:Side W ms Fs Ts k i u w L Q) :
  (∃ u w L Q,Side W ms Fs Ts k (i+1) u w L Q)\/(Adj (Fs.getD i []) u (ms.getD (k+2) 0)/\Adj (Fs.getD i []) (ms.getD (k+2) 0) w):=by
 obtain⟨B,f,M,l,C,J,e2,e3⟩:=h.cut i hi;obtain⟨nd,sub⟩:=h.top i (by omega);obtain⟨s1,s2,⟨X,O⟩,⟨Y,Z⟩,s5,s6,s7,s8⟩:=s;have o:=h.adj i;generalize hp:ms.getD (k+2) 0=p at *;generalize hv:ms.getD (i+2) 0=v at *;generalize hT:Ts.getD i []=T at *;generalize d:Ts.getD (i+1) []=T' at *;generalize hF:Fs.getD i []=F at *;generalize g:Fs.getD k []=K at *;subst e2
 have new:∀{x y},(Adj (B++[f]) x y\/(x=f/\y=v)\/(x=v/\y=l)\/Adj (l::C) x y)->Adj T' x y:=λ{x y} q=>by
  rw[e3,show B++[f,v,l]++C=B++(f::[v]++[l])++C by simp];refine cut_adj.mpr ?_;rcases q with q | q | q | q
  ·exact .inl q
  ·exact .inr (.inl (.inl q))
  ·exact .inr (.inl (.inr (.inl q)))
  ·exact .inr (.inr q)
 have S:=bj.mp nd;have d2:=bj.mp S.1;have d3:=bj.mp d2.2.1
 have bf:∀{z},z∈B++[f]->z∈f::M++[l]->z=f:=λ{z} U N=>by
  rcases bu.mp U with q | q
  ·exact absurd rfl (d2.2.2 z q z N)
  ·exact de.mp q
 have lc:∀{z},z∈l::C->z∈f::M++[l]->z=l:=λ{z} U N=>by
  rcases cy.mp U with q | q
  ·exact q
  ·exact absurd rfl (S.2.2 z (cw _ N) z q)
 have bc:∀{z},z∈B++[f]->z∈l::C->False:=λ{z} U N=>by
  rcases bu.mp U with q | q
  ·rcases cy.mp N with r | r
   ·exact d2.2.2 z q z (by rw[r];simp) rfl
   ·exact S.2.2 z (cj _ q) z r rfl
  ·rcases cy.mp N with r | r
   ·exact d3.2.2 z (by rw[de.mp q];simp) z (by rw[r];simp) rfl
   ·exact S.2.2 z (by rw[de.mp q];simp) z r rfl
 have fM:f∉M++[l]:=by
  have:=d2.2.1;rw[iE,eK]at this;exact this.1
 have tl:∀{x y},Adj (B++[f]) x y->y∈B++[f]:=λ q=>yc (jI q).2;have D:∀{x y},Adj (l::C) x y->y∈C:=λ q=>(jI q).2;have I:∀{x y},Adj (f::M++[l]) x y->y∈M++[l]:=λ q=>(jI q).2;have n:∀ z∈L,∃ j,k<j/\j<i+1/\z=ms.getD (j+2) 0/\(Fs.getD j []).headD 0=p:=λ z H=>let ⟨j,a1,a2,a3⟩:=s7 z H;⟨j,a1,by omega,a3⟩;have m:∀ z∈Q,∃ j,k<j/\j<i+1/\z=ms.getD (j+2) 0/\(Fs.getD j []).getLastD 0=p:=λ z H=>let ⟨j,a1,a2,a3⟩:=s8 z H;⟨j,a1,by omega,a3⟩;rcases cut_adj.mp s1 with q | q | q
 ·rcases cut_adj.mp s2 with z | z | z
  ·exact .inl ⟨u,w,L,Q,by rw[d,hp];exact new (.inl q),by rw[d,hp];exact new (.inl z),by rw[g];exact⟨X,O⟩,by rw[g];exact⟨Y,Z⟩,by rw[g,hp];exact s5,by rw[g,hp];exact s6,by rw[hp];exact n,by rw[hp];exact m⟩
  ·have pf:=bf (tl q) (jI z).1
   have rr:=G.tri _ _ _ (G.tri _ _ _ (o _ _ hi (by rw[J];exact z)));refine .inl ⟨u,v,L++[v],Q,by rw[d,hp];exact new (.inl q),by rw[d,hp];exact new (.inr (.inl ⟨pf,rfl⟩)),by rw[g];exact⟨K++L,by simp⟩,by rw[g];exact⟨Y,Z⟩,?_,by rw[g,hp];exact s6,λ z H=>?_,by rw[hp];exact m⟩
   ·rw[g,hp,<-dr,O]
    exact sW (by rw[<-O];exact s5) sV rr
   ·rcases bu.mp H with q | q
    ·rw[hp];exact n z q
    ·exact⟨i,ki,by omega,by rw[hv];exact de.mp q,by rw[hF,J,hp,pf];rfl⟩
  ·exact(bc (tl q) (jI z).1).elim
 ·rcases cut_adj.mp s2 with z | z | z
  ·have:p=f:=bf (jI z).1 (dq _ (I q))
   exact(fM (this ▸ I q)).elim
  ·exact .inr ⟨by rw[J];exact q,by rw[J];exact z⟩
  ·have pl:p=l:=lc (jI z).1 (dq _ (I q))
   have rr:=o _ _ hi (by rw[J];exact q);refine .inl ⟨v,w,L,v::Q,by rw[d,hp];exact new (.inr (.inr (.inl ⟨rfl,pl⟩))),by rw[d,hp];exact new (.inr (.inr (.inr z))),by rw[g];exact⟨X,O⟩,by rw[g];exact⟨Q++[K.headD 0],rfl⟩,by rw[g,hp];exact s5,?_,by rw[hp];exact n,λ z H=>?_⟩
   ·rw[g,hp,iE,Z]
    exact sW (A:=[]) sV (by rw[<-Z];exact s6) rr
   ·rcases cy.mp H with q | q
    ·exact⟨i,ki,by omega,by rw[hv];exact q,by rw[hF,J,hp,pl,iF,eZ];rfl⟩
    ·rw[hp];exact m z q
 ·rcases cut_adj.mp s2 with z | z | z
  ·exact(bc (jI z).1 (dq _ (D q))).elim
  ·have:p=l:=lc (dq _ (D q)) (jI z).1
   exact absurd rfl (S.2.2 l (by simp) l (this ▸ D q))
  ·exact .inl ⟨u,w,L,Q,by rw[d,hp];exact new (.inr (.inr (.inr q))),by rw[d,hp];exact new (.inr (.inr (.inr z))),by rw[g];exact⟨X,O⟩,by rw[g];exact⟨Y,Z⟩,by rw[g,hp];exact s5,by rw[g,hp];exact s6,by rw[hp];exact n,by rw[hp];exact m⟩
theorem kLT{Rl:Nat->Nat->Prop}(one:∀ x y z,Rl x y->Rl x z->y=z){f:Nat}:∀(X Y:List Nat)(g:Nat),(∀ x y,Adj (g::X++[f]) x y->Rl x y)->(∀ x y,Adj (g::Y++[f]) x y->Rl x y)->f∉X->f∉Y->X=Y
 | [],[],_,_,_,_,_=>rfl
 | [],y::Y,g,h1,h2,_,n2=>absurd (one g f y (h1 _ _ (.inl ⟨rfl,rfl⟩)) (h2 _ _ (.inl ⟨rfl,rfl⟩))) λ z=>n2 (by simp[z])
 | x::X,[],g,h1,h2,n1,_=>absurd (one g f x (h2 _ _ (.inl ⟨rfl,rfl⟩)) (h1 _ _ (.inl ⟨rfl,rfl⟩))) λ z=>n1 (by simp[z])
 | x::X,y::Y,g,h1,h2,n1,n2=>by
  have e:=one g x y (h1 _ _ (.inl ⟨rfl,rfl⟩)) (h2 _ _ (.inl ⟨rfl,rfl⟩));subst e;rw[kLT one X Y x (λ a b q=>h1 a b (.inr q)) (λ a b q=>h2 a b (.inr q)) (λ z=>n1 (by simp[z])) λ z=>n2 (by simp[z])]
def kOY(G:Good W){p f:Nat}{Y:List Nat}(h:∀ x y,Adj (f::Y++[f]) x y->R W p x y)(n:f∉Y):∃ row,W[p]?=some row/\Ro row (f::Y):=by
 obtain⟨y,i⟩ : ∃ y,Adj (f::Y++[f]) f y:=by
  cases Y with
  | nil=>exact⟨f,.inl ⟨rfl,rfl⟩⟩
  | cons y Y=>exact⟨y,.inl ⟨rfl,rfl⟩⟩
 obtain⟨row,c,nx⟩:=h _ _ i;have nd:=G.nd _ _ c;obtain⟨A,B,e⟩:=wG (kT nx).1;have d:Ro row (f::(B++A)):=⟨A,f::B,e,by simp⟩
 have nf:f∉B++A:=by
  have:=d.nd.mp nd;exact(eK.mp this).1
 refine⟨row,c,?_⟩
 have:=kLT (Rl:=λ x y=>Nx row x y) (λ x y z a b=>jN nd a b) (B++A) Y f (λ x y q=>(d.nx x y).mpr q) (λ x y q=>by
  obtain⟨m,g,l⟩:=h x y q;rw[c]at g
  cases g
  exact l) nf n
 rw[<-this];exact d
def Hist.ahead(h:Hist W ms a b c Fs Ts){k j z:Nat}(d:k<=j)(f:j<Fs.length)(m:z∈ms.take (k+2)):z≠ms.getD (j+2) 0:=λ e=>uJ h.msn (k:=k+2) (j:=j+2) (by omega) (by have:=h.lf;omega) (e ▸ m)
def Hist.inj(h:Hist W ms a b c Fs Ts){i j:Nat}(hi:i<ms.length)(d:j<ms.length)(e:ms.getD i 0=ms.getD j 0):i=j:=Fc.getD_inj h.msn hi d e
def kNE{F:List Nat}{u p w:Nat}(nd:F.Nodup)(h1:Adj F u p)(c:Adj F p w):p∈F.tail.dropLast:=by
 match F,h1,c with
 | x::y::r,h1,c =>
  have b:=(jI h1).2;show p∈(y::r).dropLast
  have d:p≠(y::r).getLast (by simp):=λ e=>by
   have h:(x::y::r).dropLast++[p]=x::y::r:=by
    rw[e];have:=fh (l:=x::y::r) (by simp);rw[Ec (by simp)]at this;exact this
   have a:=nd;rw[<-h]at c a;have g:p∉(x::y::r).dropLast:=λ q=>(bj.mp a).2.2 p q p (by simp) rfl;exact jP g c rfl
  have f:=fh (l:=y::r) (by simp);have b:p∈y::r:=b;rw[<-f]at b;rcases bu.mp b with q | q
  ·exact q
  ·exact absurd (de.mp q) d
def Hist.cover(G:Good W)(h:Hist W ms a b c Fs Ts){k:Nat}(hk:k+1<Fs.length) :
  ∃ j row L Q,k<j/\j<Fs.length/\ms.getD (k+2) 0∈(Fs.getD j []).tail.dropLast/\W[ms.getD (k+2) 0]?=some row/\Ro row (Fs.getD k []++L++ms.getD (j+2) 0::Q) /\
   (∀ z∈L,∃ i,k<i/\i<Fs.length/\z=ms.getD (i+2) 0/\(Fs.getD i []).headD 0=ms.getD (k+2) 0)/\∀ z∈Q,∃ i,k<i/\i<Fs.length/\z=ms.getD (i+2) 0/\(Fs.getD i []).getLastD 0=ms.getD (k+2) 0:=by
 have lf:=h.lf
 have all:∀ d,k+1+d<=Fs.length->(∃ j u w L Q,k<j/\j<Fs.length/\Side W ms Fs Ts k j u w L Q/\Adj (Fs.getD j []) u (ms.getD (k+2) 0)/\Adj (Fs.getD j []) (ms.getD (k+2) 0) w)\/∃ u w L Q,Side W ms Fs Ts k (k+1+d) u w L Q:=by
  intro d
  induction d with
  | zero =>
   intro _;obtain⟨u,w,s⟩:=h.side0 G (k:=k) (by omega);exact .inr ⟨u,w,[],[],s⟩
  | succ d ih =>
   intro hd;rcases ih (by omega) with q | ⟨u,w,L,Q,s⟩
   ·exact .inl q
   ·rcases kIC G h (by omega) (by omega) s with q | ⟨H,I⟩
    ·exact .inr q
    ·exact .inl ⟨k+1+d,u,w,L,Q,by omega,by omega,s,H,I⟩
 rcases all (Fs.length-(k+1)) (by omega) with⟨j,u,w,L,Q,kj,o,s,H,I⟩ | ⟨u,w,L,Q,s⟩
 ·obtain⟨S,D,⟨X,hX⟩,⟨Y,hY⟩,s5,s6,s7,s8⟩:=s
  obtain⟨B,f,M,l,C,m,e2,e3⟩:=h.cut k (by omega)
  have v:(Fs.getD k []).Nodup:=by
   have:=(h.top k (by omega)).1;rw[e2]at this;rw[m];exact(bj.mp (bj.mp this).1).2.1
  obtain⟨B',f',M',l',C',T,a0,a1⟩:=h.cut j o
  have J:(Fs.getD j []).Nodup:=by
   have:=(h.top j (by omega)).1;rw[a0]at this;rw[T];exact(bj.mp (bj.mp this).1).2.1
  have r1:=h.adj j _ _ o H;have r2:=G.tri _ _ _ (G.tri _ _ _ (h.adj j _ _ o I));have Z:f∈ms.take (k+2):=((h.mem k (by omega) f).mp (by rw[m];simp)).1;have hf:(Fs.getD k []).headD 0=f:=by rw[m];rfl
  rw[hf]at hY s6
  have nf:f∉(M++[l])++(L++ms.getD (j+2) 0::Q):=λ z=>by
   rcases bu.mp z with z | z
   ·rw[m,iE,eK]at v
    exact v.1 z
   ·rcases bu.mp z with z | z
    ·obtain⟨i,n,N,e,_⟩:=s7 f z
     exact h.ahead (by omega) (by omega) Z e
    ·rcases cy.mp z with e | z
     ·exact h.ahead (by omega) o Z e
     ·obtain⟨i,n,N,e,_⟩:=s8 f z
      exact h.ahead (by omega) (by omega) Z e
  have ch:Ch W (ms.getD (k+2) 0) (Fs.getD k []++L++(ms.getD (j+2) 0::(Q++[f]))):=by
   rw[hX];refine sW (by rw[<-hX];exact s5) ?_ r2;rw[hY];exact sW (A:=[]) sV (by rw[<-hY];exact s6) r1
  have eq:Fs.getD k []++L++ms.getD (j+2) 0::Q=f::((M++[l])++(L++ms.getD (j+2) 0::Q)):=by rw[m];simp
  obtain⟨row,er,ro⟩:=kOY G (p:=ms.getD (k+2) 0) (f:=f) (Y:=(M++[l])++(L++ms.getD (j+2) 0::Q)) (λ x y q=>ch x y (by
   rw[m];simpa using q)) nf
  refine⟨j,row,L,Q,kj,o,kNE J H I,er,by rw[eq];exact ro,λ z O=>?_,λ z O=>?_⟩
  ·obtain⟨i,n,N,U⟩:=s7 z O
   exact⟨i,n,by omega,U⟩
  ·obtain⟨i,n,N,U⟩:=s8 z O
   exact⟨i,n,by omega,U⟩
 ·exfalso
  have S:=s.l;have D:=s.r;rw[show k+1+(Fs.length-(k+1))=Fs.length by omega,h.last]at S D;have g:=(h.top Fs.length (bg _)).1;rw[h.last]at g;simp only[eK,cy,gj,not_or,or_false]at g
  have e:ms.getD (k+2) 0=c:=by
   rcases S with⟨_,q⟩ | ⟨_,q⟩ | q
   ·exact q
   ·rw[q]at D
    rcases D with⟨z,_⟩ | ⟨z,_⟩ | z
    ·exact absurd z.symm g.1.2
    ·exact absurd z.symm g.2.1
    ·exact z.elim
   ·exact q.elim
  rw[<-h.cl]at e;have:=h.inj (by omega) (by omega) e;omega
end
structure Wds(W:Rows)(a b c:Nat)(D:Rows):Prop where
 len:D.length=W.length
 base:∀ p,p=a\/p=b\/p=c->D.getD p []=[]
 row:∀ p,p<W.length->p≠a->p≠b->p≠c->∃ x y z A B C row,D.getD p []=[x,y,z]/\x≠y/\x≠z/\y≠z/\W[p]?=some row/\Ro row (x::A++y::B++z::C) /\
  (∀ q∈A,∃ u v,D.getD q []=[u,v,p])/\(∀ q∈B,∃ u v,D.getD q []=[p,u,v])/\∀ q∈C,∃ u v,D.getD q []=[u,p,v]
 tie:∀ p q,E W p q->((p=a\/p=b\/p=c)/\(q=a\/q=b\/q=c))\/(q∈D.getD p []↔p∉D.getD q [])
 lead:∀ q,q≠a->q≠b->q≠c->(E W a q->(D.getD q []).getD 0 0=a)/\(E W b q->(D.getD q []).getD 1 0=b)/\(E W c q->(D.getD q []).getD 2 0=c)
def unF(b:List Nat)(a:List (List Nat))(p:Nat):List Nat:=a.getD (b.idxOf p-2) []
def ovF(a:List Nat)(b:List (List Nat))(p:Nat):Nat:=a.getD ((b.findIdx λ F=>decide (p∈F.tail.dropLast))+2) 0
def wdF(n a b c:Nat)(d:List Nat)(f:List (List Nat)):Rows:=(cz n).map λ p=>if p=a\/p=b\/p=c then[] else[(unF d f p).headD 0,(unF d f p).getLastD 0,ovF d f p]
section
variable {W:Rows} {ms:List Nat} {a b c:Nat} {Fs Ts:List (List Nat)}
def Hist.inF(h:Hist W ms a b c Fs Ts){k:Nat}(v:k<Fs.length):(Fs.getD k []).Nodup/\(∀ z∈Fs.getD k [],z∈Ts.getD k [])/\∃ f M l,Fs.getD k []=f::M++[l]/\(∀ z∈M,z∉Ts.getD (k+1) [])/\(∀ z∈Ts.getD (k+1) [],z∈Ts.getD k []\/z=ms.getD (k+2) 0)/\(a∈Fs.getD k []->f=a)/\(b∈Fs.getD k []->l=b):=by
 obtain⟨B,f,M,l,C,m,p,r⟩:=h.cut k v;obtain⟨nd,sub⟩:=h.top k (by omega);obtain⟨i,d⟩:=h.ends k (by omega);rw[p]at nd sub i d;have o:=bj.mp nd;have n:=bj.mp o.1;have s:=bj.mp n.2.1;have y:=s.1;rw[eK]at y;refine⟨by rw[m];exact n.2.1,λ z g=>by rw[p];exact cj _ (cw _ (by rw[<-m];exact g)),f,M,l,m,λ z g q=>?_,λ z g=>?_,λ q=>?_,λ q=>?_⟩
 ·have u:z∈f::M++[l]:=by simp[g]
  rw[r]at q;rcases bu.mp q with q | q
  ·rcases bu.mp q with q | q
   ·exact n.2.2 z q z u rfl
   ·simp only[cy,gj,or_false]at q
    rcases q with q | q | q
    ·exact y.1 (q ▸ g)
    ·exact h.ahead (bg k) v (sub z (by simp[g])) q
    ·exact s.2.2 z (dq _ g) l (by simp) q
  ·exact o.2.2 z (cw _ u) z q rfl
 ·rw[r]at g
  rw[p];simp only[bu,cy,gj,or_false]at g ⊢
  grind
 ·rw[m]at q
  cases B with
  | nil=>simpa using i
  | cons x B =>
   have:x=a:=by simpa using i
   exact absurd this.symm (λ z=>n.2.2 x (by simp) a q z.symm)
 ·rw[m]at q
  cases hC:C.getLast? with
  | none =>
   rw[CF.mp hC,iY,eZ,eZ]at d;simpa using d
  | some x =>
   rw[eZ,hC]at d;have:x=b:=by simpa using d
   exact absurd this.symm (o.2.2 b (cw _ q) x (yt hC))
def yC{f l:Nat}{M:List Nat}:(f::M++[l]).tail.dropLast=M:=by simp
def Hist.gone(h:Hist W ms a b c Fs Ts){k:Nat}(n:k<Fs.length){z:Nat}(hz:z∈(Fs.getD k []).tail.dropLast):∀ d,k+1+d<=Fs.length->z∉Ts.getD (k+1+d) []:=by
 obtain⟨_,m,f,M,l,e,g,_⟩:=h.inF n;rw[e,yC]at hz;have i:z∈ms.take (k+2):=(h.top k (by omega)).2 z (m z (by rw[e];simp[hz]));intro d
 induction d with
 | zero=>exact λ _=>g z hz
 | succ d ih =>
  intro o q;obtain⟨_,_,_,_,_,_,_,sub,_⟩:=h.inF (k:=k+1+d) (by omega);rcases sub z q with q | q
  ·exact ih (by omega) q
  ·exact h.ahead (by omega) (by omega) i q
def Hist.once(h:Hist W ms a b c Fs Ts){j k:Nat}(d:j<Fs.length)(g:k<Fs.length){z:Nat}(i:z∈(Fs.getD j []).tail.dropLast)(f:z∈(Fs.getD k []).tail.dropLast):j=k:=by
 have lt:∀{j k:Nat},j<Fs.length->k<Fs.length->z∈(Fs.getD j []).tail.dropLast->z∈(Fs.getD k []).tail.dropLast->¬ j<k:=λ{j k} d g i f q=>by
  have:=h.gone d i (k-(j+1)) (by omega);rw[show j+1+(k-(j+1))=k by omega]at this;exact this ((h.inF g).2.1 z (yc (List.dropLast_subset _ f)))
 have h1:=lt d g i f;have l:=lt g d f i;omega
def Hist.un(h:Hist W ms a b c Fs Ts){k:Nat}(d:k<Fs.length):unF ms Fs (ms.getD (k+2) 0)=Fs.getD k []:=by
 have:=h.lf;unfold unF;have e:ms.getD (k+2) 0=ms[k+2]:=by rw[ai,aa (by omega)];rfl
 rw[e,h.msn.idxOf_getElem]
 rfl
def Hist.ov(h:Hist W ms a b c Fs Ts){j:Nat}(f:j<Fs.length){z:Nat}(hz:z∈(Fs.getD j []).tail.dropLast):ovF ms Fs z=ms.getD (j+2) 0:=by
 unfold ovF;have g:Fs.getD j []=Fs[j]:=by rw[ai,aa f];rfl
 have lt:(Fs.findIdx λ F=>decide (z∈F.tail.dropLast))<Fs.length:=List.findIdx_lt_length_of_exists ⟨Fs[j],gh f,by rw[<-g];simpa using hz⟩;have d:=List.findIdx_getElem (w:=lt)
 have:=h.once (z:=z) lt f (by
  rw[ai,aa lt];simpa using d) hz
 rw[this]
def Hist.place(h:Hist W ms a b c Fs Ts){p:Nat}(hp:p<W.length)(g:p≠a)(m:p≠b)(n:p≠c):∃ k,k+1<Fs.length/\p=ms.getD (k+2) 0:=by
 obtain⟨i,l,e⟩:=wy ((h.all p).mpr hp);have f:=h.lf;have d:ms.getD i 0=p:=by rw[ai,aa l];exact e
 have r:i≠0:=λ z=>g (by rw[<-d,z,h.a0]);have o:i≠1:=λ z=>m (by rw[<-d,z,h.b1]);have q:i≠Fs.length+1:=λ z=>n (by rw[<-d,z,h.cl]);exact⟨i-2,by omega,by rw[show i-2+2=i by omega,d]⟩
def Hist.inner(h:Hist W ms a b c Fs Ts){k:Nat}(f:k+1<Fs.length):ms.getD (k+2) 0<W.length/\ms.getD (k+2) 0≠a/\ms.getD (k+2) 0≠b/\ms.getD (k+2) 0≠c:=by
 have d:=h.lf;refine⟨(h.all _).mp ?_,λ e=>?_,λ e=>?_,λ e=>?_⟩
 ·rw[ai,aa (by omega)]
  exact gh _
 ·rw[<-h.a0]at e
  have:=h.inj (by omega) (by omega) e;omega
 ·rw[<-h.b1]at e
  have:=h.inj (by omega) (by omega) e;omega
 ·rw[<-h.cl]at e
  have:=h.inj (by omega) (by omega) e;omega
def bV{n p:Nat}(hp:p<n):(wdF n a b c ms Fs).getD p []=if p=a\/p=b\/p=c then[] else[(unF ms Fs p).headD 0,(unF ms Fs p).getLastD 0,ovF ms Fs p]:=by
 unfold wdF;rw[ai,bh,wu hp]
 rfl
def Hist.outs(G:Good W)(h:Hist W ms a b c Fs Ts){k:Nat}(i:k+1<Fs.length):∃ j f M l,k<j/\j<Fs.length/\ms.getD (k+2) 0∈(Fs.getD j []).tail.dropLast/\Fs.getD k []=f::M++[l]/\(wdF W.length a b c ms Fs).getD (ms.getD (k+2) 0) []=[f,l,ms.getD (j+2) 0]:=by
 obtain⟨j,row,L,Q,n,g,d,_⟩:=h.cover G i;obtain⟨_,_,f,M,l,e,_⟩:=h.inF (k:=k) (by omega);obtain⟨m,o,p,q⟩:=h.inner i;refine⟨j,f,M,l,n,g,d,e,?_⟩;rw[bV m,if_neg (λ z=>z.elim o λ z=>z.elim p q),h.un (by omega),h.ov g d,e,iF,eZ]
 rfl
def Hist.inM(h:Hist W ms a b c Fs Ts){k f l q:Nat}{M:List Nat}(v:k<Fs.length)(e:Fs.getD k []=f::M++[l])(o:q∈M):∃ i,i<k/\q=ms.getD (i+2) 0:=by
 obtain⟨nd,u,J,L,I,C,B,_,x,G⟩:=h.inF v;have m:q∈Fs.getD k []:=by rw[e];simp[o]
 have r:=C;rw[e]at r;obtain⟨g,D⟩:=bG r;injection g with g e5
 subst g D e5;have d:=nd;rw[e,iE,eK]at d;have y:q≠a:=λ z=>d.1 (by rw[x (z ▸ m),<-z];simp[o])
 have A:q≠b:=λ z=>by
  have:=G (z ▸ m);exact(bj.mp d.2).2.2 q o l (by simp) (by rw[z,this])
 obtain⟨i,s,p⟩:=wy ((h.top k (by omega)).2 q (u q m));rw[eJ]at s;rw[xt]at p;have n:ms.getD i 0=q:=by rw[ai,aa (by omega)];exact p
 have N:i≠0:=λ z=>y (by rw[<-n,z,h.a0]);have H:i≠1:=λ z=>A (by rw[<-n,z,h.b1]);exact⟨i-2,by omega,by rw[show i-2+2=i by omega,n]⟩
def Hist.lastF(G:Good W)(h:Hist W ms a b c Fs Ts)(o:R W c b a):∃ M,Fs.getD (Fs.length-1) []=a::M++[b]:=by
 have g:=h.pos;have p:=h.lf;obtain⟨nd,v,f,M,l,e,_,_,q,d⟩:=h.inF (k:=Fs.length-1) (by omega);have n:ms.getD (Fs.length-1+2) 0=c:=by rw[show Fs.length-1+2=Fs.length+1 by omega];exact h.cl
 have m:∀ i,i<2->ms.getD i 0∈ms.take (Fs.length-1+2):=λ i u=>yh.mpr ⟨i,by rw[AM,if_pos (by omega),ai,aa (by omega)];rfl⟩;have r:=q ((h.mem _ (by omega) a).mpr ⟨h.a0 ▸ m 0 (by omega),by rw[n];exact(yP o).2⟩);have s:=d ((h.mem _ (by omega) b).mpr ⟨h.b1 ▸ m 1 (by omega),by rw[n];exact(yP o).1⟩);exact⟨M,by rw[e,r,s]⟩
def Hist.tie1(G:Good W)(h:Hist W ms a b c Fs Ts)(hb:R W c b a){i j:Nat}(ij:i<j)(hj:j<ms.length)(eE:E W (ms.getD i 0) (ms.getD j 0)) :
  ((ms.getD i 0=a\/ms.getD i 0=b\/ms.getD i 0=c)/\(ms.getD j 0=a\/ms.getD j 0=b\/ms.getD j 0=c))\/(ms.getD j 0∈(wdF W.length a b c ms Fs).getD (ms.getD i 0) []↔ms.getD i 0∉(wdF W.length a b c ms Fs).getD (ms.getD j 0) []):=by
 have lf:=h.lf;have rng:∀ i,i<ms.length->ms.getD i 0<W.length:=λ i hi=>(h.all _).mp (by rw[ai,aa hi];exact gh _);by_cases j2:j<2
 ·exact .inl ⟨.inl (by rw[show i=0 by omega,h.a0]),.inr (.inl (by rw[show j=1 by omega,h.b1]))⟩
 obtain⟨k,rfl⟩ : ∃ k,j=k+2:=⟨j-2,by omega⟩;have s:k<Fs.length:=by omega
 obtain⟨nd,iT,f,M,l,e,_,_,ha,Y⟩:=h.inF s;have mt:ms.getD i 0∈ms.take (k+2):=yh.mpr ⟨i,by rw[AM,if_pos (by omega),ai,aa (by omega)];rfl⟩;have U:ms.getD i 0∈Fs.getD k []:=(h.mem k s _).mpr ⟨mt,(Wb.of G).sym _ _ eE⟩;have n:=nd;rw[e,iE,eK]at n;have nl:l∉M:=λ z=>(bj.mp n.2).2.2 l z l (by simp) rfl;by_cases x:ms.getD i 0∈M
 ·obtain⟨m,u,I⟩:=h.inM s e x
  have H:i=m+2:=h.inj (by omega) (by omega) I;subst H;obtain⟨p,X,M2,S,kj,A,g,L,N⟩:=h.outs G (k:=m) (by omega);have jk:p=k:=h.once A s g (by rw[e,yC];exact x);subst jk;refine .inr ⟨λ _ q=>?_,λ _=>by rw[N];simp⟩;by_cases J:p+1<Fs.length
  ·obtain⟨j3,f3,Z,l3,O,Q,y,r,o⟩:=h.outs G (k:=p) J
   rw[e]at r;obtain⟨d,C⟩:=bG r;injection d with d _
   rw[o]at q;simp only[cy,gj,or_false]at q;rcases q with q | q | q
   ·exact n.1 (by rw[d,<-q];exact cj _ x)
   ·exact nl (by rw[C,<-q];exact x)
   ·have:=h.inj (by omega) (by omega) q
    omega
  ·have ec:ms.getD (p+2) 0=c:=by rw[<-h.cl];congr 1;omega
   rw[bV (rng _ hj),if_pos (.inr (.inr ec))]at q;cases q
 ·have v:ms.getD i 0=f\/ms.getD i 0=l:=by
   rw[e]at U;simp only[iE,cy,bu,gj,or_false]at U
   grind
  by_cases J:k+1<Fs.length
  ·obtain⟨j3,f3,Z,l3,O,Q,y,r,o⟩:=h.outs G (k:=k) J
   rw[e]at r;obtain⟨d,C⟩:=bG r;injection d with d _
   refine .inr ⟨λ q=>?_,λ q=>absurd (by rw[o,<-d,<-C];exact v.elim (λ z=>by rw[z];simp) λ z=>by rw[z];simp) q⟩;exfalso;by_cases D:ms.getD i 0=a\/ms.getD i 0=b\/ms.getD i 0=c
   ·rw[bV (rng _ (by omega)),if_pos D]at q
    cases q
   ·obtain⟨m,u,I⟩:=h.place (rng i (by omega)) (λ z=>D (.inl z)) (λ z=>D (.inr (.inl z))) (λ z=>D (.inr (.inr z)))
    have H:i=m+2:=h.inj (by omega) (by omega) I;subst H;obtain⟨p,X,M2,S,kj,A,g,L,N⟩:=h.outs G (k:=m) u;rw[N]at q;simp only[cy,gj,or_false]at q;have B:∀ z,z∈Fs.getD m []->ms.getD (k+2) 0≠z:=λ z hz q=>h.ahead (k:=m) (j:=k) (by omega) s ((h.mem m (by omega) z).mp hz).1 q.symm;rcases q with q | q | q
    ·exact B X (by rw[L];simp) q
    ·exact B S (by rw[L];simp) q
    ·have:k=p:=by have:=h.inj (by omega) (by omega) q;omega
     subst this;rw[e,yC]at g;exact x g
  ·obtain⟨M',T⟩:=h.lastF G hb
   have kk:k=Fs.length-1:=by omega
   subst kk;rw[e]at T;obtain⟨d,C⟩:=bG T;injection d with d _
   refine .inl ⟨?_,.inr (.inr (by rw[<-h.cl];congr 1;omega))⟩;rcases v with z | z
   ·exact .inl (z.trans d)
   ·exact .inr (.inl (z.trans C))
def Hist.woods(G:Good W)(h:Hist W ms a b c Fs Ts)(hb:R W c b a):Wds W a b c (wdF W.length a b c ms Fs):=by
 have lf:=h.lf;have S:=(Wb.of G).toNb;have at0:∀ i,i<ms.length->ms.getD i 0∈ms:=λ i r=>by rw[ai,aa r];exact gh _
 have A:∀ p,p<W.length->∃ i,i<ms.length/\p=ms.getD i 0:=λ p hp=>by
  obtain⟨i,r,e⟩:=wy ((h.all p).mpr hp);exact⟨i,r,by rw[ai,aa r];exact e.symm⟩
 obtain⟨M0,N⟩:=h.lastF G hb;refine⟨by simp[wdF],λ p hp=>?_,λ p hp pa pb pc=>?_,λ p q C=>?_,λ q qa qb qc=>?_⟩
 ·by_cases l:p<W.length
  ·rw[bV l,if_pos hp]
  ·rw[ai,iZ (by simp[wdF];omega)]
   rfl
 ·obtain⟨k,J,rfl⟩:=h.place hp pa pb pc
  obtain⟨j,row,L,Q,kj,v,u,er,ro,hL,hQ⟩:=h.cover G J;obtain⟨j',f,M,l,a1,Y,B,e,eD⟩:=h.outs G J;have jj:=h.once v Y u B;subst jj;obtain⟨nd,_⟩:=h.inF (k:=k) (by omega);have D:∀ z,z∈Fs.getD k []->z≠ms.getD (j+2) 0:=λ z hz q=>h.ahead (k:=k) (j:=j) (by omega) v ((h.mem k (by omega) z).mp hz).1 q;rw[e]at nd;refine⟨f,l,_,M,L,Q,row,eD,?_,D f (by rw[e];simp),D l (by rw[e];simp),er,by rw[e]at ro;simpa using ro,λ q o=>?_,λ q o=>?_,λ q o=>?_⟩
  ·exact λ z=>by
    rw[iE,eK]at nd;exact nd.1 (by rw[z];simp)
  ·obtain⟨i,r,rfl⟩:=h.inM (by omega) e o
   obtain⟨X,T,M2,I,H,s,n,O,d⟩:=h.outs G (k:=i) (by omega);have:X=k:=h.once s (by omega) n (by rw[e,yC];exact o);subst this;exact⟨T,I,d⟩
  ·obtain⟨i,ki,r,rfl,g⟩:=hL q o
   by_cases ic:i+1<Fs.length
   ·obtain⟨X,T,M2,I,H,s,n,O,d⟩:=h.outs G (k:=i) ic
    rw[O]at g;have g:T=_:=g;rw[g]at d;exact⟨_,_,d⟩
   ·rw[show i=Fs.length-1 by omega,N]at g
    exact absurd g.symm pa
  ·obtain⟨i,ki,r,rfl,g⟩:=hQ q o
   by_cases ic:i+1<Fs.length
   ·obtain⟨X,T,M2,I,H,s,n,O,d⟩:=h.outs G (k:=i) ic
    rw[O,iF,eZ]at g;have g:I=_:=g;rw[g]at d;exact⟨_,_,d⟩
   ·rw[show i=Fs.length-1 by omega,N,iF,eZ]at g
    exact absurd (show b=_ from g).symm pb
 ·obtain⟨i,r,rfl⟩:=A p (S.e C).1
  obtain⟨j,v,rfl⟩:=A q (S.e C).2.1;rcases yk i j with z | z | z
  ·exact h.tie1 G hb z v C
  ·exact absurd (by rw[z]) (S.e C).2.2
  ·rcases h.tie1 G hb z r (S.sym _ _ C) with⟨q1,q2⟩ | q
   ·exact .inl ⟨q2,q1⟩
   ·exact .inr ⟨λ x y=>(q.mp y) x,λ x=>iH λ y=>x (q.mpr y)⟩
 ·by_cases o:q<W.length
  ·obtain⟨k,J,rfl⟩:=h.place o qa qb qc
   obtain⟨j,f,M,l,kj,v,u,e,eD⟩:=h.outs G J;obtain⟨nd,iT,f',M',l',e',_,_,ha,U⟩:=h.inF (k:=k) (by omega);rw[e]at e';obtain⟨Z,e5⟩:=bG e';injection Z with Z _
   have m:∀ i,i<2->ms.getD i 0∈ms.take (k+2):=λ i r=>yh.mpr ⟨i,by rw[AM,if_pos (by omega),ai,aa (by omega)];rfl⟩;rw[eD];refine⟨λ z=>?_,λ z=>?_,λ z=>?_⟩
   ·exact Z.trans (ha ((h.mem k (by omega) a).mpr ⟨h.a0 ▸ m 0 (by omega),S.sym _ _ z⟩))
   ·exact e5.trans (U ((h.mem k (by omega) b).mpr ⟨h.b1 ▸ m 1 (by omega),S.sym _ _ z⟩))
   ·have ec:ms.getD (Fs.length-1+2) 0=c:=by rw[show Fs.length-1+2=Fs.length+1 by omega];exact h.cl
    have mem:=(h.mem (Fs.length-1) (by omega) (ms.getD (k+2) 0)).mpr ⟨yh.mpr ⟨k+2,by rw[AM,if_pos (by omega),ai,aa (by omega)];rfl⟩,by rw[ec];exact z⟩;rw[N]at mem
    have mM:ms.getD (k+2) 0∈M0:=by
     simp only[iE,cy,bu,gj,or_false]at mem
     grind
    have:=h.once v (by omega) u (k:=Fs.length-1) (by rw[N,yC];exact mM);show ms.getD (j+2) 0=c;rw[this,ec]
  ·refine⟨λ z=>absurd (S.e z).2.1 o,λ z=>absurd (S.e z).2.1 o,λ z=>absurd (S.e z).2.1 o⟩
end
def vL(D:Rows)(p q:Nat):Nat:=if q∈D.getD p [] then[0,2,4].getD ((D.getD p []).idxOf q) 0 else[3,5,1].getD ((D.getD q []).idxOf p) 0
def cM{x y:Nat}{l:List Nat}(h:x≠y):(x::l).idxOf y=l.idxOf y+1:=by
 rw[FT,show(x == y)=false from beq_eq_false_iff_ne.mpr h]
 rfl
section
variable {W D:Rows} {a b c:Nat}
def Wds.three(h:Wds W a b c D){q:Nat}(f:q<W.length):(D.getD q []).Nodup/\(D.getD q []).length=if q=a\/q=b\/q=c then 0 else 3:=by
 by_cases d:q=a\/q=b\/q=c
 ·rw[h.base q d,if_pos d]
  exact⟨.nil,rfl⟩
 ·obtain⟨x,y,z,A,B,C,row,e,l,i,g,_⟩:=h.row q f (λ z=>d (.inl z)) (λ z=>d (.inr (.inl z))) (λ z=>d (.inr (.inr z)))
  rw[e,if_neg d];exact⟨by simp[l,i,g],rfl⟩
def Wds.le3(h:Wds W a b c D){q:Nat}(d:q<W.length):(D.getD q []).length<=3:=by
 rw[(h.three d).2]
 split<;>omega
def cH{f:Nat->Nat}{l:List Nat}{k:Nat}(h:∀ q∈l,f q=k):l.map f=eQ l.length k:=by
 induction l with
 | nil=>rfl
 | cons x l ih=>rw[eX,eh,uv,h x (by simp),ih λ q a=>h q (by simp[a])]
def Wds.sorted(S:Nb W)(h:Wds W a b c D){p:Nat}(hp:p<W.length)(r:p≠a)(O:p≠b)(G:p≠c) :
  ∃ x y z row,D.getD p []=[x,y,z]/\W[p]?=some row/\x∈row/\y∈row/\z∈row/\((rot row x).map (vL D p)).Pairwise (·<=·)/\∀ q∈row,q∈D.getD p []\/p∈D.getD q []:=by
 obtain⟨x,y,z,A,B,C,row,e,N,U,I,n,s,hA,hB,hC⟩:=h.row p hp r O G;have nd:=S.nd _ _ n;have d:Ro row (x::(A++y::B++z::C)):=by simpa using s
 have nd2:=d.nd.mp nd;have M:=Fc.rot_of nd d;have inr:∀ q,q∈x::(A++y::B++z::C)->q<W.length:=λ q f=>(S.rng _ _ _ n ((d.mem q).mpr f)).1;have L:vL D p x=0:=by unfold vL;rw[e,if_pos (by simp)];simp
 have o:vL D p y=2:=by
  unfold vL;rw[e,if_pos (by simp),cM N,wj]
  rfl
 have Q:vL D p z=4:=by
  unfold vL;rw[e,if_pos (by simp),cM U,cM I,wj]
  rfl
 have l:∀ q,q∈A\/q∈B\/q∈C->q∉D.getD p []:=λ q f m=>by
  rw[e]at m;simp only[cy,gj,or_false]at m;rw[eK,dr,iE,bj,eK,bj,eK]at nd2;simp only[bu,cy]at nd2
  grind
 have T:∀ q∈A,vL D p q=1:=λ q f=>by
  obtain⟨u,v,g⟩:=hA q f;have i:=(h.three (inr q (by simp[f]))).1;unfold vL;rw[if_neg (l q (.inl f)),g];rw[g]at i;simp only[eK,cy,gj,or_false,not_or]at i;rw[cM i.1.2,cM i.2.1,wj]
  rfl
 have J:∀ q∈B,vL D p q=3:=λ q f=>by
  obtain⟨u,v,g⟩:=hB q f;unfold vL;rw[if_neg (l q (.inr (.inl f))),g,wj]
  rfl
 have H:∀ q∈C,vL D p q=5:=λ q f=>by
  obtain⟨u,v,g⟩:=hC q f;have i:=(h.three (inr q (by simp[f]))).1;unfold vL;rw[if_neg (l q (.inr (.inr f))),g];rw[g]at i;simp only[eK,cy,gj,or_false,not_or]at i;rw[cM i.1.1,wj]
  rfl
 refine⟨x,y,z,row,e,n,(d.mem x).mpr (by simp),(d.mem y).mpr (by simp),(d.mem z).mpr (by simp),?_,λ q f=>?_⟩
 ·rw[M,eX,eN,eN,eX,eX,cH T,cH J,cH H,L,o,Q]
  simp only[AK,eB,List.pairwise_replicate,bu,cy,By];refine⟨λ _ _=>fj _,⟨⟨.inr (bg _),⟨?_,.inr (bg _)⟩,?_⟩,⟨?_,.inr (bg _)⟩,?_⟩⟩<;>grind
 ·have:=(d.mem q).mp f
  simp only[cy,bu]at this;rcases this with rfl | (m | rfl | m) | rfl | m
  ·left;rw[e];simp
  ·right;obtain⟨u,v,g⟩:=hA q m;rw[g];simp
  ·left;rw[e];simp
  ·right;obtain⟨u,v,g⟩:=hB q m;rw[g];simp
  ·left;rw[e];simp
  ·right;obtain⟨u,v,g⟩:=hC q m;rw[g];simp
end
end Tri
namespace L2
open PySem
def kQL(K:bb)(n:Str)(xs:List Int):Prop:=∃(f:ay)(b:Option ay)(a:Array ao)(c:Nat)(osl:Array (Option ao)),gy K ed n=some (some (.ref f))/\K.lookup f=some ⟨.type "tuple",b,.seq a c,osl⟩/\a.toList.map kOH=xs.map λ x=>some (V.int x)
def cn_mk{K:bb}{n:Str}{xs:List Int}{f:ay}{g:Option ay}{b:Array ao}{c:Nat}{d:Array (Option ao)}(a:gy K ed n=some (some (.ref f)))(l:K.lookup f=some ⟨.type "tuple",g,.seq b c,d⟩)(v:b.toList.map kOH=xs.map λ x=>some (V.int x)):kQL K n xs:=⟨f,g,b,c,d,a,l,v⟩
theorem tK:∀{l:List ao}{xs:List Int},l.map kOH=xs.map (λ x=>some (V.int x))->Vals (xs.map V.int) l
 | [],[],_=>.nil
 | u::l,x::xs,h=>by
  rw[eX,eX]at h;injection h with h1 h2
  refine .cons ?_ (tK h2)
  cases u<;>simp[kOH]at h1
  rename_i i t
  exact⟨t,by rw[h1]⟩
 | [],_::_,h=>by simp at h
 | _::_,[],h=>by simp at h
def kRF{K:bb}{mg:Str->Option ao}{n:Str}{xs:List Int}(X:∃ h:iD,K.In h/\h.Ns ed mg)(h:kQL K n xs)(b:xs.length<=1000):∃ a,mg n=some (.ref a)/\∀ H,SqT K H a (xs.map V.int):=by
 obtain⟨hp,x,g⟩:=X;obtain⟨f,m,d,c,i,a,l,v⟩:=h;refine⟨f,Du x g a,λ H=>.inr ⟨_,d,c,l,rfl,rfl,?_,tK v⟩⟩;have:=congrArg iV v;rw[aj,aj,fw]at this;rw[this];exact fz b (by decide)
end L2
namespace Dcl
open PySem PySem.Spec PyProof.Rows L2
section
variable {prog:eU} {w:gk} {A:fb} {E:ao->av->Prop} {s:av}
def kPQ:typeLookup (.type "list") (gw "keys")=pure none:=by rw[AG,vd];kernel_rfl
def kPP{a:ay}{d:Array ao}{Q:Option ao->av->Prop}(p:PlainL s.heap a d)(G:A.handled=none)(h:∀ h' tk,(∀ b o,s.heap.get? b=some o->h'.get? b=some o)->Q none {s with heap:=h',toks:=tk}) :
  cx (model prog w) A (getAttr? (.ref a) (gw "keys")) Q E s:=by
 obtain⟨o,n,e,c,v,B⟩:=p;have m:ui {s with toks:=s.toks+1} (.ref a) "list":=⟨o,e,c⟩
 unfold getAttr? mkText;refine ae (ae (wpAny_fresh (az ?_)));unfold getAttrBy?;refine ae (mm ?_);unfold getAttrBy;refine fq (ae (jz m ?_));refine ae (xg wm.lookup ?_);dsimp only;rw[if_neg (by decide)];unfold getAttrByItsOwn hookBefore;rw[if_neg (by decide)];refine ae (az ?_);refine ae (mm (fq ?_));unfold callGetattribute;rw[if_neg (by decide)];unfold boundAndCalled;refine ae (xg (wm.bind _) ?_);show cx _ A (call (.builtin "list.__getattribute__") [.ref a,.str (gw "keys") s.toks]) _ _ _;obtain⟨H,I,D,i⟩:=o;simp only at c v B;subst c v B;obtain⟨g,f⟩ : ∃ g:Ew->av->Prop,g=λ r y=>∃ h' tk x,r=.error (.ref x)/\y={s with heap:=h',toks:=tk}/\s.heap.NewAttrErr h' x (.ref a) (gw "keys"):=⟨_,rfl⟩
 refine Cq (qz (wg (R:=g) wm.plain am_entry_list_getattribute (wm.check _ _ _ _ _ _ _ _ m (F.args_list_getattribute_2 _ _) ?_)) λ r y C=>?_)
 ·exact meets_getattribute_miss_list a d n i (gw "keys") s.toks kPQ (by decide +kernel) (by decide +kernel) prog w A g {s with toks:=s.toks+1} ⟨e,G,λ h' tk x nx=>by rw[f];exact⟨h',tk,x,rfl,rfl,nx⟩⟩
 rw[f]at C;obtain⟨h',tk,x,rfl,rfl,nx⟩:=C;show cx _ A (getattributeRaised _ _ _ (.ref x) none false false) _ _ _;unfold getattributeRaised;obtain⟨keeps,new,t,u,there⟩:=nx;have q:ui {s with heap:=h',toks:=tk} (.ref x) "AttributeError":=⟨_,there,rfl⟩
 have sub:isSubtype (.type "AttributeError") (.type "AttributeError")=pure true:=by rw[yr];kernel_rfl
 refine ae (oz q sub ?_);rw[if_pos rfl];unfold hookBehind;rw[if_neg (by decide)];refine ae (xg am_list_getattr_none ?_);unfold hookOrError attributeErrorLeaves;dsimp only;rw[if_pos (by decide)];refine ae (FJ ?_);refine ae (oz q sub ?_);rw[if_pos rfl];exact az (h h' tk keeps)
def vC:entryFor table "dict.update.loop" = some ph.«dict.update.loop»:=by first | kernel_rfl | rfl | decide +kernel
def jW:plainId "dict.update.loop" = true:=by decide +kernel
end
def qL(b:List (Key×V)):List (Key×V):=b.foldl (λ a p=>xB a p.1 p.2) []
def aK(a:List (Key×V))(p:Key×V):qL (a++[p])=xB (qL a) p.1 p.2:=by unfold qL;rw[CQ];rfl
def kBV(b:List (Key×V)):(qL b).length<=b.length:=by
 have:∀(b a:List (Key×V)),(b.foldl (λ a p=>xB a p.1 p.2) a).length<=a.length+b.length:=by
  intro b
  induction b with
  | nil=>intro a;simp
  | cons p b ih =>
   intro a;have h1:=ih (xB a p.1 p.2);have c:=qP a p.1 p.2;simp only[ux,eh];omega
 have:=this b [];simpa[qL] using this
section
variable {X:Cx} {pins:List (ay×Obj)} {σ:L2.St} {A:fb} {R:Ew->av->Prop}
def kJO(hh:A.handled=none){a D it:ay}{H:Hp}{B:List ay}{d:List (Key×V)}(hl:B.length=d.length)(J:H a=some (.lst (B.map V.ref)))(hq:∀(i:Nat)(q:ay)(p:Key×V),B[i]?=some q->d[i]?=some p->H q=some (.tup [kV p.1,p.2]))(nD:H D=none)(a3:d.length<=1000)
  (fp:∀ kvs,yN X pins (upd H D (.dK kvs)) it) :
  ∀(m i:Nat)(s:av),i+m=d.length->L2.Inv X pins σ (upd H D (.dK (qL (d.take i)))) s->s.heap.IsListIter it a i->(∀ s',L2.Inv X pins σ (upd H D (.dK (qL d))) s'->R (.ok (.ret .none)) s') ->
   codeAny (model X.prog X.w) A (.builtin "dict.update.loop" ⟨[.ref D,.ref it,rawInt (i:Int),.none],[]⟩) R s:=by
 intro m
 induction m with
 | zero =>
  intro i s Z I st k;have ei:i=d.length:=by omega
  subst ei;rw[iW]at I;refine nh vC ?_;rw[sk jW];have h:a≠D:=kF J nD;obtain⟨a2,S,p,hz⟩:=I.list (SqL.of (by rw[kK h];exact J));have lr:=S.length;rw[aj]at lr;obtain⟨y,L,f2,O,U,T⟩:=fp (qL d);unfold ph.«dict.update.loop» rawInt;dsimp only;refine ae (DR (show A.in1.handled=none from hh) st p.isList (by simp;omega) λ Q eb=>?_);have C:L2.Inv X pins σ (upd H D (.dK (qL d))) {s with heap:=Q}:=I.turned (t':=s.toks) (λ b o M e=>eb b o M e) y L O U T
  dsimp only;unfold AA;refine ae (ae (m:=pure EC) (az (az (az ?_))));exact k _ C
 | succ m ih =>
  intro i s Z I st k;refine nh vC ?_;rw[sk jW];have h:a≠D:=kF J nD;obtain⟨a2,S,p,hz⟩:=I.list (SqL.of (by rw[kK h];exact J));have r:=aa (l:=B) (i:=i) (by omega);have ep:=aa (l:=d) (i:=i) (by omega);have g:=hq i _ _ r ep;generalize B[i]=q at *;generalize d[i]=f at *;obtain⟨u,hu,ru⟩:=S.get (x:=V.ref q) (i:=i) (by rw[bh,r];rfl);cases ru
  obtain⟨y,L,f2,O,U,T⟩:=fp (qL (d.take i));unfold ph.«dict.update.loop» rawInt;dsimp only;refine ae (Cp st p.isList (x:=.ref q) (by simpa using hu) λ Q a0 sb=>?_);have C:L2.Inv X pins σ (upd H D (.dK (qL (d.take i)))) {s with heap:=Q}:=I.turned (t':=s.toks) (λ b o M e=>(sb.2 b M).trans e) y L O U T
  dsimp only;have a1:q≠D:=kF g nD;obtain⟨ts,rt,pt,a4⟩:=C.tuple (SqT.of (by rw[kK a1];exact g));obtain⟨o,e,c,n,dd⟩:=pt;refine ae (fq (ae (GE ?_)));unfold DC;refine ae (jz ⟨o,e,c⟩ ?_);rw[if_pos (by decide)];refine ae (jr e dd (az ?_))
  cases rt with
  | cons r1 rr =>
  cases rr with
  | cons r2 r3 =>
  cases r3
  rename_i x1 x2
  show cx _ _ (holding [x1,x2] (dictSet D x1 x2)) _ _ _;refine fq ?_;obtain⟨z,hd,vs,v,dk⟩:=bQ C.hok (kB (H:=H) (a:=D) (o:=.dK (qL (d.take i))));refine BX (hsz:=by rw[<-v.length];exact z) (uS r1) dk λ h2 G hs=>?_
  have Y:(xB (qL (d.take i)) f.1 f.2).length<=sizeLine:=by
   have h1:=qP (qL (d.take i)) f.1 f.2;have h2:=kBV (d.take i);have h3:(d.take i).length<=1000:=by rw[eJ];omega
   exact fz (show _<=1001 by omega) (by decide)
  have I2:=zA (t':=s.toks+1) C (by rw[kB];exact nj) hs (let ⟨q,_,_,hq,_⟩:=G;⟨q,hq⟩) (mE Y hd (v.put f.1 r2) G)
  have e2:upd (upd H D (.dK (qL (d.take i)))) D (.dK (xB (qL (d.take i)) f.1 f.2))=upd H D (.dK (qL (d.take (i+1)))):=by
   rw[jf,ep];show _=upd H D (.dK (qL (d.take i++[f])));rw[aK]
   funext b
   unfold upd
   split<;>rfl
  rw[e2]at I2;refine az ⟨yf jW _,?_⟩;have N:it≠D:=λ z=>by rw[z,kB]at y;cases y
  exact ih (i+1) _ (by omega) I2 (a0.at λ o e=>(hs.2 it N).trans e) k
def kJG(J:A.handled=none){E:ao->av->Prop}{s:av}{a D:ay}{H:Hp}{x:List ay}{d:List (Key×V)}(U:x.length=d.length)(m:H a=some (.lst (x.map V.ref)))(Z:∀(i:Nat)(q:ay)(p:Key×V),x[i]?=some q->d[i]?=some p->H q=some (.tup [kV p.1,p.2]))(G:H D=none)(v:d.length<=1000)
  (I:L2.Inv X pins σ (upd H D (.dK [])) s) (k:∀ s',L2.Inv X pins σ (upd H D (.dK (qL d))) s'->R (.ok (.ret .none)) s') :
  codeAny (model X.prog X.w) A (.call (.builtin "dict.__init__") ⟨[.ref D,.ref a],[]⟩) R s:=by
 have g:a≠D:=kF m G;obtain⟨a0,rv,p,hz⟩:=I.list (SqL.of (by rw[kK g];exact m));obtain⟨z,O,vs,L,Y⟩:=bQ I.hok (kB (H:=H) (a:=D) (o:=.dK []));have B:s.TypeIs (.ref D) "dict":=Y.typeIs;have hL:s.TypeIs (.ref a) "list":=by obtain⟨o,n,e,c,_⟩:=p;exact⟨o,e,c⟩
 refine wg jv.init.plain Eo (jv.init.check _ _ _ _ _ _ _ _ B (EK _ _) ?_);unfold ph.«dict.__init__»;refine ae ?_;unfold zv;refine ae (Ar B ?_);refine az (show cx _ _ (ow "dict.__init__" D (.ref a) [] .none) _ _ s from ?_);unfold ow;refine ae (jz hL ?_);rw[if_pos (by decide)];refine ae (kPP p (show A.in1.handled=none from J) λ l C S=>?_);rw[if_pos (by decide)];refine ae (uz (ae ?_));have r:L2.Inv X pins σ (upd H D (.dK [])) {s with heap:=l,toks:=C}:=I.kept S
 obtain⟨y,M,Q,N⟩:=r.list (SqL.of (by rw[kK g];exact m));refine AZ Q.isList ?_;have h:upd H D (.dK []) l.objs.size=none:=r.hok.fresh (bg _);have u:l.objs.size≠D:=λ z=>by rw[z,kB]at h;cases h
 have T:∀ f,yN X pins (upd H D (.dK f)) l.objs.size:=λ f=>r.fpOk (bg _) (by rw[kK u]at h ⊢;exact h);refine az ⟨yf jW _,?_⟩;exact kJO J U m Z G v T d.length 0 _ (by omega) (r.kept (t':=C) λ b o e=>ar _ e) ⟨_,cg _ rfl,rfl,rfl⟩ k
inductive dQ(xs:List V)(H:Hp)(Q:VK):Prop
 | mk:∀(a:ay)(qs:List ay)(ps:List (Key×V)),(xs=[.ref a])->(H a=some (.lst (qs.map V.ref)))->(qs.length=ps.length)->(∀(i:Nat)(q:ay)(p:Key×V),qs[i]?=some q->ps[i]?=some p->H q=some (.tup [kV p.1,p.2]))->(ps.length<=1000)->(∀ D,H D=none->Q (.ref D) (upd H D (.dK (qL ps))))->dQ xs H Q
def mO{s:av}{H:Hp}{a:ay}{Hf:ay->Hp}{Q:VK}(I:L2.Inv X pins σ H s)
  (d:∀ s1,L2.Inv X pins σ (upd H s.heap.objs.size (.dK [])) s1->(∀ b o,s.heap.get? b=some o->s1.heap.get? b=some o)->codeAny (model X.prog X.w) X.A.in1 (.call (.builtin "dict.__init__") ⟨[.ref s.heap.objs.size,.ref a],[]⟩) (wants (λ r s₂=>r=.none/\L2.Inv X pins σ (Hf s.heap.objs.size) s₂) X.xe) s1)
  (q:∀ D,H D=none->Q (.ref D) (Hf D)):cx (model X.prog X.w) X.A (call (.type "dict") [.ref a]) (EP X pins σ Q) X.xe s:=by
 obtain⟨_,_,i⟩:=jv.mro;have u:=jv.made;have L:=jv.sub;refine Cq (DK ?_);refine az ⟨Bw _ (by decide +kernel),nh Em ?_⟩;rw[EH (DV "dict" [.ref a] []) rfl];have y:=jv.notType;have G:=jv.canCreate;have C:=F.kt_typeCall_dict_1 (.ref a)
 repeat (any_goals (first | assumption | wp_step))
 refine qz (kt_code_dict_new (.ref a) (E:=X.xe) (Q₁:=λ v f=>v=.ref s.heap.objs.size/\f={s with heap:=s.heap.push {cls:=.type "dict",data:=.dict #[]}}) ⟨rfl,rfl⟩) λ r f h=>?_
 cases r with
 | error e=>exact h
 | ok fl =>
  cases fl with
  | next=>exact h.elim
  | brk=>exact h.elim
  | cont=>exact h.elim
  | ret v =>
   obtain⟨rfl,rfl⟩:=h;have m:(s.heap.push {cls:=.type "dict",data:=.dict #[]}).get? s.heap.objs.size=some {cls:=.type "dict",data:=.dict #[]}:=cg _ rfl;have x:ui {s with heap:=s.heap.push {cls:=.type "dict",data:=.dict #[]}} (.ref s.heap.objs.size) "dict":=⟨_,m,rfl⟩
   have p:H s.heap.objs.size=none:=I.hok.fresh (bg _);have n:L2.Inv X pins σ (upd H s.heap.objs.size (.dK [])) {s with heap:=s.heap.push {cls:=.type "dict",data:=.dict #[]}}:=I.laid (a:=s.heap.objs.size) (o:=.dK []) (t':=s.toks) (λ _ _ q=>ar _ q) (bg _) (kCA s.heap I.big)
   have B:=jv.init.lookup;have J:=jv.init.bind (.ref s.heap.objs.size)
   repeat (any_goals (first | assumption | wp_step))
   refine qz (d _ n λ _ _ q=>ar _ q) λ g s₂ c=>?_
   cases g with
   | error e=>exact c
   | ok fl₂ =>
    cases fl₂ with
    | next=>exact c.elim
    | brk=>exact c.elim
    | cont=>exact c.elim
    | ret r =>
     obtain⟨rfl,l⟩:=c
     repeat (any_goals (first | assumption | wp_step))
     exact⟨.ref s.heap.objs.size,_,l,rfl,q _ p⟩
def call_dictL(d:X.calm=true):xR X (.type "dict") dQ:=by
 intro c s v H y u Q I r h;obtain⟨a,B,f,rfl,g,l,m,b,q⟩:=h
 cases r with
 | cons r1 rr =>
 cases rr
 cases r1
 have o:X.A.handled=none:=I.ok.hd d;exact mO (Hf:=λ D=>upd H D (.dK (qL f))) I (λ p n _=>kJG (E:=X.xe) (show X.A.in1.handled=none from o) l g m (I.hok.fresh (bg _)) b n λ x i=>⟨rfl,i⟩) q
end
def kSW:typeLookup (.type "zip") (gw "keys")=pure none:=by rw[AG,vd];kernel_rfl
def kSX:typeLookup (.type "zip") (gw "__getattr__")=pure none:=by rw[AG,vd];kernel_rfl
def sS:entryFor table "zip.__getattribute__" = some ph.«object.__getattribute__»:=by first | kernel_rfl | rfl | decide +kernel
def kMV(a:ay)(fs:Array ao)(i:Array (Option ao))(u:Tok) :
  Hc (ph.«object.__getattribute__» ⟨[.ref a,.str (gw "keys") u],[]⟩) (λ A R s=>s.heap.get? a=some {cls:=.type "zip",data:=.fields fs,slots:=i}/\raisesAttr (.ref a) (gw "keys") A R s) :=
 .of_wp λ b w A R s h=>by
  obtain⟨hp,g,d,f,os⟩:=s;obtain⟨e,l,h⟩:=h;have c:ui ⟨hp,g,d,f,os⟩ (.ref a) "zip":=⟨_,e,rfl⟩;have m:=kSW;unfold ph.«object.__getattribute__»
  wp_walk using jz c
  exact wpAny_raiseAttrError l h
def kCF(a b:ao):argsOk "zip.__getattribute__" ⟨[a,b],[]⟩:=by first | exact F.args_zip_getattribute_2 a b | exact⟨by decide +kernel,by decide +kernel⟩ | (unfold argsOk;kernel_rfl) | kernel_rfl | rfl
section
variable {prog:eU} {w:gk} {A:fb} {E:ao->av->Prop} {s:av}
def kMT{a:ay}{fs:Array ao}{n:Array (Option ao)}{Q:Option ao->av->Prop}(e:s.heap.get? a=some {cls:=.type "zip",data:=.fields fs,slots:=n})(p:A.handled=none)(h:∀ h' tk,(∀ b o,s.heap.get? b=some o->h'.get? b=some o)->Q none {s with heap:=h',toks:=tk}) :
  cx (model prog w) A (getAttr? (.ref a) (gw "keys")) Q E s:=by
 have l:ui {s with toks:=s.toks+1} (.ref a) "zip":=⟨_,e,rfl⟩
 unfold getAttr? mkText;refine ae (ae (wpAny_fresh (az ?_)));unfold getAttrBy?;refine ae (mm ?_);unfold getAttrBy;refine fq (ae (jz l ?_));refine ae (xg xc.lookup ?_);dsimp only;rw[if_neg (by decide)];unfold getAttrByItsOwn hookBefore;rw[if_neg (by decide)];refine ae (az ?_);refine ae (mm (fq ?_));unfold callGetattribute;rw[if_neg (by decide)];unfold boundAndCalled;refine ae (xg (xc.bind _) ?_);show cx _ A (call (.builtin "zip.__getattribute__") [.ref a,.str (gw "keys") s.toks]) _ _ _;obtain⟨d,c⟩ : ∃ d:Ew->av->Prop,d=λ r m=>∃ h' tk x,r=.error (.ref x)/\m={s with heap:=h',toks:=tk}/\s.heap.NewAttrErr h' x (.ref a) (gw "keys"):=⟨_,rfl⟩
 refine Cq (qz (wg (R:=d) xc.plain sS (xc.check _ _ _ _ _ _ _ _ l (kCF _ _) ?_)) λ r m g=>?_)
 ·exact kMV a fs n s.toks prog w A d {s with toks:=s.toks+1} ⟨e,p,λ h' tk x nx=>by rw[c];exact⟨h',tk,x,rfl,rfl,nx⟩⟩
 rw[c]at g;obtain⟨h',tk,x,rfl,rfl,nx⟩:=g;show cx _ A (getattributeRaised _ _ _ (.ref x) none false false) _ _ _;unfold getattributeRaised;obtain⟨keeps,new,t,u,there⟩:=nx;have i:ui {s with heap:=h',toks:=tk} (.ref x) "AttributeError":=⟨_,there,rfl⟩
 have sub:isSubtype (.type "AttributeError") (.type "AttributeError")=pure true:=by rw[yr];kernel_rfl
 refine ae (oz i sub ?_);rw[if_pos rfl];unfold hookBehind;rw[if_neg (by decide)];refine ae (xg kSX ?_);unfold hookOrError attributeErrorLeaves;dsimp only;rw[if_pos (by decide)];refine ae (FJ ?_);refine ae (oz i sub ?_);rw[if_pos rfl];exact az (h h' tk keeps)
end
section
variable {prog:eU} {w:gk} {A:fb} {E:ao->av->Prop} {s:av} {z TI TO i1 i2 T:ay} {fp1 fp2:List ay} {n1 n2 j:Nat} {P1 P2:Nat->ao->Prop} {S1 S2:Nat->iD->Prop} {f1:Bool}
def mY(h:iD)(z TI TO T:ay)(a:Bool):Prop:=h.get? z=some {cls:=.type "zip",data:=.fields #[rawInt T,.bool a,.bool false,.ref TI,.ref TO]}
def kBE{Q:Bool->av->Prop}(hz:mY s.heap z TI TO T f1)(i:∃ o,s.heap.get? T=some o)(q:∀ h',mY h' z TI TO T true->(∀ c o,c≠z->s.heap.get? c=some o->h'.get? c=some o)->h'.objs.size=s.heap.objs.size->Q false {s with heap:=h'}) :
  cx (model prog w) A (eo (.ref z)) Q E s:=by
 unfold mY at hz;obtain⟨o,g⟩:=i;unfold eo;refine ae (iJ hz rfl (x:=rawInt T) rfl ?_);unfold rawInt;dsimp only
 have d:∀{a:Option Obj->av->Prop},a (some o) s->cx (model prog w) A (loadIfAlive ((T:Int)).toNat) a E s:=λ{a} h m p hΓ=>by
  unfold loadIfAlive;rw[Sem.wp_loadIfAlive,show((T:Int)).toNat=T from iI T,g];exact az (M:=model prog w) (A:=A) (E:=E) (Q:=a) h m p hΓ
 refine ae (d ?_);rw[if_neg (show ¬ (some o).isNone=true from dw)];refine ae (iJ hz rfl (x:=.bool f1) rfl ?_)
 cases f1 with
 | true =>
  rw[if_neg (by decide)];exact az (q s.heap hz (λ _ _ _ e=>e) rfl)
 | false =>
  rw[if_pos (by decide)];refine ae (oh hz (by simp) λ h' f b=>az ?_);exact q h' f (λ c o l e=>b.extBut _ _ l e) b.1
def kCK{Q:ao->av->Prop}(g:FK prog w A i1 fp1 n1 P1 S1)(m:FK prog w A i2 fp2 n2 P2 S2)(f:ZAp z TI TO i1 i2 fp1 fp2)
  (hz:mY s.heap z TI TO T f1) (N:∃ o,s.heap.get? T=some o) (B:qj s.heap TI (.ref i1) (.ref i2)) (h1:S1 j s.heap) (Y:S2 j s.heap) (l1:j<n1) (L:j<n2)
  (Z:∀ x y h' tk,P1 j x->P2 j y->mY h' z TI TO T true->S1 (j+1) h'->S2 (j+1) h'->qj h' s.heap.objs.size x y ->
   (∀ c o,c≠z->c≠i1->c≠i2->s.heap.get? c=some o->h'.get? c=some o)->Q (.ref s.heap.objs.size) {s with heap:=h',toks:=tk}) :
  cx (model prog w) A (ph.«zip.__next__» ⟨[.ref z],[]⟩) (λ fin s'=>∃ v,fin=.done (.ret v)/\Q v s') E s:=by
 have d:=hz;unfold mY at d;show cx _ _ (field (.ref z) 2 >>= _) _ _ _;refine ae (iJ d rfl (x:=.bool false) rfl ?_);show cx _ _ (field (.ref z) 3 >>= _) _ _ _;refine ae (iJ d rfl (x:=.ref TI) rfl ?_);refine ae (jr B rfl ?_);show cx _ _ (eo (.ref z) >>= _) _ _ _;refine ae (kBE hz N λ I J n u=>?_);have p:S1 j I:=g.frame _ _ _ h1 λ b a o e=>n b o (λ q=>f.z1 (q ▸ a)) e;have D:S2 j I:=m.frame _ _ _ Y λ b a o e=>n b o (λ q=>f.z2 (q ▸ a)) e;rw[if_neg (by decide)];dsimp only;refine ae ?_;simp only[EL,Bm,Ac];refine ae (ae (fq ?_));show cx _ _ (ft (.ref i1) >>= _) _ _ _;refine ae (g.item j _ _ _ l1 p λ x g2 X O r h=>az (az ?_));refine ae (ae (fq ?_));show cx _ _ (ft (.ref i2) >>= _) _ _ _;have C:S2 j g2:=m.frame _ _ _ D λ b a o e=>h.extBut b o (λ q=>f.i1f (q ▸ a)) e;refine ae (m.item j _ _ _ L C λ y i a0 U H l=>az (az (az ?_)));have G:S1 (j+1) i:=g.frame _ _ _ r λ b a o e=>l.extBut b o (λ q=>f.i2f (q ▸ a)) e;have S:mY i z TI TO T true:=l.extBut _ _ f.zi2 (h.extBut _ _ f.zi1 J);have sz:i.objs.size=s.heap.objs.size:=by rw[l.1,h.1,u]
 show cx _ _ (newTuple [x,y] >>= _) _ _ _;refine ae (Da (az ⟨_,rfl,?_⟩));show Q (.ref i.objs.size) _;rw[sz];refine Z x y _ _ O U (ar _ S) (g.frame _ _ _ G λ b a o e=>ar _ e) (m.frame _ _ _ H λ b a o e=>ar _ e) ?_ λ c o c1 M c3 e=>ar _ (l.extBut _ _ c3 (h.extBut _ _ M (n c o c1 e)));rw[<-sz];exact cg _ rfl
def zipD_end2{Q:uo->av->Prop}(g:FK prog w A i1 fp1 n1 P1 S1)(p:ZAp z TI TO i1 i2 fp1 fp2)
  (hz:mY s.heap z TI TO T f1) (l:∃ o,s.heap.get? T=some o) (f:qj s.heap TI (.ref i1) (.ref i2)) (h1:S1 n1 s.heap)
  (y:∀ h' e,(∀ c o,c≠z->c≠i1->s.heap.get? c=some o->h'.get? c=some o)->(∃ o,h'.get? e=some o/\o.cls=.type "StopIteration")->E (.ref e) {s with heap:=h'}) :
  cx (model prog w) A (ph.«zip.__next__» ⟨[.ref z],[]⟩) Q E s:=by
 have a:=hz;unfold mY at a;show cx _ _ (field (.ref z) 2 >>= _) _ _ _;refine ae (iJ a rfl (x:=.bool false) rfl ?_);show cx _ _ (field (.ref z) 3 >>= _) _ _ _;refine ae (iJ a rfl (x:=.ref TI) rfl ?_);refine ae (jr f rfl ?_);show cx _ _ (eo (.ref z) >>= _) _ _ _;refine ae (kBE hz l λ n C h v=>?_);have d:S1 n1 n:=g.frame _ _ _ h1 λ b D o e=>h b o (λ q=>p.z1 (q ▸ D)) e;rw[if_neg (by decide)];dsimp only;refine ae ?_;simp only[EL,Bm,Ac];refine ae (ae (fq ?_));show cx _ _ (ft (.ref i1) >>= _) _ _ _;exact ae (g.done _ _ _ d λ B e m r=>y B e (λ c o u i q=>m _ _ i (h c o u q)) r)
end
def Zst(h:iD)(a b z TI TO c d:ay)(i:Nat):Prop :=
 ((An h z TI TO .none/\∃ u v,qj h TO u v)\/∃ T f,mY h z TI TO T f/\∃ o,h.get? T=some o)/\qj h TI (.ref c) (.ref d)/\ItOf false h c a i/\ItOf true h d b i
section
variable {prog:eU} {w:gk} {A:fb} {E:ao->av->Prop} {s:av} {a b z TI TO i1 i2:ay} {j:Nat} {xs ys:Array ao}
def kJY{Q:Option ao->av->Prop}(hh:A.handled=none)(h:ZAp z TI TO i1 i2 [i1,a] [i2,b])(st:Zst s.heap a b z TI TO i1 i2 j)(p1:SqOf false s.heap a xs)(p2:SqOf true s.heap b ys){u v:ao}(J:xs[j]?=some u)(L:ys[j]?=some v)
  (U:∀ h' tk,Zst h' a b z TI TO i1 i2 (j+1)->qj h' s.heap.objs.size u v->(∀ c o,c∉[z,TO,i1,i2]->s.heap.get? c=some o->h'.get? c=some o)->Q (some (.ref s.heap.objs.size)) {s with heap:=h',toks:=tk}) :
  cx (model prog w) A (pyNext (.ref z)) Q E s:=by
 obtain⟨st,l,h1,D⟩:=st;have O:=xY (prog:=prog) (w:=w) (A:=A.in1) hh false i1 a (aT p1 h1) xs;have D2:=xY (prog:=prog) (w:=w) (A:=A.in1) hh true i2 b (aT p2 D) ys;have l1:j<xs.size:=(Bz.mp J).1;have M:j<ys.size:=(Bz.mp L).1
 have S:∀{c:ay},c∉[z,TO,i1,i2]->c≠z/\c≠TO/\c≠i1/\c≠i2:=λ{c} q=>by
  simp only[cy,gj,or_false,not_or]at q;exact q
 unfold pyNext;rcases st with⟨n,u0,v0,G⟩ | ⟨T,f1,n,p⟩
 ·have p:s.TypeIs (.ref z) "zip":=⟨_,n,rfl⟩
  refine ae (mm (iO (name:=gw "__next__") p jt (je jt p xa
   (mZ O D2 h n l G ⟨h1,p1⟩ ⟨D,p2⟩ l1 M λ u' v' h' tk d f y o' g i x m=>az ?_) (we _))))
  rw[J]at d;rw[L]at f
  cases d
  cases f
  refine U h' tk ⟨.inr ⟨_,false,y,_,x⟩,m _ _ h.zTI.symm h.TITO h.TIi1 h.TIi2 l,g.1,i.1⟩ x λ c o B e=>?_;obtain⟨H,Z,I,C⟩:=S B;exact m c o H Z I C e
 ·have r:s.TypeIs (.ref z) "zip":=⟨_,n,rfl⟩
  refine ae (mm (iO (name:=gw "__next__") r jt (je jt r xa
   (kCK O D2 h n p l ⟨h1,p1⟩ ⟨D,p2⟩ l1 M λ u' v' h' tk d f y g i x m=>az ?_) (we _))))
  rw[J]at d;rw[L]at f
  cases d
  cases f
  obtain⟨o,ho⟩:=p;refine U h' tk ⟨?_,m _ _ h.zTI.symm h.TIi1 h.TIi2 l,g.1,i.1⟩ x λ c o B e=>?_
  ·refine .inr ⟨T,true,y,?_⟩
   by_cases X:T=z
   ·exact⟨_,by rw[X];exact y⟩
   ·by_cases N:T=i1
    ·obtain⟨o,e,_⟩:=g.1.live
     exact⟨o,N ▸ e⟩
    ·by_cases Y:T=i2
     ·obtain⟨o,e,_⟩:=i.1.live
      exact⟨o,Y ▸ e⟩
     ·exact⟨o,m T o X N Y ho⟩
  ·obtain⟨H,Z,I,C⟩:=S B
   exact m c o H I C e
def kOL{Q:Option ao->av->Prop}(H:A.handled=none)(D:ZAp z TI TO i1 i2 [i1,a] [i2,b])(st:Zst s.heap a b z TI TO i1 i2 xs.size)(p1:SqOf false s.heap a xs)
  (C:∀ h',(∀ c o,c∉[z,TO,i1,i2]->s.heap.get? c=some o->h'.get? c=some o)->Q none {s with heap:=h'}) :
  cx (model prog w) A (pyNext (.ref z)) Q E s:=by
 obtain⟨st,h,h1,L⟩:=st;have x:=xY (prog:=prog) (w:=w) (A:=A.in1) H false i1 a (aT p1 h1) xs
 have y:∀{c:ay},c∉[z,TO,i1,i2]->c≠z/\c≠TO/\c≠i1/\c≠i2:=λ{c} q=>by
  simp only[cy,gj,or_false,not_or]at q;exact q
 unfold pyNext;rcases st with⟨f,M,J,p⟩ | ⟨T,I,f,i⟩
 ·have i:s.TypeIs (.ref z) "zip":=⟨_,f,rfl⟩
  refine ae (mm (iO (name:=gw "__next__") i jt (je jt i xa
   (kJZ x D f h p ⟨h1,p1⟩ λ h' e n u=>?_) (we _))))
  obtain⟨o,m,d⟩:=u;refine ae (oz (T:="StopIteration") (b:=true) ⟨o,m,d⟩ Dh (az (C h' λ c o l e=>?_)));obtain⟨r,G,v,B⟩:=y l;exact n c o r G v B e
 ·have g:s.TypeIs (.ref z) "zip":=⟨_,f,rfl⟩
  refine ae (mm (iO (name:=gw "__next__") g jt (je jt g xa
   (zipD_end2 x D f i h ⟨h1,p1⟩ λ h' e n u=>?_) (we _))))
  obtain⟨o,m,d⟩:=u;refine ae (oz (T:="StopIteration") (b:=true) ⟨o,m,d⟩ Dh (az (C h' λ c o l e=>?_)));obtain⟨r,G,v,B⟩:=y l;exact n c o r v e
end
section
variable {X:Cx} {pins:List (ay×Obj)} {σ:L2.St} {A:fb} {R:Ew->av->Prop}
def kEL(hh:A.handled=none){a b D z TI TO g h:ay}{H:Hp}{d:List (Key×V)}(ap:ZAp z TI TO g h [g,a] [h,b])(Y:H a=some (.tup (d.map λ p=>kV p.1)))(hb:H b=some (.lst (d.map λ p=>p.2)))(nD:H D=none)(a8:d.length<=1000)
  (fp:∀ kvs,∀ c∈[z,TO,g,h],yN X pins (upd H D (.dK kvs)) c) (B:∀ c∈[z,TO,g,h,TI],c≠D) :
  ∀(m i:Nat)(s:av),i+m=d.length->L2.Inv X pins σ (upd H D (.dK (qL (d.take i)))) s->Zst s.heap a b z TI TO g h i->(∀ s',L2.Inv X pins σ (upd H D (.dK (qL d))) s'->R (.ok (.ret .none)) s') ->
   codeAny (model X.prog X.w) A (.builtin "dict.update.loop" ⟨[.ref D,.ref z,rawInt (i:Int),.none],[]⟩) R s:=by
 have L:a≠D:=kF Y nD;have a0:b≠D:=kF hb nD;intro m
 induction m with
 | zero =>
  intro i s a4 I st k;have ei:i=d.length:=by omega
  subst ei;rw[iW]at I;refine nh vC ?_;rw[sk jW];obtain⟨n,Z,p⟩:=I.sq (k:=false) (SqT.of (by rw[kK L];exact Y));have lr:=Z.length;rw[aj]at lr;unfold ph.«dict.update.loop» rawInt;dsimp only;refine ae (kOL (xs:=n.toArray) (show A.in1.handled=none from hh) ap (by rw[eR,<-lr];exact st) p λ M Q=>?_);have N:L2.Inv X pins σ (upd H D (.dK (qL d))) {s with heap:=M}:=I.turnedL (t':=s.toks) (ch:=[z,TO,g,h]) Q (fp _)
  dsimp only;unfold AA;refine ae (ae (m:=pure EC) (az (az (az ?_))));exact k _ N
 | succ m ih =>
  intro i s a4 I st k;refine nh vC ?_;rw[sk jW];obtain⟨n,Z,p⟩:=I.sq (k:=false) (SqT.of (by rw[kK L];exact Y));obtain⟨J,O,p2⟩:=I.sq (k:=true) (SqL.of (by rw[kK a0];exact hb));have U:=aa (l:=d) (i:=i) (by omega);generalize d[i]=f at *;obtain⟨u,hu,ru⟩:=Z.get (x:=kV f.1) (i:=i) (by rw[bh,U];rfl);obtain⟨v,hv,S⟩:=O.get (x:=f.2) (i:=i) (by rw[bh,U];rfl);unfold ph.«dict.update.loop» rawInt;dsimp only;refine ae (kJY (xs:=n.toArray) (ys:=J.toArray) (u:=u) (v:=v) (show A.in1.handled=none from hh) ap st p p2 (by simpa using hu) (by simpa using hv) λ M tk a7 G Q=>?_);have N:L2.Inv X pins σ (upd H D (.dK (qL (d.take i)))) {s with heap:=M,toks:=tk}:=I.turnedL (t':=tk) (ch:=[z,TO,g,h]) Q (fp _)
  dsimp only;refine ae (fq (ae (GE ?_)));unfold DC;refine ae (jz (T:="tuple") ⟨_,G,rfl⟩ ?_);rw[if_pos (by decide)];refine ae (jr G rfl (az ?_));show cx _ _ (holding [u,v] (dictSet D u v)) _ _ _;refine fq ?_;obtain⟨z0,hd,vs,C,dk⟩:=bQ N.hok (kB (H:=H) (a:=D) (o:=.dK (qL (d.take i))));refine BX (hsz:=by rw[<-C.length];exact z0) (uS ru) dk λ h2 r hs=>?_
  have a3:(xB (qL (d.take i)) f.1 f.2).length<=sizeLine:=by
   have h1:=qP (qL (d.take i)) f.1 f.2;have h2:=kBV (d.take i);have h3:(d.take i).length<=1000:=by rw[eJ];omega
   exact fz (show _<=1001 by omega) (by decide)
  have I2:=zA (t':=tk+1) N (by rw[kB];exact nj) hs (let ⟨q,_,_,hq,_⟩:=r;⟨q,hq⟩) (mE a3 hd (C.put f.1 S) r)
  have e2:upd (upd H D (.dK (qL (d.take i)))) D (.dK (xB (qL (d.take i)) f.1 f.2))=upd H D (.dK (qL (d.take (i+1)))):=by
   rw[jf,U];show _=upd H D (.dK (qL (d.take i++[f])));rw[aK]
   funext b
   unfold upd
   split<;>rfl
  rw[e2]at I2;refine az ⟨yf jW _,?_⟩;have kk:∀ c o,c≠D->M.get? c=some o->h2.get? c=some o:=λ c o nc e=>(hs.2 c nc).trans e;refine ih (i+1) _ (by omega) I2 ?_ k;obtain⟨a1,a6,a2,a5⟩:=a7;refine⟨?_,kk _ _ (B _ (by simp)) a6,a2.at λ o e=>kk _ _ (B _ (by simp)) e,a5.at λ o e=>kk _ _ (B _ (by simp)) e⟩;rcases a1 with⟨q1,x,y,q2⟩ | ⟨T,f1,q1,o,q2⟩
  ·exact .inl ⟨kk _ _ (B _ (by simp)) q1,x,y,kk _ _ (B _ (by simp)) q2⟩
  ·refine .inr ⟨T,f1,kk _ _ (B _ (by simp)) q1,?_⟩
   by_cases c:T=D
   ·subst c
    obtain⟨q,_,_,hq,_⟩:=r;exact⟨q,hq⟩
   ·exact⟨o,kk _ _ c q2⟩
def kNF(x:A.handled=none){E:ao->av->Prop}{s:av}{a b D z TI TO g h:ay}{H:Hp}{i:List (Key×V)}(L:ZAp z TI TO g h [g,a] [h,b])(G:H a=some (.tup (i.map λ p=>kV p.1)))(B:H b=some (.lst (i.map λ p=>p.2)))(T:H D=none)(l:i.length<=1000)
  (M:∀ kvs,∀ c∈[z,TO,g,h],yN X pins (upd H D (.dK kvs)) c) (O:∀ c∈[z,TO,g,h,TI],c≠D) (hz:An s.heap z TI TO .none) (d:∃ u v,qj s.heap TO u v) (m:qj s.heap TI (.ref g) (.ref h)) (h1:ItOf false s.heap g a 0) (C:ItOf true s.heap h b 0)
  (I:L2.Inv X pins σ (upd H D (.dK [])) s) (k:∀ s',L2.Inv X pins σ (upd H D (.dK (qL i))) s'->R (.ok (.ret .none)) s') :
  codeAny (model X.prog X.w) A (.call (.builtin "dict.__init__") ⟨[.ref D,.ref z],[]⟩) R s:=by
 obtain⟨Y,J,U,y,N⟩:=bQ I.hok (kB (H:=H) (a:=D) (o:=.dK []));have n:s.TypeIs (.ref D) "dict":=N.typeIs;have S:s.TypeIs (.ref z) "zip":=⟨_,hz,rfl⟩;refine wg jv.init.plain Eo (jv.init.check _ _ _ _ _ _ _ _ n (EK _ _) ?_);unfold ph.«dict.__init__»;refine ae ?_;unfold zv;refine ae (Ar n ?_);refine az (show cx _ _ (ow "dict.__init__" D (.ref z) [] .none) _ _ s from ?_);unfold ow;refine ae (jz S ?_);rw[if_pos (by decide)];refine ae (kMT hz (show A.in1.handled=none from x) λ q r f=>?_);rw[if_pos (by decide)];refine ae (uz (ae ?_));have Q:L2.Inv X pins σ (upd H D (.dK [])) {s with heap:=q,toks:=r}:=I.kept f
 refine Ck (s:={s with heap:=q,toks:=r}) (f _ _ hz) ?_
 refine az ⟨yf jW _,?_⟩;obtain⟨u,v,d⟩:=d;exact kEL x L G B T l M O i.length 0 _ (by omega) Q ⟨.inl ⟨f _ _ hz,u,v,f _ _ d⟩,f _ _ m,h1.at λ o e=>f _ _ e,C.at λ o e=>f _ _ e⟩ k
inductive kEZ(Q:VK)(vs:List V)(H1:Hp):Prop
 | mk:∀(a b:ay)(ps:List (Key×V)),(vs=[.ref a,.ref b])->H1 a=some (.tup (ps.map λ p=>kV p.1))->H1 b=some (.lst (ps.map λ p=>p.2))->ps.length<=1000->(∀ D,H1 D=none->Q (.ref D) (upd H1 D (.dK (qL ps))))->kEZ Q vs H1
def kRP(d:TA):TE:=λ c H Q=>d c H λ b a=>kEZ Q b a
end
section
variable {X:Cx}
def pe_dictZ{a b:iC}{ta:TA}{p p2 M d:Pos}(l:X.calm=true)(hg:Gl X "dict")(hm:X.mg "dict" = none)(T:Gl X "zip")(S:X.mg "zip" = none)(B:PA X [a,b] ta)(hs:starEach [a,b] X.env=[(false,eval a X.env),(false,eval b X.env)]:=by rfl)(n:starEach [b] X.env=[(false,eval b X.env)]:=by rfl)
  (J:starEach [.Call (.Name "zip" p2) [a,b] [] d] X.env=[(false,eval (.Call (.Name "zip" p2) [a,b] [] d) X.env)]:=by rfl):PE X (.Call (.Name "dict" p) [.Call (.Name "zip" p2) [a,b] [] d] [] M) (kRP ta):=by
 intro g s σ H Q I h;refine EO (yB I hg hm boot_dict (fu ?_ J rfl));refine Ai (EO (yB I T S boot_zip (fu (thn (B d g s σ H _ I h) λ us f ⟨vs,G,m,r1,q1⟩=>?_) (by rw[hs,n]) (by rw[n];rfl))));obtain⟨l1,l2,ps,rfl,B,hb,C,q⟩:=q1;obtain⟨u,v,rfl,r,r'⟩:=nJ r1;cases r
 cases r'
 obtain⟨a1,a3,p1⟩:=m.sq (k:=false) (SqT.of B);obtain⟨a0,a2,p2⟩:=m.sq (k:=true) (SqL.of hb);have U:=p1.lt;have N:=p2.lt;refine dL p1 p2 λ y Y O L h1 h2 hk=>?_;refine As ?_;have I2:L2.Inv X g σ G {f with heap:=y}:=m.kept (t':=f.toks) hk
 have zl:f.heap.objs.size+4<y.objs.size:=cn Y;have nD:G y.objs.size=none:=I2.hok.fresh (bg _)
 have Z:∀ c∈[f.heap.objs.size+4,f.heap.objs.size+3,f.heap.objs.size,f.heap.objs.size+1,f.heap.objs.size+2],f.heap.objs.size<=c/\c≠y.objs.size:=λ c l=>by
  simp only[cy,gj,or_false]at l;omega
 refine mO (Hf:=λ D=>upd G D (.dK (qL ps))) I2 (λ s2 I3 x=>?_) q
 exact kNF (E:=X.xe) (show X.A.in1.handled=none from m.ok.hd l) (zap _ _ _ U N) B hb nD C (λ a4 c l=>by
  obtain⟨g1,g2⟩:=Z c (cj [_] l);exact m.fpOk g1 (by rw[kK g2];exact m.hok.fresh g1)) (λ c l=>(Z c l).2) (x _ _ Y) ⟨_,_,x _ _ L⟩ (x _ _ O) (h1.at λ o e=>x _ _ e) (h2.at λ o e=>x _ _ e) I3 λ s' i=>⟨rfl,i⟩
end
end Dcl
namespace L2
open PySem PySem.Spec PyProof.Rows
section
variable {X:Cx} {tg:iC}
end
def lZ:entryFor table "dict_itemiterator.__iter__" = some ph.«dict_keyiterator.__iter__»:=by first | (rw[<-F.entry_dict_keyiterator_iter];rfl) | kernel_rfl | rfl | decide +kernel
section
variable {prog:eU} {w:gk} {A:fb} {E:ao->av->Prop} {s:av}
def mX{it d:ay}{i n ep:Nat}{ok ov:ao}{Q:ao->av->Prop}(b:IsItemIter s.heap it d i n ep ok ov)(h:Q (.ref it) s):cx (model prog w) A (pyIter (.ref it)) Q E s:=by
 have a:s.TypeIs (.ref it) "dict_itemiterator":=⟨_,b,rfl⟩;refine wpAny_pyIter_slot a BI (je BI a lZ ?_ (F.args_dict_itemiterator_iter_1 _));show cx _ _ (ret (.ref it)) _ _ s;exact az ⟨_,rfl,"dict_itemiterator",_,a,F.slot_dict_itemiterator_next.lookup,h⟩
end
def kNA{P:eU}{w:gk}{k:Key}{u:ao}(h:(kX P w).is k u=true):RelV (kV k) u:=by
 rw[kEA]at h;rcases qU h with⟨i,t,rfl,rfl⟩ | ⟨x,t,rfl,rfl⟩
 ·exact⟨t,rfl⟩
 ·exact⟨t,rfl⟩
def Itm(d:ay)(o:Obj):It :=
 ⟨λ i H=>∃ a b,H d=some (.frz o (.dK a))/\a[i]?=some b,λ i H v c=>∃ T b,H T=none/\v=.ref T/\(∀ a,H d=some (.frz o (.dK a))->a[i]?=some b)/\c=upd H T (.tup [kV b.1,b.2]),λ i H=>∃ a,H d=some (.frz o (.dK a))/\a.length=i⟩
def kEH{P:eU}{w:gk}{H:Hp}{h:iD}{d:ay}{o:Obj}{b:Array Ce}{ep:Nat}{kvs:List (Key×V)}(ok:HOk P w H h)(e:H d=some (.frz o (.dK kvs)))(i:o.data=.dict b ep):∃ vs,KV kvs vs/\h.DictAt (kX P w) d vs ep/\vs.length=b.size:=by
 obtain⟨f,_,_,vs,c,n,l,m,g,x,a,k,p,nd⟩:=ok d _ e;rw[f]at g;cases g
 rw[i]at a;injection a with z1 z2
 subst z1;subst z2;exact⟨vs,c,⟨o,b,f,x,i,k,p,nd⟩,by rw[<-p.length];simp⟩
def KV.at'{kvs:List (Key×V)}{c:List (Key×ao)}(r:KV kvs c){i:Nat}{b:Key×V}{p:Key×ao}(h1:kvs[i]?=some b)(a:c[i]?=some p):b.1=p.1/\RelV b.2 p.2:=by
 induction r generalizing i with
 | nil=>simp at h1
 | cons h t ih =>
  cases i with
  | zero =>
   simp at h1 a;subst h1;subst a;exact h
  | succ i=>exact ih (by simpa using h1) (by simpa using a)
def kCR{P:eU}{w:gk}{K:bb}{r:List iC} {x1} {Q:Pos} (d it:ay) (o:Obj) {es:Array Ce} {ep:Nat} (hd:o.data=.dict es ep):Turn P w K (.Tuple r x1 Q) (Itm d o) [it] it (λ i h=>∃ ok ov,IsItemIter h it d i es.size ep ok ov) where
 mem:=by simp
 obj:=λ i h st b c=>by
  obtain⟨ok,ov,a⟩:=st;rw[de.mp c];exact⟨_,a,λ v z=>by cases z⟩
 keep:=λ i h h' st kk=>by
  obtain⟨ok,ov,a⟩:=st;exact⟨ok,ov,kk it (by simp) _ a⟩
 item:=by
  intro X S N M hc i m s σ H E I Y st hg;subst S N M;obtain⟨ok,ov,a⟩:=st;obtain⟨B,J,D,Z⟩:=hg;obtain⟨O,f,T,G⟩:=kEH I.hok D hd;have hi:i<B.length:=(au.mp Z).1;obtain⟨⟨k',u⟩,hu⟩ : ∃ p,O[i]?=some p:=⟨O[i]'(by rw[<-f.length];exact hi),aa _⟩;have g:=f.at' Z hu;rw[<-G]at a;refine wpAny_pyNext_items_item a T hu λ key h' A ho hT hz hk=>?_;refine⟨_,rfl,wpAny_letOwnedTupleGo_items ho λ h2 L l=>?_⟩;have n:it<s.heap.objs.size:=cn a;have U:h2.get? s.heap.objs.size=some {cls:=.type "tuple",data:=.seq #[key,u]}:=l.extBut _ _ (jb n) hT
  obtain⟨I2,n2⟩:=I.handed (x:=kV J.1) (y:=J.2) (u:=key) (v:=u) (t':=s.toks) (ch:=[it]) (by rw[g.1];exact kNA A) g.2 U (λ b o c q=>l.extBut b o (λ z=>c (by simp[z])) (hk b o (λ z=>c (by simp[z])) q)) Y
   (λ b c=>by rw[de.mp c];exact n)
  refine⟨.ref s.heap.objs.size,_,I2,rfl,⟨_,J,I.hok.fresh (bg _),rfl,λ ks C=>?_,rfl⟩,⟨_,_,by rw[<-G];exact L⟩,n2⟩;rw[D]at C;cases C
  exact Z
 done:=by
  intro X S N M hc i m s σ H E I Y st hg;subst S N M;obtain⟨ok,ov,a⟩:=st;obtain⟨B,D,hl⟩:=hg;obtain⟨O,f,T,G⟩:=kEH I.hok D hd;rw[<-G]at a;refine wpAny_pyNext_items_end (I.ok.hd hc) a T (iZ (by rw[<-f.length,hl];exact bg _)) λ h' eb=>⟨rfl,I.turnedL (t':=s.toks) (ch:=[it]) (λ b o c q=>eb b o (λ z=>c (by simp[z])) q) λ b c=>Y b c⟩
 self:=λ _ _ _ _ _ st h=>by
  obtain⟨ok,ov,a⟩:=st;exact mX a h
section
variable {X:Cx}
inductive kGW(R:It->Hp->Prop)(x:V)(H1:Hp):Prop
 | mk:∀ d kvs,(x=.ref d)->(((H1 d=some (.dK kvs)/\∀ o,R (Itm d o) (upd H1 d (.frz o (.dK kvs))))\/∃ o,H1 d=some (.frz o (.dK kvs))/\R (Itm d o) H1))->kGW R x H1
def kTK(a:TE):TI:=λ c H R=>a c H λ x b=>kGW R x b
def kAS{o:iC}{U:TE}{i f J:Pos}{L:List iC} {x1} (ho:PE X o U)
  (n:attributeBase o "items" X.env (eval o X.env)=eval o X.env:=by rfl) (m:(i.endLine == f.line)=true:=by rfl):PI X (.Tuple L x1 J) (.Call (.Attribute o "items" i) [] [] f) (kTK U):=by
 intro g s Y H R I h;refine wpAny_Call_method0_late n m (thn (ho g s Y H _ I h) λ v c ⟨x,H1,Q,r1,d,p,ex,q1⟩=>?_);subst ex;obtain rfl:v=iM d:=r1
 have fr:∃ a B,Inv X g Y B c/\B d=some (.frz a (.dK p))/\R (Itm d a) B:=by
  rcases q1 with⟨e,q⟩ | ⟨a,e,q⟩
  ·obtain⟨z,S,C,A,y⟩:=bQ Q.hok e
   obtain⟨a,es,M,h1,r⟩:=id y;exact⟨a,_,zA (t':=c.toks) (ob:=.frz a (.dK p)) Q (by rw[e];exact nj) ⟨rfl,λ _ _=>rfl⟩ ⟨a,h1⟩ ⟨h1,z,S,C,A,y⟩,kB,q a⟩
  ·exact⟨a,H1,Q,e,q⟩
 obtain⟨a,B,D,e2,hR⟩:=fr;obtain⟨h1,z,S,a1,Z,N⟩:=D.hok d _ e2;obtain⟨a0,es,M,G,O,l,_⟩:=id N;rw[h1]at G
 cases G
 obtain⟨C,A,y,lv⟩:=kEH D.hok e2 l;have T:=y.dictOf.typeIs (s:=c);refine⟨"dict","dict.items",F.plainAttrs_dict,Ep,F.type_dict_items,T,λ b q=>?_,?_⟩
 ·cases q
  exact⟨a,h1,O.2.1⟩
 refine xp rfl (PySem.evalArgs_none (BZ Ep T F.entry_dict_items (F.args_dict_items_1 _) (meets_dict_items (kX X.prog X.w) d S) ⟨⟨C,y.dictOf⟩,?_⟩));refine wpAny_pyIter_items (knd:=kX X.prog X.w) (v:=c.heap.objs.size) (d:=d) (kvs:=C) (ep:=M) ⟨_,cg _ rfl,rfl,rfl⟩ (y.push _) ?_;have hk:∀ b u,c.heap.get? b=some u->((c.heap.push {cls:=.type "dict_items",data:=.fields #[.ref d]}).push {cls:=.type "dict_itemiterator",data:=.fields #[.none,.bool false,.ref d,.int 0 0,.int C.length 0,.int M 0,.none,.none]}).get? b=some u:=λ b u e=>ar _ (ar _ e);have hz:(c.heap.push {cls:=.type "dict_items",data:=.fields #[.ref d]}).objs.size=c.heap.objs.size+1:=jq ..;refine⟨_,[(c.heap.push {cls:=.type "dict_items",data:=.fields #[.ref d]}).objs.size],_,_,B,rfl,D.kept (t':=c.toks) hk,kCR d _ a l,⟨.none,.none,?_⟩,λ b hb=>?_,hR⟩
 ·rw[<-lv]
  exact cg _ rfl
 ·rw[de.mp hb,hz]
  exact D.fpOk (by omega) (D.hok.fresh (by omega))
end
def kCO{d:ay}{o:Obj}{kvs:List (Key×V)}{g:TG}{h:TB}{f:St->Hp->Prop}{a:St}{H:Hp}(Pv:Nat->St->Hp->Prop)(h0:Pv 0 a H)(u:∀ i a H,i<=kvs.length->Pv i a H->H d=some (.frz o (.dK kvs)))
  (y:∀ i kv T a H,kvs[i]?=some kv->H T=none->Pv i a H->g (.ref T) a (upd H T (.tup [kV kv.1,kv.2])) λ σ2 H2=>h (Pv (i+1)) σ2 H2) (B:∀ a H,Pv kvs.length a H->f a H):vP (Itm d o) g h f a H:=by
 refine⟨λ i m a H=>m=kvs.length-i/\i<=kvs.length/\Pv i a H,⟨kvs.length,by simp,fj _,h0⟩,?_⟩;rintro i m a H ⟨rfl,c,p⟩;have b:=u i a H c p;by_cases l:i<kvs.length
 ·refine .inr ⟨⟨kvs,kvs[i],b,by simp[l]⟩,Pv (i+1),λ n s q=>⟨kvs.length-(i+1),by omega,rfl,by omega,q⟩,λ x s r=>?_⟩
  obtain⟨T,kv,A,rfl,v,rfl⟩:=r;exact y i kv T a H (v kvs b) A p
 ·have:i=kvs.length:=by omega
  subst this;exact .inl ⟨⟨kvs,b,rfl⟩,B a H p⟩
def kJJ{d:ay}{o:Obj}{kvs:List (Key×V)}{g:TG}{f:TS}{D:Ends}{a:St}{H:Hp}(Pv:Nat->St->Hp->Prop)(h0:Pv 0 a H)(l:∀ i a H,i<=kvs.length->Pv i a H->H d=some (.frz o (.dK kvs)))
  (h:∀ i kv T a H,kvs[i]?=some kv->H T=none->Pv i a H->g (.ref T) a (upd H T (.tup [kV kv.1,kv.2])) λ σ2 H2=>f {D with nx:=Pv (i+1),ct:=Pv (i+1),bk:=D.nx} σ2 H2) (v:∀ a H,Pv kvs.length a H->D.nx a H) :
  ∃ W:Nat->Nat->St->Hp->Prop,(∃ m,W 0 m a H)/\∀ i m a H,W i m a H ->
   ((Itm d o).stop i H/\D.nx a H)\/((Itm d o).go i H/\∃ N:St->Hp->Prop,(∀ σ' H',N σ' H'->∃ m',m'<m/\W (i+1) m' σ' H')/\∀ x H',(Itm d o).yld i H x H'->g x a H' λ σ2 H2=>f {D with nx:=N,ct:=N,bk:=D.nx} σ2 H2):=by
 refine⟨λ i m a H=>m=kvs.length-i/\i<=kvs.length/\Pv i a H,⟨kvs.length,by simp,fj _,h0⟩,?_⟩;rintro i m a H ⟨rfl,c,p⟩;have b:=l i a H c p;by_cases r:i<kvs.length
 ·refine .inr ⟨⟨kvs,kvs[i],b,by simp[r]⟩,Pv (i+1),λ σ' H' q=>⟨kvs.length-(i+1),by omega,rfl,by omega,q⟩,λ x H' u=>?_⟩
  obtain⟨T,kv,s,rfl,n,rfl⟩:=u;exact h i kv T a H (n kvs b) s p
 ·have:i=kvs.length:=by omega
  subst this;exact .inl ⟨⟨kvs,b,rfl⟩,v a H p⟩
end L2
namespace HT
open PySem PySem.Spec PyProof.Rows
open AutoSeq1 (wpAny_loadPart')
def kLW:typeLookup (.type "list_reverseiterator") "__len__" = pure none:=by rw[AG,vd];kernel_rfl
def rl_hints:Slot "list_reverseiterator" "__length_hint__" "list_reverseiterator.__length_hint__":=.of (owner:="list_reverseiterator") (n:="__length_hint__") (by rw[AG,vd];kernel_rfl) (by decide +kernel) (by decide +kernel) (by decide +kernel) (by first | exact .inl (by decide +kernel) | exact .inr (by decide +kernel)) (by rw[yr];kernel_rfl)
section
variable {prog:eU} {w:gk} {A:fb} {E:ao->av->Prop} {s:av}
def kOX{I t:ay}{i:Int}{Q:Bool->av->Prop}(c:s.heap.IsRevIter I t i)
  (h:∀ b tk,s.toks<=tk->Q b {s with toks:=tk}):cx (model prog w) A (Bb (.ref I)) Q E s:=by
 unfold Bb;refine ae (AC c.typeIs kLW ?_);show cx _ A (specialOf (iM I) (gw "__length_hint__") >>= λ f=>_) _ _ _;refine ae (AC c.typeIs rl_hints.lookup ?_);generalize d:("list_reverseiterator.__length_hint__" : String)=g
 wp_delta
 rw[show splitId g=some ("list_reverseiterator","__length_hint__") from by subst d;decide +kernel];subst d;refine ae (oz (b:=true) c.typeIs (by rw[yr];kernel_rfl) ?_);refine BS (λ a=>absurd a (by decide)) (λ _=>BS (λ _=>BS (λ a=>absurd a (by decide +kernel)) λ _=>az (h _ s.toks (bg _))) λ a=>absurd (by decide +kernel) a)
def kDG{I t:ay}{items:Array ao}{Q:List ao->av->Prop}(hh:A.handled=none)(C:s.heap.IsRevIter I t ((items.size:Int)-1))(Y:s.heap.IsList t items)(S:t≠I)(hz:items.size<2 ^ 24)
  (hQ:∀ h' tk acc,(∀ b o,b≠I->s.heap.get? b=some o->h'.get? b=some o)->FX (λ i v=>items[items.size-1-i]?=some v) acc items.size->Q acc.toList {s with heap:=h',toks:=tk}):cx (model prog w) A (collect (.ref I)) Q E s:=by
 have W:=(Walks.listRev (prog:=prog) (w:=w) (A:=A.in1) hh I t S items).toS;have m:s.heap.objs.size≠I:=let ⟨_,a,_⟩:=C;(df (cn a)).symm;have x:s.heap.objs.size≠t:=let ⟨_,a,_⟩:=Y;(df (cn a)).symm;have M:s.heap.objs.size∉[I,t]:=λ L=>(cy.mp L).elim m λ e=>x (de.mp e);unfold collect;refine ae (Df (nh F.entry_proto_collect ?_));rw[sk F.plain_proto_collect _];show cx _ A.in1 (newList [] >>= λ l=>again (.builtin "list.__iadd__" ⟨[l,.ref I],[]⟩)) _ _ s;refine ae (iQ (az ⟨yf Er _,nh F.entry_list_iadd ?_⟩));rw[sk Er _];have keep:∀ b o,s.heap.get? b=some o->(s.heap.push {cls:=.type "list",data:=.seq ([]:List ao).toArray}).get? b=some o:=λ b o e=>ar _ e;have d:(s.heap.push {cls:=.type "list",data:=.seq ([]:List ao).toArray}).IsRevIter I t ((items.size:Int)-1):=let ⟨o,a,b⟩:=C;⟨o,keep _ _ a,b⟩;have H:(s.heap.push {cls:=.type "list",data:=.seq ([]:List ao).toArray}).IsList t items:=let ⟨o,a,b⟩:=Y;⟨o,keep _ _ a,b⟩;have g:(s.heap.push {cls:=.type "list",data:=.seq ([]:List ao).toArray}).get? s.heap.objs.size=some {cls:=.type "list",data:=.seq ([]:List ao).toArray}:=cg _ rfl;have same:CY (.ref s.heap.objs.size) (.ref I)=false:=by simp[CY,m]
 have a3:s.heap.objs.size<(s.heap.push {cls:=.type "list",data:=.seq ([]:List ao).toArray}).objs.size:=cn g;generalize s.heap.push {cls:=.type "list",data:=.seq ([]:List ao).toArray}=G at *;have Z:ui {s with heap:=G} (.ref I) "list_reverseiterator":=HD (s:={s with heap:=G}) d
 have key:∀(h:iD)(c tk:Nat),h.IsRevIter I t ((items.size:Int)-1)->h.IsList t items->(∀ b o,b≠s.heap.objs.size->G.get? b=some o->h.get? b=some o)->h.get? s.heap.objs.size=some {cls:=.type "list",data:=.seq #[] c} ->
   codeAny (model prog w) A (.builtin "list.extend.loop" ⟨[.ref s.heap.objs.size,.ref I,.ref s.heap.objs.size],[]⟩) (λ r n=>match r with | .ok (.ret v)=>cx (model prog w) A (match v with | .ref a=>(load a >>= λ o=>match o.data with | .seq xs _=>pure xs.toList | _=>unsupported "internal:collect") | _=>unsupported "internal:collect") Q E n | _=>False) {s with heap:=h,toks:=tk}:=by
  intro h c tk a1 a2 hk p;have a0:h.IsRevIter I t ((items.size:Int)-1-((0:Nat):Int)):=by simpa using a1
  refine codeAny_extend_loopS W (by rw[AO];omega) _ M _ items.size 0 _ #[] c rfl (fj _) ⟨fj _,a0,a2⟩ p (ItemsOf.nil _) λ n B c' L T u=>?_;show cx _ A (load s.heap.objs.size >>= λ o=>_) _ _ n;refine ae (Fe T (az ?_));have e:=Moved.eq_with L;rw[e];refine hQ n.heap n.toks B (λ b o J X=>?_) u;have U:b≠s.heap.objs.size:=df (cn X);refine L.heap b o (λ y=>?_) (hk b o U (keep b o X));rcases cy.mp y with z | z
  ·exact U z
  ·exact J (de.mp z)
 show cx _ A.in1 (ue (.ref s.heap.objs.size) (.ref I) (.ref s.heap.objs.size)) _ _ _;unfold ue;refine ae (jz Z ?_);rw[if_neg (by rw[same];decide)];refine ae (wpAny_pyIter_revIter (s:={s with heap:=G}) d (ae (fq (kOX (s:={s with heap:=G}) d λ b tk a4=>?_))))
 refine BS (λ _=>?_) (λ _=>az ⟨yf Dq _,?_⟩)
 ·refine ae (uz (ae ?_))
  show cx _ _ (updateSeq s.heap.objs.size (·.push .none) >>= λ _=>updateSeq s.heap.objs.size (·.pop)) _ _ _;refine ae (FU g rfl ?_);have D:=lj (qh (·.push xh)) g rfl;refine FU (hz:=by seq_fits) D rfl ?_;have O:=lj (qh (·.pop)) D rfl;refine az ⟨yf Dq _,?_⟩;have N:∀ b o,b≠s.heap.objs.size->G.get? b=some o->((G.update s.heap.objs.size (qh (·.push xh))).update s.heap.objs.size (qh (·.pop))).get? b=some o:=λ b o J e=>(xm _ _ (qe J)).trans ((xm _ _ (qe J)).trans e);refine qz (key _ _ tk ?_ ?_ N O) λ r n q=>?_
  ·obtain⟨o,a,b⟩:=d
   exact⟨o,N _ _ (qe m) a,b⟩
  ·obtain⟨o,a,b⟩:=H
   exact⟨o,N _ _ (qe x) a,b⟩
  ·rcases r with e | f
   ·exact q.elim
   ·cases f<;>first | exact q | exact q.elim
 ·refine qz (key G _ tk d H (λ b o _ e=>e) g) λ r n q=>?_
  rcases r with e | f
  ·exact q.elim
  ·cases f<;>first | exact q | exact q.elim
end
def rP(r t:ay)(items:Array ao)(n:t≠r)(hz:items.size<2 ^ 24) :
  Hc (ph.«tuple.__new__» ⟨[.type "tuple",.ref r],[]⟩)
   (λ A R s=>A.handled=none/\s.heap.IsRevIter r t ((items.size:Int)-1)/\s.heap.IsList t items/\∀(h':iD)(tk:Tok)(c:Array ao),(∀ b o',b≠r->s.heap.get? b=some o'->h'.get? b=some o')->FX (λ i v=>items[items.size-1-i]?=some v) c items.size->R (.ok (.ret (.ref h'.objs.size))) {s with heap:=h'.push {cls:=.type "tuple",data:=.seq c},toks:=tk}) :=
 .of_wp λ u w A R s h=>by
  obtain⟨hp,g,d,tk,os⟩:=s;obtain⟨C,m,H,h⟩:=h;have q:=sub_tuple_self;have l:=init_tuple_lookup;have D:=madeHere_tuple;have y:ui ⟨hp,g,d,tk,os⟩ (.ref r) "list_reverseiterator":=let ⟨o,a,b,_⟩:=m;⟨o,a,b⟩;have p:A.in1.handled=none:=C;obtain⟨o,x,I,J⟩:=id m
  wp_walk using yb x,jz y,kDG p m H n hz
  intro h' G c B f;have sz:c.size<=sizeLine:=by rw[f.1,AO];omega
  show cx _ _ (me c.toList.toArray >>= λ v=>ret v) _ _ _;unfold me;refine ae (iQ ?_ (by show c.toList.toArray.size<=sizeLine;simpa using sz));refine az ⟨_,rfl,?_⟩;have e:c.toList.toArray=c:=by simp
  rw[e];exact h h' _ c B f
section
variable {prog:eU} {w:gk} {A:fb} {E:ao->av->Prop} {s:av}
def rl_tuple{r t:ay}{items:Array ao}{Q:ao->av->Prop}(c:t≠r)(hz:items.size<2 ^ 24)(m:A.handled=none)(d:s.heap.IsRevIter r t ((items.size:Int)-1))(l:s.heap.IsList t items)
  (h:∀(h':iD)(tk:Tok)(a:Array ao),(∀ b o',b≠r->s.heap.get? b=some o'->h'.get? b=some o')->FX (λ i v=>items[items.size-1-i]?=some v) a items.size->Q (.ref h'.objs.size) {s with heap:=h'.push {cls:=.type "tuple",data:=.seq a},toks:=tk}) :
  cx (model prog w) A (call (.type "tuple") [.ref r]) Q E s :=
 Ea F.called_tuple (by decide) (F.typeCall_tuple_1 _) (F.newCall_tuple_1 _) (λ obj=>DZ obj _) F.entry_tuple_new (rP r t items c hz) ⟨m,d,l,λ h' tk a g f=>⟨⟨_,cg _ rfl,rfl⟩,h h' tk a g f⟩⟩
end
end HT
namespace L2
open PySem PySem.Spec PyProof.Rows
section
variable {X:Cx}
inductive kQN(K:bb)(Q:VK)(vs:List V)(H1:Hp):Prop
 | mk:∀(p:ay)(xs:List V),(vs=[.ref p])->(SqL K H1 p xs)->(xs.length<=1000)->(∀ l,H1 l=none->Q (.ref l) (upd H1 l (.tup xs.reverse)))->kQN K Q vs H1
def kVU(K:bb)(d:TA):TE:=λ c H Q=>d c H λ b a=>kQN K Q b a
def kHS{xs:List V}{a:List ao}(h:Vals xs a){b:Array ao}(f:FX (λ i v=>a.toArray[a.toArray.size-1-i]?=some v) b a.toArray.size):Vals xs.reverse b.toList:=by
 have e:b.toList=a.reverse:=by
  refine Ag λ j=>?_;obtain⟨h1,g⟩:=f;have h1:b.size=a.length:=by rw[h1,eR]
  rcases iA j a.length with c | c
  ·have d:j<b.size:=by omega
   have:=g j b[j] (by simp[d]);rw[Ap c];simp at this;simp[d,this]
  ·rw[iZ (by simp;omega),iZ (by simp;omega)]
 rw[e];exact h.reverse
def kSJ{a:iC}{N:TA}{p p2 y c:Pos}(T:X.calm=true)(hg:Gl X "tuple")(Z:X.mg "tuple" = none)(D:Gl X "reversed")(C:X.mg "reversed" = none)(ha:PA X [a] N)(hs:starEach [a] X.env=[(false,eval a X.env)]:=by rfl)
  (v:starEach [.Call (.Name "reversed" p2) [a] [] c] X.env=[(false,eval (.Call (.Name "reversed" p2) [a] [] c) X.env)]:=by rfl):PE X (.Call (.Name "tuple" p) [.Call (.Name "reversed" p2) [a] [] c] [] y) (kVU X.K N):=by
 intro f s x H Q I h;refine EO (yB I hg Z boot_tuple (fu ?_ v rfl));refine Ai (EO (yB I D C boot_reversed (fu (thn (ha c f s x H _ I h) λ us g ⟨vs,G,m,U,q1⟩=>?_) hs rfl)));obtain⟨p,M,rfl,hq,S,q⟩:=q1;obtain⟨u,rfl,rx⟩:=zD U;cases rx
 obtain⟨d,L,it,hz⟩:=m.list hq;have li:d.length<=1000:=by rw[<-L.length];exact S
 have n:d.toArray.size<2 ^ 24:=by rw[eR];omega
 have i:g.heap.IsList p d.toArray:=it.isList;refine call_reversed_list i ?_;refine As ?_;have A:∀ b o,g.heap.get? b=some o->(g.heap.push (revObj p ((d.toArray.size:Int)-1))).get? b=some o:=λ b o e=>ar _ e;have I2:Inv X f x G {g with heap:=g.heap.push (revObj p ((d.toArray.size:Int)-1))}:=m.kept (t':=g.toks) A
 have pr:p≠g.heap.objs.size:=let ⟨o,a,_⟩:=i;df (cn a);refine HT.rl_tuple (t:=p) (items:=d.toArray) pr n (m.ok.hd T) ⟨_,cg _ rfl,rfl,rfl⟩ (let ⟨o,a,b⟩:=i;⟨o,A _ _ a,b⟩) λ J B r Y l=>?_;have O:Inv X f x G {g with heap:=J,toks:=B}:=m.kept (t':=B) λ b o e=>Y b o (df (cn e)) (A b o e)
 have I4:=O.laid (t':=B) (o:=.tup M.reverse) (λ b o e=>ar _ e) (bg _) (show ObjOk X.prog X.w _ _ _ (.tup M.reverse) from⟨by rw[yp];exact fz S (by decide),r.toList,kHS L l,IsTupN.new _ _⟩);exact⟨.ref J.objs.size,_,I4,rfl,q _ (O.hok.fresh (bg _))⟩
inductive dP(xs:List V)(H:Hp)(Q:VK):Prop
 | mk:∀ d kvs,(xs=[.ref d])->Rd H d (.dK kvs)->kvs.length<=1000->(∀ l,H l=none->Q (.ref l) (upd H l (.lst (kvs.map λ kv=>kV kv.1))))->dP xs H Q
def kHT{P:eU}{w:gk}{kvs:List (Key×V)}{b:List (Key×ao)}(r:KV kvs b){l:List ao}(a:l.length=b.length)(h:∀(i:Nat)(v:ao),l[i]?=some v->∃ k x,b[i]?=some (k,x)/\(kX P w).is k v=true):Vals (kvs.map λ kv=>kV kv.1) l:=by
 induction r generalizing l with
 | nil =>
  rw[iq.mp a];exact .nil
 | cons hd tl ih =>
  match l,a with
  | x::l,a =>
   rw[eX];refine .cons ?_ (ih (by simpa using a) λ i v e=>?_)
   ·obtain⟨k,y,c,d⟩:=h 0 x rfl
    simp at c;rw[hd.1,c];exact kNA d
   ·have:=h (i+1) v (by simpa using e)
    simpa using this
def kEO(B:X.calm=true):xR X (.type "list") dP:=by
 intro A s Y H Z U Q I r h;obtain⟨d,g,rfl,C,n,q⟩:=h;obtain⟨u,rfl,S⟩:=zD r;cases S
 have f:∃ c m,(d == sysModules)=false/\KV g c/\s.heap.DictAt (kX X.prog X.w) d c m:=by
  rcases C with e | ⟨o,e⟩
  ·obtain⟨z,l,c,a,o,y,m,f⟩:=bQ I.hok e
   exact⟨c,m,l,a,o,y,f⟩
  ·obtain⟨h1,z,l,c,a,D,y,m,f⟩:=I.hok d _ e
   exact⟨c,m,l,a,D,y,f⟩
 obtain⟨c,m,l,a,f⟩:=f;have O:c.length<=1000:=by rw[<-a.length];exact n
 refine PySem.W.kdl_call (PySem.W.kdl_dict l) (I.ok.hd B) f (fz O (by decide)) λ T M x G J L b=>?_;have N:=I.laid (t':=M) (o:=.lst (g.map λ p=>kV p.1)) J (bg _) (show ObjOk X.prog X.w _ _ _ (.lst (g.map λ p=>kV p.1)) from⟨by rw[aj];exact fz n (by decide),x.toList,G,kHT a (by have:=b.1;simpa using this) (λ i v e=>b.2 i v (by simpa using e)),by simpa using L⟩);exact⟨.ref _,_,N,rfl,q _ (I.hok.fresh (bg _))⟩
end
def kKN(l m h iter g a:iC)(d b:List iC)(n:wq)(c:Pos)(it f:ao)(env:Env) :
  compTurn (.DictComp l m [⟨h,iter,d,0⟩,⟨g,a,b,0⟩] n c) 0 it f env=(standAt iter.pos >>= λ _=>pyNext it >>= λ r=>match r with
   | none=>pure (.done .next)
   | some v=>letOwnedTupleGo h it v >>= λ _=>assign h env v >>= λ _=>nQ d env a (λ i=>.compStart (.DictComp l m [⟨h,iter,d,0⟩,⟨g,a,b,0⟩] n c) 1 i f env) (.compLoop (.DictComp l m [⟨h,iter,d,0⟩,⟨g,a,b,0⟩] n c) 0 it f env)):=by rfl
def kKM(h i l iter c a:iC)(g b:List iC)(m:wq)(f:Pos)(it d:ao)(env:Env) :
  compTurn (.DictComp h i [⟨l,iter,g,0⟩,⟨c,a,b,0⟩] m f) 1 it d env=(standAt a.pos >>= λ _=>pyNext it >>= λ r=>match r with
   | none=>pure (.done .next)
   | some v=>letOwnedTupleGo c it v >>= λ _=>assign c env v >>= λ _=>xJ b env (dH h i env d) (.compLoop (.DictComp h i [⟨l,iter,g,0⟩,⟨c,a,b,0⟩] m f) 1 it d env)):=by rfl
section
variable {X:Cx} {tg iter kx vx tg2 iter2:iC} {ifs ifs2:List iC} {sc:wq} {pos:Pos} {Nc:List Str} {js:List (Option Nat)} {wi wi2:TI} {g g2:TG}
def kIM{D:ay}{m:TB}{L:HX}{e:iC}(G:e=.DictComp kx vx [⟨tg,iter,[],0⟩,⟨tg2,iter2,ifs2,0⟩] sc pos)(Q:X.xe=λ _ _=>False)(o:X.calm=true)(hi:PI X tg2 iter2 wi2)(S:PG X tg2 g2)
  (Y:∀ L,PTl X (xJ ifs2 X.env (dH kx vx X.env (.ref D)) L) L m) (O:∀ x,foldedSetIterable iter2 X.env x=pure x) :
  PTl X (nQ [] X.env iter2 (λ i=>.compStart e 1 i (.ref D) X.env) L) L (kHI wi2 g2 m):=by
 subst G;intro b s M H N I h;unfold nQ;refine ae (DJ ?_);show cx _ _ (eval iter2 X.env >>= _) _ _ s;refine ae (thn (hi b s M H _ I h) λ v Z h1=>?_);refine ae (yd (ae (xg (O v) (ae (fq (thn h1 λ p y u=>?_))))));obtain⟨it,fp,tn,J,H2,e,C,T,f,U,B⟩:=u;subst e;refine ae (wpAny_runOwn ?_)
 have c:codeAny (model X.prog X.w) X.A (.compLoop (.DictComp kx vx [⟨tg,iter,[],0⟩,⟨tg2,iter2,ifs2,0⟩] sc pos) 1 (.ref it) (.ref D) X.env)
   (λ r d=>match r with | .ok _=>cx (model X.prog X.w) X.A (again L) (λ l d=>l=.again L/\∃ a g,Inv X b a g d/\N a g) X.xe d | .error e=>cameBackBy (model X.prog X.w) X.A X.env X.xe e d) y :=
  xQ (.inr ⟨kx,vx,rfl⟩) Q o (kKM _ _ _ _ _ _ _ _ _ _ _ _ _) T S (Y _) C f U B λ a g d n q=>az ⟨rfl,a,g,n,q⟩
 exact jY (.inr ⟨kx,vx,rfl⟩) rfl rfl c (T.self _ _ _ _ _ f c)
def kPG{g:TG}{bd:ay->TB}(hx:X.xe=λ _ _=>False)(hc:X.calm=true)(hi:PI X tg iter wi)(S:CS sc X.env.scope)(a2:bS js Nc X.N sc.names=true)
  (hg:∀ C s₂ H₂ fp pins,PG (cxC X Nc sc C s₂ H₂ fp pins) tg g)
  (a7:∀ C s₂ H₂ fp pins,PI (cxC X Nc sc C s₂ H₂ fp pins) tg2 iter2 wi2) (a8:∀ C s₂ H₂ fp pins,PG (cxC X Nc sc C s₂ H₂ fp pins) tg2 g2)
  (m:∀ C s₂ H₂ fp pins D L,PTl (cxC X Nc sc C s₂ H₂ fp pins) (xJ ifs2 (cxC X Nc sc C s₂ H₂ fp pins).env (dH kx vx (cxC X Nc sc C s₂ H₂ fp pins).env (.ref D)) L) L (bd D))
  (hs:∀ x,foldedSetIterable iter X.env x=pure x:=by intro _;rfl) (a4:∀ C s₂ H₂ fp pins x,foldedSetIterable iter2 (cxC X Nc sc C s₂ H₂ fp pins).env x=pure x:=by intro _ _ _ _ _ _;rfl) :
  PE X (.DictComp kx vx [⟨tg,iter,[],0⟩,⟨tg2,iter2,ifs2,0⟩] sc pos) (tDC js wi g λ D=>kHI wi2 g2 (bd D)):=by
 intro pins s σ H Q I h;rw[CO];have a6:closureFor sc X.env=pure (uQ sc X.env):=yD λ y hy hf=>I.ok.has y.1 (.inl (S.free y hy hf));refine mh (use:=none) rfl hs a6 S.kind S.names (thn (hi pins s σ H _ I h) λ v s1 h1=>thn h1 λ ab d O=>?_);obtain⟨it,fp,tn,J,B,e,U,T,a1,f2,hw⟩:=O;subst e;have u:∀ b∈fp,b<d.heap.objs.size:=λ b m=>let ⟨o,ho,_⟩:=T.obj _ _ a1 b m;cn ho;refine iQ (se S.nocell (by intro y hy;simp at hy) (λ i f a=>?_) S.kind);dsimp only at f a ⊢;generalize r:d.heap.push {cls:=.type "dict",dict:=none,data:=.dict #[]}=G at f a ⊢;have a9:G.objs.size=d.heap.objs.size+1:=by rw[<-r,jq]
 have Z:d.heap.objs.size≠G.objs.size:=by omega
 have l:d.heap.objs.size<=G.objs.size:=by omega
 have Y:∀ b o,d.heap.get? b=some o->i.get? b=some o:=λ b o e=>a.extBut b o (df (dc (cn e) l)) (ar _ (r ▸ ar _ e));have M:i.get? d.heap.objs.size=some {cls:=.type "dict",dict:=none,data:=.dict #[]}:=a.extBut _ _ Z (ar _ (r ▸ cg _ rfl))
 have new:ObjOk X.prog X.w (upd B d.heap.objs.size (.dK [])) i d.heap.objs.size (.dK []):=by
  refine⟨fj _,beq_eq_false_iff_ne.mpr (qe (df U.big)),[],.nil,?_⟩;obtain⟨o,es,ep,h1,rest⟩:=DI (knd:=kX X.prog X.w) d.heap;have O:(d.heap.push {cls:=.type "dict",dict:=none,data:=.dict #[]}).get? d.heap.objs.size=some {cls:=.type "dict",dict:=none,data:=.dict #[]}:=cg _ rfl;have h3:=h1.symm.trans O;exact⟨o,es,ep,M.trans h3.symm,rest⟩
 have I4:=wK (js:=js) (Nc:=Nc) (tk:=d.toks+([]:List (Str×ao)).length) U S f2 u a2 l (bg _) Z Y f new;have hn:B d.heap.objs.size=none:=U.fresh
 have f4:∀ b∈fp,yN (cxC X Nc sc G.objs.size d B fp pins) [] (upd B d.heap.objs.size (.dK [])) b:=λ b m=>by
  obtain⟨h0,h1,O,h3,h4,h5⟩:=f2 b m;refine⟨?_,df (dc (u b m) l),λ z=>?_,.inl m,λ x c z=>?_,λ p hp=>?_⟩
  ·rw[kK (df (u b m))];exact h0
  ·rcases cy.mp (U.stkSub b z) with q | q
   ·exact h1 q
   ·exact O q
  ·exact h4 x c (bR sc.names [] (λ z=>nomatch z) z)
  ·rcases bu.mp hp with z | z
   ·exact h5 p z
   ·exact absurd z (by simp)
 have a0:tn 0 i:=T.keep _ _ _ a1 λ b m o e=>Y b o e
 have n:codeAny (model X.prog X.w) X.A (.compLoop (.DictComp kx vx [⟨tg,iter,[],0⟩,⟨tg2,iter2,ifs2,0⟩] sc pos) 0 (.ref it) (.ref d.heap.objs.size) (compEnvC sc (uQ sc X.env) G.objs.size X.env))
   (compPost (model X.prog X.w) X.A X.xe none (EP X pins σ Q) (.ref d.heap.objs.size) G.objs.size) {d with heap:=i,toks:=d.toks+([]:List (Str×ao)).length}:=by
  refine xQ (X:=cxC X Nc sc G.objs.size d B fp pins) (.inr ⟨kx,vx,rfl⟩) hx hc (kKN _ _ _ _ _ _ _ _ _ _ _ _ _) T (hg _ _ _ _ _)
   (kIM (X:=cxC X Nc sc G.objs.size d B fp pins) rfl hx hc (a7 _ _ _ _ _) (a8 _ _ _ _ _) (λ L=>m _ _ _ _ _ _ L) (a4 _ _ _ _ _)) I4 a0 f4 (hw _ hn) λ ac H' s' I' q=>?_
  obtain⟨m',a3,_⟩:=I'.loc;exact⟨m',a3,λ h' a5=>⟨.ref d.heap.objs.size,H',wL U f2 l I' a5,rfl,q⟩⟩
 exact jY (.inr ⟨kx,vx,rfl⟩) rfl rfl n (T.self _ _ _ _ _ a0 n)
end
open PySem
section
variable {X:Cx}
def kPE{o:iC}{b:TE}(f:PE X o b):PE X o (λ σ H Q=>∃ P:V->Hp->Prop,b σ H P/\∀ x H1,P x H1->Q x H1):=λ a s σ H Q I ⟨P,h,m⟩=>thn (f a s σ H P I h) λ v i ⟨x,H1,d,c,g⟩=>⟨x,H1,d,c,m x H1 g⟩
end
end L2
namespace Fc
open Cyc Rnd Tri
section
variable {W:Rows} {a b c:Nat}
inductive PeelS(W:Rows)(a b:Nat):List Nat->List Nat->List Nat->List (List Nat)->Prop
 | done {off:List Nat}:Pel W a b [a,b] off->PeelS W a b [a,b] off [] []
 | step {A D mid off rest row outs:List Nat} {ss:List (List Nat)} {u v w:Nat}:Pel W a b (A++[u,v,w]++D) off->W[v]?=some row->Ro row ((u::mid++[w])++outs)->(∀ x∈outs,x∈off)->PeelS W a b (A++(u::mid++[w])++D) (off++[v]) rest ss->PeelS W a b (A++[u,v,w]++D) off (v::rest) ((u::mid++[w])::ss)
def PeelS.peels{T c rest:List Nat}{d:List (List Nat)}(h:PeelS W a b T c rest d):Peels W a b T c rest:=by
 induction h with
 | done h=>exact .done h
 | step h1 h2 h3 h4 _ ih=>exact .step h1 h2 h3 h4 ih
def PeelS.go(G:Good W){T c rest:List Nat}{d:List (List Nat)}(h:PeelS W a b T c rest d):∀ more,∃ ts,goF W (a::b::(rest.reverse++more)) rest.length=some (d.reverse,ts)/\ts.getLastD []=T:=by
 induction h with
 | done h=>exact λ more=>⟨[[a,b]],rfl,rfl⟩
 | step hp er ro hout hs ih =>
  rename_i A D mid c rest row outs d u v w
  intro more;obtain⟨ts,g,lt⟩:=ih (v::more);have i:(v::rest).reverse++more=rest.reverse++v::more:=by simp
  rw[i];obtain⟨f,z⟩:=kGD G er ro hout hs.peels more;rw[<-lt]at z;rw[yu];refine⟨_,lS g z,?_⟩;rw[bH,lt,f,uI rfl hs.peels.pel.nd]
theorem PeelS.laid(G:Good W){rest:List Nat}{f:List (List Nat)}(h:PeelS W a b [a,c,b] [] rest f)(m:R W c b a) :
  (a::b::rest.reverse).Perm (cz W.length)/\∃ Ts,yS W a b c (a::b::rest.reverse)=some (f.reverse,Ts):=by
 obtain⟨i,n,Ts,l⟩:=h.peels.laid G m;refine⟨i,Ts,?_⟩;obtain⟨o,g,_⟩:=h.go G [];rw[iY]at g;have d:=l;unfold yS at d
 split at d
 ·rw[show(a::b::rest.reverse).length-2=rest.length by simp,g]at d
  injection d with d
  injection d with l1 l2
  rw[l,l1]
 ·cases d
def PeelS.len{T c rest:List Nat}{d:List (List Nat)}(h:PeelS W a b T c rest d):d.length=rest.length:=by
 induction h with
 | done=>rfl
 | step _ _ _ _ _ ih=>rw[eh,eh,ih]
def okF(W:Rows)(T a:List Nat)(k:Nat):Bool:=(W.getD (T.getD (k+1) 0) []).all λ q=>decide (q∈a) || (decide (q∈[T.getD k 0,T.getD (k+2) 0]) || !decide (q∈T))
def okF_lo{T c:List Nat}(h:Pel W a b T c){k:Nat}(ok:okF W T c k=true):∀ z∈T,E W (T.getD (k+1) 0) z->z=T.getD k 0\/z=T.getD (k+2) 0:=λ z d e=>by
 have:=ug.mp ok z (mem_getD.mpr e);rw[decide_eq_false (h.out z d),decide_eq_true d]at this;simpa using this
def Pel.some_ok(G:Good W){T d:List Nat}(h:Pel W a b T d)(m:3<=T.length):∃ k,k+2<T.length/\okF W T d k=true:=by
 obtain⟨i,h0,h1,lo⟩:=h.loose G m;refine⟨i-1,by omega,ug.mpr λ q g=>?_⟩;rw[show i-1+1=i by omega]at g;rw[show i-1+2=i+1 by omega];by_cases c:q∈T
 ·obtain⟨j,l,e⟩:=wy c
  have f:T.getD j 0=q:=by rw[ai,aa l];exact e
  rcases lo j l (by rw[f];exact mem_getD.mp g) with z | z
  ·rw[<-f,show j=i-1 by omega]
   simp
  ·rw[<-f,z]
   simp
 ·simp[c]
def Pel.rng(S:Nb W){T c:List Nat}(h:Pel W a b T c):∀ x∈T,x<W.length:=λ x d=>by
 obtain⟨y,f⟩:=kCG (l:=T++T.head?.toList) (x:=x) (by
  cases T with
  | nil=>cases d
  | cons t r =>
   show x∈r++[t];rcases cy.mp d with rfl | q
   ·simp
   ·simp[q])
 exact(S.e (h.path f)).1
def Pel.more(G:Good W){T d:List Nat}(h:Pel W a b T d)(lo:d.length+2<W.length):3<=T.length:=by
 have two:=h.two;by_cases c:T.length=2
 ·have e:=h.two_end c
  rw[e]at h
  have:=eI (sj (n:=W.length)) (l₂:=a::b::d) λ x f=>by
   rcases h.stop G x (iB.mp f) with q | q | q
   ·simp[q]
   ·simp[q]
   ·simp[q]
  rw[eY,eh,eh]at this;omega
 ·omega
def Pel.none_left(G:Good W){T d:List Nat}(h:Pel W a b T d)(lo:d.length+2=W.length)(sub:∀ x∈d,x<W.length):T=[a,b]:=by
 have two:=h.two;by_cases c:T.length=2
 ·exact h.two_end c
 ·exfalso
  have:=eI (l₁:=T++d) (bj.mpr ⟨h.nd,h.nof,λ x f y g e=>h.out x f (e ▸ g)⟩) (l₂:=cz W.length) λ x f=>iB.mpr (by
   rcases bu.mp f with q | q
   ·exact h.rng (Wb.of G).toNb x q
   ·exact sub x q)
  rw[cq,eY]at this;omega
def PeelS.turn(G:Good W){T c:List Nat}(h:Pel W a b T c){A D row:List Nat}{u v w:Nat}(e:T=A++[u,v,w]++D)(lo:∀ z∈T,E W v z->z=u\/z=w)(i:W[v]?=some row) :
  ∃ mid,(rot row u).filter (λ q=>decide (q∉c++[v]))=u::mid++[w]/\u∈row/\Pel W a b (A++(u::mid++[w])++D) (c++[v])/\∀ rest ss,PeelS W a b (A++(u::mid++[w])++D) (c++[v]) rest ss->PeelS W a b T c (v::rest) ((u::mid++[w])::ss):=by
 obtain⟨mid,o,outs,f,l,n,m,hp⟩:=h.step G e lo;rw[i]at f
 cases f
 have nd:=G.nd _ _ i;have g:Ro row (u::(mid++[w]++outs)):=by simpa using l
 have r:∀ x∈row,x≠v:=λ x d=>(G.rng _ _ _ i d).2;refine⟨mid,?_,(g.mem u).mpr (by simp),hp,λ rest ss q=>?_⟩
 ·rw[rot_of nd g,show u::(mid++[w]++outs)=(u::mid++[w])++outs by simp,uj]
  have p:(u::mid++[w]).filter (λ q=>decide (q∉c++[v]))=u::mid++[w]:=Dp.mpr λ x d=>by
   have:=m x d;have s:=r x ((l.mem x).mpr (cj _ d));simp[this,s]
  have y:outs.filter (λ q=>decide (q∉c++[v]))=[]:=Aj.mpr λ x d=>by
   have:=n x d;simp[this]
  rw[p,y,iY]
 ·subst e
  exact .step h i l n q
end
end Fc
namespace Dcl
open PySem L2
def kn(n:Nat):Key:=.inl (n:Int)
def kn_inj{a b:Nat}(h:kn a=kn b):a=b:=by
 have h:(AY (a:Int):Key)=.inl (b:Int):=h;injection h with h
 omega
section
variable {ps:List (Key×V)}
def val_mem(nd:(ps.map (·.1)).Nodup){k:Key}{v:V}(m:(k,v)∈ps):qR ps k=some v:=by
 induction ps with
 | nil=>cases m
 | cons p r ih =>
  rw[eX,eK]at nd;by_cases e:p.1=k
  ·rw[qW e]
   rcases cy.mp m with z | z
   ·rw[<-z]
   ·exact absurd (iK.mpr ⟨_,z,rfl⟩) (e ▸ nd.1)
  ·rw[qN e]
   rcases cy.mp m with z | z
   ·exact absurd (by rw[<-z]) e
   ·exact ih nd.2 z
def val_none{k:Key}(h:k∉ps.map (·.1)):qR ps k=none:=by
 induction ps with
 | nil=>rfl
 | cons p r ih =>
  rw[eX,cy,not_or]at h;rw[qN (λ z=>h.1 z.symm)];exact ih h.2
def foldP_nd(nd:(ps.map (·.1)).Nodup):qL ps=ps:=by
 have:∀ n,n<=ps.length->qL (ps.take n)=ps.take n:=by
  intro n
  induction n with
  | zero=>intro _;rfl
  | succ n ih =>
   intro h;have e:=aa (l:=ps) (i:=n) (by omega);rw[jf,e];show qL (ps.take n++[ps[n]])=ps.take n++[ps[n]];rw[aK,ih (by omega)];refine kAR _ (val_none λ m=>?_);rw[AB]at m;obtain⟨i,d,c⟩:=wy m;rw[eJ,aj]at d;rw[xt,BA]at c;have a:i<(ps.map (·.1)).length:=by rw[aj];omega
   have b:n<(ps.map (·.1)).length:=by rw[aj];omega
   have:=(xf (h₀:=a) (h₁:=b) nd).mp (by rw[BA,BA];exact c);omega
 have:=this ps.length (bg _);rwa[iW]at this
def val_drop{k j:Key}:qR (xX ps k) j=if j=k then none else qR ps j:=by
 by_cases e:j=k
 ·rw[if_pos e]
  refine val_none λ m=>?_;obtain⟨p,hp,rfl⟩:=iK.mp m;have:=(iG.mp hp).2;simp[e]at this
 ·rw[if_neg e]
  induction ps with
  | nil=>rfl
  | cons p r ih =>
   by_cases c:p.1=k
   ·have:xX (p::r) k=xX r k:=by unfold xX;rw[tz (by simp[c])]
    rw[this,ih,qN (λ z=>e (z.symm.trans c))]
   ·have:xX (p::r) k=p::xX r k:=by unfold xX;rw[ua (by simp[c])]
    rw[this];by_cases d:p.1=j
    ·rw[qW d,qW d]
    ·rw[qN d,qN d,ih]
def drop_len(k:Key):(xX ps k).length<=ps.length:=iS _ _
end
end Dcl
namespace Prf
open PySem L2 Own Tri Cyc Rnd
def top(i:Nat):lh:=PySem.Challenge.pw_restdraw_k71_woods_of_an_order.main.body.getD i (.Pass ⟨0,0,0,0⟩)
abbrev gI:lh:=top 7
def kAK:FnScope ["thing"] ["thing"] (kL gI):=qE
abbrev cZ:lh:=top 8
def rL:FnScope ["thing","many"] ["thing","many"] (kL cZ):=qE
abbrev oJ:lh:=top 9
def kDF:FnScope ["row","first","start"] ["row","first"] (kL oJ):=qE
abbrev gC:lh:=top 10
def kAE:FnScope ["web"] ["web"] (kL gC):=qE
abbrev kLQ:lh:=top 11
def kOU:FnScope ["web"] ["web"] (kL kLQ):=qE
abbrev kAN:lh:=top 12
def kII:FnScope ["web","step","p","q","row"] ["web","step"] (kL kAN):=qE
abbrev uR:lh:=top 13
def fZ:FnScope ["web","step","steps","further"] ["web","step"] (kL uR):=qE
abbrev kFV:lh:=top 14
def kLP:FnScope ["web","told","seen","step","steps"] ["web"] (kL kFV):=qE
abbrev oH:lh:=top 15
def kDD:FnScope ["web"] ["web"] (kL oH):=qE
abbrev vS:lh:=top 16
def dW:FnScope ["web"] ["web"] (kL vS):=qE
abbrev zN:lh:=top 18
def uZ:FnScope ["web","some"] ["web"] (kL zN):=qE
abbrev dA:lh:=top 19
def rM:FnScope ["web","p","q","r"] ["web","p","q","r"] (kL dA):=qE
abbrev oI:lh:=top 20
def kDE:FnScope ["web","thing","a","b","c"] ["web","thing"] (kL oI):=qE
abbrev wH:lh:=top 21
def aU:FnScope ["web","base","face"] ["web","base"] (kL wH):=qE
abbrev gJ:lh:=top 23
def kAL:FnScope ["web","base","thing","a","b","c"] ["web","base","thing"] (kL gJ):=qE
abbrev vG:lh:=top 24
def bX:FnScope ["web","top","ahead","place","below","stretch","start"] ["web","top","ahead","place"] (kL vG):=qE
abbrev gD:lh:=top 25
def kAF:FnScope ["top","stretch","place","start","end"] ["top","stretch","place"] (kL gD):=qE
abbrev kLR:lh:=top 26
def kOV:FnScope ["web","base","thing","found","tops","at","stretch"] ["web","base","thing"] (kL kLR):=qE
abbrev vR:lh:=top 27
def dU:FnScope ["web","base","order","both"] ["web","base","order"] (kL vR):=qE
abbrev vV:lh:=top 31
def dY:FnScope ["web","base"] ["web","base"] (kL vV):=qE
abbrev aZ:lh:=top 32
def mT:FnScope ["web","base","place","thing","many"] ["web","base","place","thing"] (kL aZ):=qE
abbrev vI:lh:=top 33
def bZ:FnScope ["base","rows","tie","p","q"] ["base","rows","tie"] (kL vI):=qE
abbrev kAM:lh:=top 34
def kIH:FnScope ["rows","place","q"] ["rows","place","q"] (kL kAM):=qE
abbrev vH:lh:=top 35
def bY:FnScope ["web","rows","place","numbers"] ["web","rows","place"] (kL vH):=qE
abbrev oC:lh:=top 36
def kCZ:FnScope ["web","base","rows","k","corner"] ["web","base","rows","k"] (kL oC):=qE
abbrev cY:lh:=top 37
def rK:FnScope ["web","base","thing"] ["web","base","thing"] (kL cY):=qE
abbrev gH:lh:=top 38
def kAJ:FnScope ["web","base","thing"] ["web","base","thing"] (kL gH):=qE
abbrev gB:lh:=top 39
def kAD:FnScope ["web","base","order","found","tops","under","over","rows"] ["web","base","order"] (kL gB):=qE
abbrev oE:lh:=top 41
def kDB:FnScope ["_law_script","_law_k","_law_cell"] ["_law_script","_law_k"] (kL oE):=qE
abbrev cW:lh:=top 42
def rH:FnScope ["_law_pot_here","_law_many","_law_digit_here"] ["_law_pot_here","_law_many"] (kL cW):=qE
abbrev cX:lh:=top 43
def rJ:FnScope ["_law_rows","_law_p","_law_q","_law_row"] ["_law_rows","_law_p","_law_q"] (kL cX):=qE
abbrev aW:lh:=top 44
def mS:FnScope ["_law_rows","_law_p","_law_v","_law_new","_law_row"] ["_law_rows","_law_p","_law_v","_law_new"] (kL aW):=qE
abbrev oG:lh:=top 45
def kDC:FnScope ["_law_rows","_law_p","_law_q","_law_r","_law_new"] ["_law_rows","_law_p","_law_q"] (kL oG):=qE
abbrev gF:lh:=top 46
def kAH:FnScope ["_law_rows","_law_p","_law_q","_law_r","_law_s"] ["_law_rows","_law_p","_law_q"] (kL gF):=qE
abbrev gE:lh:=top 47
def kAG:FnScope ["_law_pot_here","_law_rows","_law_p"] ["_law_pot_here","_law_rows"] (kL gE):=qE
abbrev vU:lh:=top 48
def dX:FnScope ["_law_pot_here","_law_n","_law_rows","_law_k","_law_p","_law_q"] ["_law_pot_here","_law_n"] (kL vU):=qE
abbrev oD:lh:=top 49
def kDA:FnScope ["_law_pot_here","_law_n","_law_rows","_law_names","_law_k","_law_found","_law_p","_law_row","_law_called"] ["_law_pot_here","_law_n"] (kL oD):=qE
abbrev gG:lh:=top 50
def kAI:FnScope ["_law_pot_here","_law_web_here","_law_a","_law_c"] ["_law_pot_here","_law_web_here"] (kL gG):=qE
abbrev aV:lh:=top 51
def mR:FnScope ["_law_web_here","_law_here","_law_left","_law_there","_law_found","_law_k","_law_beside"] ["_law_web_here","_law_here","_law_left"] (kL aV):=qE
abbrev cU:lh:=top 52
def rF:FnScope ["_law_pot_here","_law_web_here","_law_base_here","_law_a","_law_b","_law_c","_law_here","_law_left","_law_spans","_law_k","_law_some","_law_v","_law_at","_law_turn"] ["_law_pot_here","_law_web_here","_law_base_here"] (kL cU):=qE
abbrev cV:lh:=top 53
def rG:FnScope ["_law_base_here","_law_spans"] ["_law_base_here","_law_spans"] (kL cV):=qE
abbrev cT:lh:=top 54
def rE:FnScope ["_law_web_here","_law_base_here","_law_spans","_law_above","_law_v","_law_stretch","_law_q","_law_found","_law_place"] ["_law_web_here","_law_base_here","_law_spans"] (kL cT):=qE
abbrev kFU:lh:=top 55
def sc_law:FnScope ["_law_script","_law_k","_law_pot_here","_law_web_here","_law_base_here","_law_spans","_law_due","_law_told"] ["_law_script"] (kL kFU):=qE
structure FxG(K:bb)(mg:Str->Option ao):Prop where
 X:∃ h:iD,K.In h/\h.Ns ed mg
 d0:jA K "is_whole" gI
 d1:jA K "are_whole" cZ
 d2:jA K "from_on" oJ
 d3:jA K "steps_of" gC
 d4:jA K "ties" kLQ
 d5:jA K "behind" kAN
 d6:jA K "steps_round" uR
 d7:jA K "faces" kFV
 d8:jA K "is_flat" oH
 d9:jA K "must_be_flat" vS
 d10:jA K "uncornered_face" zN
 d11:jA K "are_round" dA
 d12:jA K "is_base" oI
 d13:jA K "must_have_base" wH
 d14:jA K "has_ends" gJ
 d15:jA K "stretch_under" vG
 d16:jA K "put_over" gD
 d17:jA K "laid" kLR
 d18:jA K "must_be_laid" vR
 d19:jA K "inner_places" vV
 d20:jA K "is_out_row" aZ
 d21:jA K "leads_one_way" vI
 d22:jA K "stands" kAM
 d23:jA K "stand_in_turn" vH
 d24:jA K "lead_in" oC
 d25:jA K "are_woods" cY
 d26:jA K "is_woods" gH
 d27:jA K "woods_of" gB
 d28:jA K "_law_pot" oE
 d29:jA K "_law_digit" cW
 d30:jA K "_law_ahead" cX
 d31:jA K "_law_behind" aW
 d32:jA K "_law_add" oG
 d33:jA K "_law_flip" gF
 d34:jA K "_law_step" gE
 d35:jA K "_law_cornered" vU
 d36:jA K "_law_web" oD
 d37:jA K "_law_base" gG
 d38:jA K "_law_may_go" aV
 d39:jA K "_law_taken" cU
 d40:jA K "_law_order" cV
 d41:jA K "_law_woods" cT
 d42:jA K "law" kFU
 y0:gy K ed "len" = some none
 y1:gy K ed "max" = some none
 y2:gy K ed "abs" = some none
 y3:gy K ed "divmod" = some none
 y4:gy K ed "range" = some none
 y5:gy K ed "tuple" = some none
 y6:gy K ed "enumerate" = some none
 y7:gy K ed "min" = some none
 y8:gy K ed "sorted" = some none
 y9:gy K ed "isinstance" = some none
 y10:gy K ed "bool" = some none
 y11:gy K ed "int" = some none
 y12:gy K ed "all" = some none
 y13:gy K ed "list" = some none
 y14:gy K ed "zip" = some none
 y15:gy K ed "set" = some none
 y16:gy K ed "dict" = some none
 y17:gy K ed "reversed" = some none
 y18:gy K ed "repr" = some none
 cOUT:kQL K "OUT" [0,2,4]
 cINTO:kQL K "INTO" [3,5,1]
def FxG.z{K:bb}{mg:Str->Option ao}(B:FxG K mg){n:Str}(y:gy K ed n=some none):mg n=none:=by
 obtain⟨h,x,g⟩:=B.X;exact PySem.W.mg_none_of x g y
def Bad(c:Cn):Prop:=FxG c.K c.mg/\∃ f a,Fun c.K "law" "law" kFU f a/\¬ FnOk c.P c.w c.K c.mg c.base CX0 10 f a ["_law_script"] (nY c.K)
noncomputable def c0:Cn:=Classical.epsilon Bad
noncomputable def P:eU:=c0.P
noncomputable def w:gk:=c0.w
noncomputable def K:bb:=c0.K
noncomputable def mg:Str->Option ao:=c0.mg
noncomputable def base:iD:=c0.base
abbrev Fx:=FxG K mg
abbrev Hs:=Own.Has P w K mg base
def kC{H:Hp}{p:ay}(h:H p=none)(o:HO):Same H (upd H p o):=λ b u q=>by rw[kK (kF q h)];exact q
def SameBut(a:ay)(H H':Hp):Prop:=∀ b o,b≠a->H b=some o->H' b=some o
inductive kQS(K:bb)(vs:List V)(H:Hp)(Q:VK)(Y:XK):Prop
 | mk:∀(a:ay)(ns:List Int)(k:Int),(vs=[.ref a,.int k])->(SqL K H a (ns.map V.int))->(ns.length<=63)->(0<=k)->(k<=63)->(∀(p:ay)(x y:Int)(H':Hp),0<=x->Same H H'->H p=none->H' p=some (.lst [.int x,.int y])->Q (.ref p) H')->kQS K vs H Q Y
def PotAt(H:Hp)(a:ay):Prop:=∃ x y:Int,H a=some (.lst [.int x,.int y])/\0<=x
inductive kFQ(vs:List V)(H:Hp)(Q:VK)(Y:XK):Prop
 | mk:∀(a:ay)(m:Int),(vs=[.ref a,.int m])->(PotAt H a)->(0<m)->(m.natAbs<2 ^ 9000)->(∀(d:Int)(H':Hp),0<=d->d<m->SameBut a H H'->PotAt H' a->Q (.int d) H')->kFQ vs H Q Y
def vn(n:Nat):V:=.int (n:Int)
def ci(n:Nat):Int:=n
structure RowsAt(H:Hp)(r:ay)(A:List ay)(L:Rows):Prop where
 top:H r=some (.lst (A.map V.ref))
 len:A.length=L.length
 nd:A.Nodup
 out:r∉A
 row:∀(i:Nat)(a:ay)(ns:List Nat),A[i]?=some a->L[i]?=some ns->H a=some (.lst (ns.map vn))
def qV(a:List Nat):a.map vn=(a.map ci).map V.int:=by
 rw[uf]
 rfl
def kZ{a:List Nat}{n:Nat}(h:n∈a):uO (a.map ci) (n:Int) (a.idxOf n):=by
 have c:=fe h;refine⟨?_,λ m d e=>?_⟩
 ·rw[bh,aa c,Bt c]
  rfl
 ·have b:m<a.length:=by omega
  rw[bh,aa b]at e
  have f:a[m]=n:=by
   have z:((a[m]:Nat):Int)=(n:Int):=cc e;omega
  have q:=List.not_of_lt_findIdx (p:=(· == n)) (xs:=a) d;rw[f]at q;simp at q
def RowsAt.at{H:Hp}{r:ay}{A:List ay}{L:Rows}(x:RowsAt H r A L){i:Nat}{b:List Nat}(h:L[i]?=some b):∃ a,A[i]?=some a/\H a=some (.lst (b.map vn))/\atI (A.map V.ref) (i:Int)=some (.ref a):=by
 have c:i<A.length:=by rw[x.len];exact(au.mp h).1
 refine⟨A[i],aa c,x.row i _ b (aa c) h,jL ?_⟩;rw[bh,aa c]
 rfl
inductive kFS(vs:List V)(H:Hp)(Q:VK)(Y:XK):Prop
 | mk:∀(r b:ay)(xs:List V)(p q:Nat)(row:List Nat)(v:Nat),(vs=[.ref r,vn p,vn q])->((H r=some (.lst xs)/\H b=some (.lst (row.map vn))\/H r=some (.tup xs)/\H b=some (.tup (row.map vn))))->(atI xs (q:Int)=some (.ref b))->(p∈row)->(xI row p=some v)->(Q (vn v) H)->kFS vs H Q Y
def tE{row:List Nat}{p v:Nat}(hp:p∈row)(h:xI row p=some v):atI (row.map vn) ((row.idxOf p:Int)-1)=some (vn v):=by
 have b:=fe hp;unfold xI at h;by_cases h0:row.idxOf p=0
 ·rw[if_pos h0]at h
  rw[h0]
  have e:row=row.dropLast++[v]:=by
   have a:row≠[]:=λ z=>by rw[z]at hp;cases hp
   rw[fk a]at h;rw[<-cc h];exact(fh a).symm
  rw[e,eN];exact zM _ _
 ·rw[if_neg h0]at h
  have e:((row.idxOf p:Int)-1)=((row.idxOf p-1:Nat):Int):=by omega
  rw[e];exact jL (by rw[bh,h];rfl)
section
def at0{x y:V}:atI [x,y] 0=some x:=rfl
def at1{x y:V}:atI [x,y] 1=some y:=rfl
def yX(B:Fx):Hs "_law_ahead" ["_law_rows","_law_p","_law_q"] 1 (kFS):=by
 refine qI B.X B.d30 rJ λ f l A c s H m Q E g n h=>?_;obtain⟨r,b,o,p,q,row,v,rfl,⟨h1,a⟩ | ⟨h1,a⟩,d,hp,i,k⟩:=h
 ·refine⟨_,(kD (pst 3 g (pix kW (pv 0) (pv 2)))
   (kJ (kS (pix kW (pv 3) (qB wA (jO jg jh yI (pv 3) (p1 (pv 1))) kN))))),?_⟩
  try dsimp only[qQ]
  refine⟨_,rfl,_,rfl,r,_,_,_,rfl,rfl,SqL.of h1,d,?_⟩;refine⟨_,rfl,_,rfl,.inl ⟨rfl,_,SqL.of a⟩,_,rfl,b,row.map ci,p,row.idxOf p,rfl,rfl,by rw[a,qV],kZ hp,_,_,rfl,rfl,?_⟩;exact⟨b,_,_,_,rfl,rfl,SqL.of a,tE hp i,k⟩
 ·refine⟨_,(kD (pst 3 g (pix qC (pv 0) (pv 2)))
   (kJ (kS (pix qC (pv 3) (qB wA (dD mo mv mw zB (pv 3) (p1 (pv 1))) kN))))),?_⟩
  try dsimp only[qQ]
  refine⟨_,rfl,_,rfl,r,_,_,_,rfl,rfl,SqT.of h1,d,?_⟩;refine⟨_,rfl,_,rfl,.inr (.inl ⟨rfl,.inr ⟨_,a⟩⟩),_,rfl,b,row.map ci,p,row.idxOf p,rfl,rfl,SqT.of (by rw[a,qV]),kZ hp,_,_,rfl,rfl,?_⟩;exact⟨b,_,_,_,rfl,rfl,SqT.of a,tE hp i,k⟩
theorem RowsAt.set{H:Hp}{r:ay}{A:List ay}{L:Rows}(x:RowsAt H r A L){i:Nat}{a:ay}(h:A[i]?=some a)(f:List Nat):RowsAt (upd H a (.lst (f.map vn))) r A (L.set i f):=by
 have g:r≠a:=λ z=>x.out (z ▸ eA h);have l:i<L.length:=by rw[<-x.len];exact(au.mp h).1
 refine⟨by rw[kK g];exact x.top,by rw[BL];exact x.len,x.nd,x.out,λ j b m c d=>?_⟩;rcases zR l d with⟨rfl,rfl⟩ | ⟨o,d⟩
 ·rw[h]at c
  cases c
  exact kB
 ·have n:b≠a:=λ z=>by
   subst z;have:=(Ad (au.mp c).1 x.nd).mp (c.trans h.symm);exact o this
  rw[kK n];exact x.row j b m c d
def ButRows(r:ay)(A:List ay)(H H':Hp):Prop:=∀ b o,b≠r->b∉A->H b=some o->H' b=some o
inductive kAA(vs:List V)(H:Hp)(Q:VK)(Y:XK):Prop
 | mk:∀(r:ay)(A:List ay)(L:Rows)(p v n:Nat)(row:List Nat),(vs=[.ref r,vn p,vn v,vn n])->(RowsAt H r A L)->(L[p]?=some row)->(v∈row)->(row.length<=1000)->(∀ H',ButRows r A H H'->RowsAt H' r A (L.set p (jH row v n))->Q .non H')->kAA vs H Q Y
def xL(B:Fx):Hs "_law_behind" ["_law_rows","_law_p","_law_v","_law_new"] 1 (kAA):=by
 refine qI B.X B.d31 mS λ f C A d s H G Q E y I h=>?_;obtain⟨r,J,L,p,v,n,row,rfl,X,hp,i,x,k⟩:=h
 refine⟨_,(kD (pst 4 y (pix kW (pv 0) (pv 1)))
   (kJ (qK (jO CZ Ca oS (pv 4) (p2 (qB xU (jO jg jh yI (pv 4) (p1 (pv 2))) kN) (pv 3)))))),?_⟩
 try dsimp only[qQ]
 obtain⟨a,g,c,l⟩:=X.at hp;have D:=fe i;refine⟨_,rfl,_,rfl,r,_,_,_,rfl,rfl,SqL.of X.top,l,?_⟩;refine⟨_,rfl,.inl ⟨rfl,_,SqL.of c⟩,_,rfl,.inl ⟨rfl,_,SqL.of c⟩,_,rfl,a,row.map ci,v,row.idxOf v,rfl,rfl,by rw[c,qV],kZ i,_,_,rfl,rfl,_,rfl,a,_,_,_,rfl,rfl,c,by omega,by omega,by rw[aj];exact kQ x,?_⟩
 have e:List.take ((row.idxOf v:Int)+1).toNat (row.map vn)++vn n::Hg ((row.idxOf v:Int)+1).toNat (row.map vn)=(jH row v n).map vn:=by
  have z:((row.idxOf v:Int)+1).toNat=row.idxOf v+1:=by omega
  rw[z];unfold jH;rw[eN,AB,eX,BJ]
 have q:=k (upd H a (.lst ((jH row v n).map vn))) (λ b o _ m h=>by
  have u:b≠a:=λ z=>m (by rw[z];exact eA g);rw[kK u];exact h) (X.set g _)
 rw[<-e]at q;exact q
def ButRows.trans{r:ay}{A:List ay}{H c a:Hp}(x:ButRows r A H c)(y:ButRows r A c a):ButRows r A H a:=λ b o h1 d h=>y b o h1 d (x b o h1 d h)
def cB{L:Rows}(G:Good L){p:Nat}{row:List Nat}(h:L[p]?=some row):row.length<=6*L.length:=by
 have q:=yU L p row [] h;have t:=G.tot;simp only[qv]at q;omega
def RowsAt.app{H:Hp}{r:ay}{A:List ay}{L:Rows}(x:RowsAt H r A L){a:ay}(h:H a=none)(m:List Nat):RowsAt (upd (upd H a (.lst (m.map vn))) r (.lst (A.map V.ref++[V.ref a]))) r (A++[a]) (L++[m]):=by
 have o:r≠a:=kF x.top h
 have p:∀ b,b∈A->b≠a:=λ b d=>by
  obtain⟨i,f,rfl⟩:=fc.mp d;have g:i<L.length:=by rw[<-x.len];exact f
  exact kF (x.row i _ _ (aa f) (aa g)) h
 refine⟨by rw[kB,eN];rfl,by simp[x.len],?_,?_,λ i b u d f=>?_⟩
 ·rw[bj]
  exact⟨x.nd,by simp,λ b d c n=>by simp at n;rw[n];exact p b d⟩
 ·intro z
  rcases bu.mp z with z | z
  ·exact x.out z
  ·exact o (by simpa using z)
 ·by_cases l:i<A.length
  ·rw[cm l]at d
   rw[cm (by rw[<-x.len];exact l)]at f;have q:=eA d;have s:b≠r:=λ z=>x.out (by rw[<-z];exact q);rw[kK s,kK (p b q)];exact x.row i b u d f
  ·have e:i=A.length:=by
    have:=(au.mp d).1;simp at this;omega
   subst e;rw[ck (bg _)]at d;rw[ck (by rw[x.len];exact bg _)]at f;rw[x.len]at f;simp at d f;subst d f;rw[kK o.symm,kB]
inductive kQT(vs:List V)(H:Hp)(Q:VK)(Y:XK):Prop
 | mk:∀(r:ay)(A:List ay)(L:Rows)(p q:Nat),(vs=[.ref r,vn p,vn q])->(RowsAt H r A L)->(Good L)->(L.length<=150)->(E L p q)->(∀(x:ay)(L':Rows)(H':Hp),H x=none->ButRows r A H H'->RowsAt H' r (A++[x]) L'->Good L'->L'.length=L.length+1->Q .non H')->kQT vs H Q Y
def kDV(B:Fx):Hs "_law_add" ["_law_rows","_law_p","_law_q"] 2 (kQT):=by
 refine qI B.X B.d32 kDC λ f a0 A I s H vs Q E nN C h=>?_;obtain⟨r,a,L,p,q,rfl,X,G,hL,hE,k⟩:=h
 refine⟨_,(kD (pst 3 nN (pf (yX B) C (kE (pv 0) (kE (pv 1) (kE (pv 2) kU)))))
   (kD (pst 4 nN (kM kP rfl (B.z B.y0) eg (p1 (pv 0))))
   (kD (qK (pf (xL B) C (kE (pv 0) (kE (pv 1) (kE (pv 2) (kE (pv 4) kU))))))
   (kD (qK (pf (xL B) C (kE (pv 0) (kE (pv 2) (kE (pv 3) (kE (pv 4) kU))))))
   (kD (qK (pf (xL B) C (kE (pv 0) (kE (pv 3) (kE (pv 1) (kE (pv 4) kU))))))
   (kJ (qK (jO iu iw xD (pv 0) (p1 (jQ (kE (pv 1) (kE (pv 2) (kE (pv 3) kU))))))))))))),?_⟩
 try dsimp only[qQ]
 obtain⟨d,u,D⟩:=G.sym hE;obtain⟨v,hp,mp⟩:=hE;obtain⟨t,ht⟩:=wS D;have f:=yV (G.nd q d u) D ht;have Fq:R L q t p:=⟨d,u,f⟩;have Fr:=G.tri _ _ _ Fq;obtain⟨y,l,nr⟩:=id Fr;have gd:=kOG G hp u l f;obtain⟨lq,lt,lp,tq,pq⟩:=yQ G Fq;obtain⟨_,_,_,pt,_⟩:=yQ G Fr;have mr:=(kT nr).1;have g:(a.map V.ref).length=L.length:=by rw[aj];exact X.len
 obtain⟨aX,_,S,N⟩:=X.at u;refine⟨_,rfl,_,rfl,_,rfl,r,aX,_,p,q,d,t,rfl,.inl ⟨X.top,S⟩,N,D,ht,?_⟩;refine⟨_,rfl,r,_,rfl,.inl (SqL.of X.top),?_⟩;refine⟨_,rfl,_,rfl,_,rfl,_,rfl,r,a,L,p,q,(a.map V.ref).length,v,rfl,X,hp,mp,(by have:=cB G hp;omega),λ H1 b1 X1=>?_⟩;have O:(L.set p (jH v q (a.map V.ref).length))[q]?=some d:=by rw[eW pq];exact u
 refine⟨_,rfl,_,rfl,_,rfl,_,rfl,r,a,_,q,t,(a.map V.ref).length,d,rfl,X1,O,(kT f).1,(by have:=cB G u;omega),λ H2 b2 X2=>?_⟩;have J:((L.set p (jH v q (a.map V.ref).length)).set q (jH d t (a.map V.ref).length))[t]?=some y:=by rw[eW (λ z=>tq z.symm),eW pt];exact l
 refine⟨_,rfl,_,rfl,_,rfl,_,rfl,r,a,_,t,p,(a.map V.ref).length,y,rfl,X2,J,mr,(by have:=cB G l;omega),λ H3 b3 m=>?_⟩;refine⟨_,rfl,.inl ⟨rfl,_,SqL.of m.top⟩,_,rfl,_,rfl,_,rfl,yS3,λ x n=>?_⟩;have Z:r≠x:=kF m.top n;have c:=b1.trans (b2.trans b3)
 have U:H x=none:=by
  cases e:H x with
  | none=>rfl
  | some o =>
   have xA:x∉a:=λ z=>by
    obtain⟨i,T,rfl⟩:=fc.mp z;have M:i<(((L.set p (jH v q (a.map V.ref).length)).set q (jH d t (a.map V.ref).length)).set t (jH y p (a.map V.ref).length)).length:=by rw[<-m.len];exact T
    rw[m.row i _ _ (aa T) (aa M)]at n;cases n
   rw[c x o (λ z=>Z z.symm) xA e]at n;cases n
 refine⟨r,_,_,rfl,rfl,(by rw[kK Z];exact m.top),(by rw[g];exact kQ (by omega)),?_⟩;have Y:=m.app n [p,q,t];rw[g]at Y;refine k x (aO L p q t v d y) _ U (λ b o h1 h2 h=>?_) Y gd (by simp[aO]);have bx:b≠x:=λ z=>by rw[z,U]at h;cases h
 rw[kK h1,kK bx];exact c b o h1 h2 h
def kOA(a:List Int)(lo hi:Option Int):∃ ms:List Int,xZ (a.map V.int) lo hi=ms.map V.int/\ms.length<=a.length:=by
 refine⟨(a.drop (HT.sIx (a.map V.int).length 0 lo)).take (HT.sIx (a.map V.int).length (a.map V.int).length hi-HT.sIx (a.map V.int).length 0 lo),?_,?_⟩
 ·unfold xZ
  rw[AB,BJ]
 ·rw[eJ,iN]
  omega
def kJL(a:List Int):∃ c:Int,atI (a.map V.int++[V.int 0]) 0=some (V.int c):=by
 cases a with
 | nil=>exact⟨0,rfl⟩
 | cons x r=>exact⟨x,jL (j:=0) rfl⟩
def zG{n:Nat}(h:n<=20000):n<sizeLine:=gx h (by rw[AO];decide)
def kLO{n:Nat}(h:n<=1000):n<=sizeLine:=kl (kQ h)
def kDU(B:Fx):Hs "_law_pot" ["_law_script","_law_k"] 1 (kQS K):=by
 refine qI B.X B.d28 kDB λ f G A d s H M Q E C O h=>?_;obtain⟨a,b,k,rfl,v,o,N,J,q⟩:=h
 refine⟨_,(kD (pst 2 C (pix kW (qB aF (qG jZ (pv 0) (qH (pv 1)) (qH (qB xU (pv 1) kN))) (jQ (p1 kN))) kN))
   (kJ (kS (jQ (p2 (kM (pK rfl) rfl (B.z B.y1) DW (p2 kN (qB wA (pv 2) (qB kSO kN kN)))) (qB xU (qB sA (qB xU (qB xU (kM kOD rfl (B.z B.y2) HE (p1 (pv 2))) (qB kDQ kN (pv 1))) kN) kN) kN)))))),?_⟩
 try dsimp only[qQ]
 obtain⟨r,em,L⟩:=kOA b (some k) (some (k+1));obtain⟨c,n⟩:=kJL r;refine⟨_,rfl,_,rfl,k,rfl,_,rfl,_,_,rfl,rfl,k+1,rfl,a,_,rfl,v,λ p1 h1=>?_⟩;refine⟨yS1,λ p2 m=>?_⟩;have i:p1≠p2:=kF kB m;refine⟨p1,p2,_,_,rfl,rfl,(by rw[kK i];exact kB),kB,(by rw[em,aj,iR];exact kLO (by omega)),λ u x=>?_⟩;refine⟨u,_,_,_,rfl,rfl,SqL.of kB,(by rw[em];exact n),?_⟩;have p:Same H (upd H p1 (.lst (xZ (b.map V.int) (some k) (some (k+1))))):=kC h1 _;have D:=kC m (.lst [V.int 0]);have I:=kC x (.lst (xZ (b.map V.int) (some k) (some (k+1))++[V.int 0]));have g:=p.trans (D.trans I);refine⟨_,rfl,_,_,rfl,rfl,⟨by decide,by decide,by decide⟩,_,_,rfl,rfl,_,_,rfl,_,rfl,c,rfl,_,rfl,_,_,rfl,rfl,.inl ⟨by decide,by decide⟩,_,_,rfl,rfl,_,_,rfl,rfl,_,_,rfl,rfl,(by show(0:Int)<2147483629;decide),_,_,rfl,rfl,yS2,λ y l=>?_⟩;refine q y _ _ _ ?_ (g.trans (kC l _)) (g.free l) kB
 split<;>omega
def SameBut.trans{a:ay}{H d c:Hp}(x:SameBut a H d)(y:SameBut a d c):SameBut a H c:=λ b o n h=>y b o n (x b o n h)
def SameBut.of{a:ay}{H H':Hp}(h:Same H H'):SameBut a H H':=λ b o _ e=>h b o e
def kHF{a:ay}{H:Hp}{o:HO}:SameBut a H (upd H a o):=λ b u n h=>by rw[kK n];exact h
def jG(B:Fx):Hs "_law_digit" ["_law_pot_here","_law_many"] 1 (kFQ):=by
 refine qI B.X B.d29 rH λ f u A g s H D Q E r G h=>?_;obtain⟨a,m,rfl,⟨x,y,b,l⟩,d,o,q⟩:=h
 refine⟨_,(kD (xH (qJ kRA (pix kW (pv 0) kN) kN (qS _)) (kD (yO (kM sZ rfl (B.z B.y3) Gn (p2 (pix kW (pv 0) kN) (pv 1))) (jU (n:=2) rfl (kR (kDM (pv 0) kN fY) (kR (pgn 2 r) qY))))
   (kJ (kS (pv 2)))) qM)
   (kD (yO (qB sA (qB xU (qB kDQ (pix kW (pv 0) kN) kN) kN) kN) (kDM (pv 0) kN fY))
   (kJ (kS (qB sA (qB kPL (qB sA (qB kDQ (pix kW (pv 0) kN) (pix kW (pv 0) kN)) kN) kN) (pv 1)))))),?_⟩
 try dsimp only[qQ]
 refine⟨_,rfl,a,_,_,_,rfl,rfl,SqL.of b,at0,_,_,rfl,rfl,_,rfl,?_⟩;refine kEE (λ c=>?_) (λ c=>?_)
 ·refine⟨_,rfl,a,_,_,_,rfl,rfl,SqL.of b,at0,_,rfl,x,m,rfl,⟨d,o⟩,λ p hp=>?_⟩
  have i:a≠p:=kF b hp;refine⟨p,_,rfl,SqT.of kB,rfl,_,_,rfl,_,rfl,a,_,_,0,rfl,rfl,(by rw[kK i];exact b),rfl,_,_,rfl,rfl,?_⟩;refine⟨_,rfl,?_⟩;refine q _ _ (DO _ (by omega)) (CA _ d) ((SameBut.of (kC hp _)).trans kHF) ⟨_,_,kB,?_⟩;exact Int.ediv_nonneg l (by omega)
 ·refine⟨_,rfl,a,_,_,_,rfl,rfl,SqL.of b,at1,_,_,rfl,rfl,.inr ⟨by decide,by decide⟩,_,_,rfl,rfl,_,_,rfl,rfl,(by show(0:Int)<2147483647;decide),?_⟩
  refine⟨_,rfl,a,_,_,1,rfl,rfl,b,rfl,?_⟩;have C:0<=(y*48271+39373) % 2147483647:=DO _ (by decide);have v:(y*48271+39373) % 2147483647<2147483647:=CA _ (by decide);refine⟨_,rfl,a,_,_,_,rfl,rfl,SqL.of kB,at1,_,rfl,a,_,_,_,rfl,rfl,SqL.of kB,at1,_,_,rfl,rfl,.inl ⟨?_,?_⟩,_,_,rfl,rfl,(by show(0:Int)<2147483629;decide),_,_,rfl,rfl,⟨by decide,by decide⟩,_,rfl,_,_,rfl,rfl,d,?_⟩
  ·show -(2 ^ 64)<(y*48271+39373) % 2147483647
   omega
  ·show(y*48271+39373) % 2147483647<2 ^ 64
   omega
  ·exact q _ _ (DO _ (by omega)) (CA _ d) kHF ⟨_,_,kB,l⟩
def PotAt.kept{H H':Hp}{p:ay}(h:PotAt H p)(g:Same H H'):PotAt H' p:=by
 obtain⟨x,y,e,z⟩:=h;exact⟨x,y,g _ _ e,z⟩
def mW{i:Int}(h:i.natAbs<2 ^ 200):i.natAbs<2 ^ 9000:=dc h (Nat.pow_le_pow_right (by decide) (by decide))
def PotAt.other{H:Hp}{a l:ay}{o:HO}(h:PotAt H a)(n:a≠l):PotAt (upd H l o) a:=by
 obtain⟨x,y,e,z⟩:=h;exact⟨x,y,by rw[kK n];exact e,z⟩
def kTI(s:Nat)(row:List Nat):inV (vn s) (row.map vn)=decide (s∈row):=by
 unfold inV;rw[iL,yx,decide_eq_true_iff];constructor
 ·rintro⟨x,a,e⟩
  obtain⟨n,b,rfl⟩:=iK.mp a;have:((n:Int) == (s:Int))=true:=e
  have:n=s:=by
   have:=eq_of_beq this;omega
  subst this;exact b
 ·intro h
  exact⟨vn s,iK.mpr ⟨s,h,rfl⟩,(beq_self_eq_true (s:Int))⟩
def kQE(row:List Nat):(row.map vn).all uE=true:=by
 rw[Gz,ug];intro x _
 rfl
def kNT(row:List Nat)(q:Nat):((row.map ci).eraseIdx (row.idxOf q)).map V.int=(jS row q).map vn:=by
 unfold jS;rw[qV,wZ ci]
def kIE{L:Rows}{i j:Nat}{r:List Nat}{row:List Nat}(h:L[j]?=some row)(n:i≠j):(L.set i r)[j]?=some row:=by rw[eW n];exact h
inductive kLJ(vs:List V)(H:Hp)(Q:VK)(Y:XK):Prop
 | mk:∀(r:ay)(A:List ay)(L:Rows)(p q:Nat),(vs=[.ref r,vn p,vn q])->(RowsAt H r A L)->(Good L)->(L.length<=150)->(E L p q)->(∀(L':Rows)(H':Hp),ButRows r A H H'->RowsAt H' r A L'->Good L'->L'.length=L.length->Q .non H')->kLJ vs H Q Y
def kAX(B:Fx):Hs "_law_flip" ["_law_rows","_law_p","_law_q"] 2 (kLJ):=by
 refine qI B.X B.d33 kAH λ f a7 A a3 s H vs Q E nN C h=>?_;obtain⟨r,Y,L,p,q,rfl,X,G,hL,hE,k⟩:=h
 refine⟨_,(kD (pst 3 nN (pf (yX B) C (kE (pv 0) (kE (pv 1) (kE (pv 2) kU)))))
   (kD (pst 4 nN (pf (yX B) C (kE (pv 0) (kE (pv 2) (kE (pv 1) kU)))))
   (kJ (xH (PW.pt (kSD (qJ oP (pv 3) (pv 4) (qS _)) (kPB (qJ wV (pv 4) (pix kW (pv 0) (pv 3)) rfl)))) (kD (qK (jO Cb Cc oR (pix kW (pv 0) (pv 1)) (p1 (pv 2))))
   (kD (qK (jO Cb Cc oR (pix kW (pv 0) (pv 2)) (p1 (pv 1))))
   (kD (qK (pf (xL B) C (kE (pv 0) (kE (pv 3) (kE (pv 1) (kE (pv 4) kU))))))
   (kJ (qK (pf (xL B) C (kE (pv 0) (kE (pv 4) (kE (pv 2) (kE (pv 3) kU)))))))))) qM)))),?_⟩
 try dsimp only[qQ]
 obtain⟨d,y,D⟩:=G.sym hE;obtain⟨a,hp,mp⟩:=hE;obtain⟨t,ht⟩:=wS D;obtain⟨u,hu⟩:=wS mp;have f:=yV (G.nd q d y) D ht;have f':=yV (G.nd p a hp) mp hu;have Fq:R L q t p:=⟨d,y,f⟩;have Fp:R L p u q:=⟨a,hp,f'⟩;have Ft:=G.tri _ _ _ Fq;have Fu:=G.tri _ _ _ Fp;obtain⟨rt,g,nt⟩:=id Ft;obtain⟨ru,l,nu⟩:=id Fu;obtain⟨lq,lt,lp,tq,pq⟩:=yQ G Fq;obtain⟨_,lu,_,a6,qp⟩:=yQ G Fp;obtain⟨_,_,_,pt,qt⟩:=yQ G Ft;obtain⟨_,_,_,qu,pu⟩:=yQ G Fu;obtain⟨aX,_,U,Z⟩:=X.at y;refine⟨_,rfl,_,rfl,_,rfl,r,aX,_,p,q,d,t,rfl,.inl ⟨X.top,U⟩,Z,D,ht,?_⟩;obtain⟨aY,_,a2,a1⟩:=X.at hp;refine⟨_,rfl,_,rfl,_,rfl,r,aY,_,q,p,a,u,rfl,.inl ⟨X.top,a2⟩,a1,mp,hu,?_⟩;have stay:=k L H (λ _ _ _ _ h=>h) X G rfl;refine⟨_,rfl,_,rfl,rfl,_,rfl,?_⟩;refine kEE (λ c=>?_) (λ c=>xE stay);have tu:t≠u:=λ z=>by subst z;simp[vn]at c
 obtain⟨at',a5,T,I⟩:=X.at g;refine⟨_,rfl,_,rfl,_,rfl,r,_,_,_,rfl,rfl,SqL.of X.top,I,at',_,rfl,.inl (SqL.of T),rfl,kQE _,_,rfl,?_⟩;rw[kTI];refine kEE (λ c2=>?_) (λ c2=>stay);have ut:u∉rt:=λ z=>by simp[z]at c2
 have gd:=kJK G hp y g l f f' tu ut
 obtain⟨S,v,x,O⟩:=X.at hp;refine⟨_,rfl,_,rfl,r,_,_,_,rfl,rfl,SqL.of X.top,O,.inl ⟨rfl,_,SqL.of x⟩,_,rfl,S,a.map ci,q,a.idxOf q,rfl,rfl,(by rw[x,qV]),kZ mp,?_⟩;rw[kNT];have J:=X.set v (jS a q);have a4:=kIE (i:=p) (r:=jS a q) y pq;obtain⟨aq,m,n,a0⟩:=J.at a4;refine⟨_,rfl,_,rfl,r,_,_,_,rfl,rfl,SqL.of J.top,a0,.inl ⟨rfl,_,SqL.of n⟩,_,rfl,aq,d.map ci,p,d.idxOf p,rfl,rfl,(by rw[n,qV]),kZ D,?_⟩;rw[kNT];have X2:=J.set m (jS d p)
 have b2:ButRows r Y H (upd (upd H S (.lst ((jS a q).map vn))) aq (.lst ((jS d p).map vn))):=λ b o h1 h2 h=>by
  rw[kK (λ z=>h2 (by rw[z];exact eA m)),kK (λ z=>h2 (by rw[z];exact eA v))];exact h
 generalize upd (upd H S (.lst ((jS a q).map vn))) aq (.lst ((jS d p).map vn))=H2 at *;have N:=kIE (i:=q) (r:=jS d p) (kIE (i:=p) (r:=jS a q) g pt) qt;refine⟨_,rfl,_,rfl,_,rfl,_,rfl,r,Y,_,t,p,u,rt,rfl,X2,N,(kT nt).1,(by have:=cB G g;omega),λ H3 b3 X3=>?_⟩;have M:=kIE (i:=t) (r:=jH rt p u) (kIE (i:=q) (r:=jS d p) (kIE (i:=p) (r:=jS a q) l pu) qu) tu;refine⟨_,rfl,_,rfl,_,rfl,_,rfl,r,Y,_,u,q,t,ru,rfl,X3,M,(kT nu).1,(by have:=cB G l;omega),λ H4 b4 X4=>?_⟩;exact k _ H4 (b2.trans (b3.trans b4)) X4 gd (by simp[zL])
structure Some'(L:Rows):Prop where
 pos:0<L.length
 le:L.length<=150
 ne:∀(p:Nat)(row:List Nat),L[p]?=some row->row≠[]/\row.length<=1000
def RowsAt.but{H H':Hp}{r a:ay}{A:List ay}{L:Rows}(x:RowsAt H r A L)(h1:a≠r)(h:a∉A)(g:SameBut a H H'):RowsAt H' r A L :=
 ⟨g _ _ h1.symm x.top,x.len,x.nd,x.out,λ i b d c f=>g _ _ (λ z=>h (z ▸ eA c)) (x.row i b d c f)⟩
def kES{row:List Nat}{j:Nat}(h:j<row.length):atI (row.map vn) (j:Int)=some (vn row[j]):=jL (by rw[bh,aa h];rfl)
inductive kLG(vs:List V)(H:Hp)(Q:VK)(Y:XK):Prop
 | mk:∀(a r:ay)(A:List ay)(L:Rows),(vs=[.ref a,.ref r])->(PotAt H a)->(RowsAt H r A L)->(a≠r)->(a∉A)->(Some' L)->(∀(t:ay)(p q:Nat)(H':Hp),SameBut a H H'->PotAt H' a->H t=none->H' t=some (.tup [vn p,vn q])->E L p q->Q (.ref t) H')->kLG vs H Q Y
def WebAt(H:Hp)(t:ay)(W:Rows):Prop:=∃ b:List ay,H t=some (.tup (b.map V.ref))/\b.length=W.length/\∀(j:Nat)(a:ay)(row:List Nat),b[j]?=some a->W[j]?=some row->H a=some (.tup (row.map vn))
def WebAt.at{H:Hp}{t:ay}{W:Rows}(h:WebAt H t W):∃ ts:List ay,H t=some (.tup (ts.map V.ref))/\ts.length=W.length/\∀(q:Nat)(row:List Nat),W[q]?=some row->∃ b,atI (ts.map V.ref) (q:Int)=some (.ref b)/\H b=some (.tup (row.map vn)):=by
 obtain⟨ts,h1,c,d⟩:=h;refine⟨ts,h1,c,λ q row e=>?_⟩;have a:q<ts.length:=by rw[c];exact(au.mp e).1
 exact⟨ts[q],jL (by rw[bh,aa a];rfl),d q _ row (aa a) e⟩
def kDK{H:Hp}{a b:ay}{o:HO}(hp:PotAt H a)(e:H b=some o)(n:∀ xs,o≠.lst xs):b≠a:=λ z=>by
 obtain⟨x,y,h,_⟩:=hp;rw[z,h]at e;exact n _ (cc e).symm
def WebAt.pot{H H':Hp}{a t:ay}{W:Rows}(h:WebAt H t W)(g:SameBut a H H')(hp:PotAt H a):WebAt H' t W:=by
 obtain⟨i,h1,l,f⟩:=h;exact⟨i,g _ _ (kDK hp h1 (by simp)) h1,l,λ j b row c d=>g _ _ (kDK hp (f j b row c d) (by simp)) (f j b row c d)⟩
def WebAt.kept{H H':Hp}{t:ay}{W:Rows}(h:WebAt H t W)(g:Same H H'):WebAt H' t W:=by
 obtain⟨d,h1,i,f⟩:=h;exact⟨d,g _ _ h1,i,λ j a row b c=>g _ _ (f j a row b c)⟩
inductive kFH(vs:List V)(H:Hp)(Q:VK)(Y:XK):Prop
 | mk:∀(a r:ay)(W:Rows),(vs=[.ref a,.ref r])->(PotAt H a)->(WebAt H r W)->(0<W.length)->(W.length<=150)->((∀(p:Nat)(row:List Nat),W[p]?=some row->row≠[]/\row.length<=1000))->(∀(t:ay)(p q:Nat)(H':Hp),SameBut a H H'->PotAt H' a->H t=none->H' t=some (.tup [vn p,vn q])->E W p q->Q (.ref t) H')->kFH vs H Q Y
def kOR:Sp:=λ a H Q E=>kLG a H Q E\/kFH a H Q E
def uA(B:Fx):Hs "_law_step" ["_law_pot_here","_law_rows"] 2 (kOR):=by
 refine qI B.X B.d34 kAG λ f a6 A U s H vs Q E nN N h=>?_;rcases h with h | h
 ·obtain⟨a,r,A1,L,rfl,M,X,G,u,S,k⟩:=h
  refine⟨_,(kD (pst 2 nN (pf (jG B) N (p2 (pv 0) (kM kP rfl (B.z B.y0) eg (p1 (pv 1))))))
   (kJ (kS (jJ (p2 (pv 2) (pix kW (pix kW (pv 1) (pv 2)) (pf (jG B) N (p2 (pv 0) (kM kP rfl (B.z B.y0) eg (p1 (pix kW (pv 1) (pv 2)))))))))))),?_⟩
  try dsimp only[qQ]
  have lA:((A1.map V.ref).length:Int)=L.length:=by rw[aj,X.len]
  have sp:=S.pos;have sl:=S.le;refine⟨_,rfl,_,rfl,r,_,rfl,.inl (SqL.of X.top),a,_,rfl,M,(by omega),mW (by rw[lA];exact gx (m:=150) (by omega) (by decide)),λ d H1 Z Y n p1=>?_⟩;rw[lA]at Y;obtain⟨p,rfl⟩:=pd Z;have hp:p<L.length:=by omega
  have O:=X.but G u n;have b:=aa hp;obtain⟨ap,e1,e2,e3⟩:=O.at b;obtain⟨l,a2⟩:=S.ne p _ b;have D:0<L[p].length:=zf.mpr l;have J:((L[p].map vn).length:Int)=L[p].length:=by rw[aj]
  refine⟨_,rfl,_,rfl,_,rfl,r,_,_,_,rfl,rfl,SqL.of O.top,e3,_,rfl,_,rfl,_,rfl,r,_,_,_,rfl,rfl,SqL.of O.top,e3,ap,_,rfl,.inl (SqL.of e2),a,_,rfl,p1,(by omega),mW (by rw[J];exact gx (m:=1000) (by omega) (by decide)),λ d' H2 c0 c1 i p2=>?_⟩;rw[J]at c1;obtain⟨j,rfl⟩:=pd c0;have C:j<L[p].length:=by omega
  have X2:=O.but G u i;have a1:ap≠a:=λ z=>u (z ▸ eA e1);refine⟨ap,_,_,_,rfl,rfl,SqL.of (i _ _ a1 e2),kES C,yS2,λ t g=>?_⟩;have v:=kC g (.tup [vn p,vn L[p][j]])
  have q:H t=none:=by
   cases e:H t with
   | none=>rfl
   | some o =>
    have ta:t≠a:=λ z=>by
     obtain⟨x,y,w,_⟩:=p2;rw[z,w]at g;cases g
    rw[(n.trans i) t o ta e]at g;cases g
  exact k t p L[p][j] _ (n.trans (i.trans (.of v))) (p2.kept v) q kB ⟨_,b,gh C⟩
 ·obtain⟨a,r,W,rfl,M,hW,w0,w1,wl,k⟩:=h
  refine⟨_,(kD (pst 2 nN (pf (jG B) N (p2 (pv 0) (kM kP rfl (B.z B.y0) eg (p1 (pv 1))))))
   (kJ (kS (jJ (p2 (pv 2) (pix qC (pix qC (pv 1) (pv 2)) (pf (jG B) N (p2 (pv 0) (kM kP rfl (B.z B.y0) eg (p1 (pix qC (pv 1) (pv 2)))))))))))),?_⟩
  try dsimp only[qQ]
  obtain⟨ts,h1,a3,h3⟩:=hW.at;have eL:((ts.map V.ref).length:Int)=(W.length:Int):=by rw[aj,a3]
  refine⟨_,rfl,_,rfl,r,_,rfl,.inr (SqT.of h1),a,_,rfl,M,(by omega),mW (by rw[eL];exact gx (m:=150) (by omega) (by decide)),λ d H1 Z Y n p1=>?_⟩;rw[eL]at Y;obtain⟨p,rfl⟩:=pd Z;have hp:p<W.length:=by omega
  have W1:=hW.pot n M;obtain⟨a5,I,a4,a0⟩:=W1.at;have b:=aa hp;obtain⟨b1,f1,f2⟩:=a0 p W[p] b;obtain⟨l,a2⟩:=wl p _ b;have D:0<W[p].length:=zf.mpr l;have J:((W[p].map vn).length:Int)=W[p].length:=by rw[aj]
  refine⟨_,rfl,_,rfl,_,rfl,r,_,_,_,rfl,rfl,SqT.of I,f1,_,rfl,_,rfl,_,rfl,r,_,_,_,rfl,rfl,SqT.of I,f1,b1,_,rfl,.inr (SqT.of f2),a,_,rfl,p1,(by omega),mW (by rw[J];exact gx (m:=1000) (by omega) (by decide)),λ c H2 c0 c1 i p2=>?_⟩;rw[J]at c1;obtain⟨j,rfl⟩:=pd c0;have C:j<W[p].length:=by omega
  have T:=i _ _ (kDK p1 f2 (by simp)) f2;refine⟨b1,_,_,_,rfl,rfl,SqT.of T,kES C,yS2,λ t g=>?_⟩;have v:=kC g (.tup [vn p,vn W[p][j]])
  have q:H t=none:=by
   cases e:H t with
   | none=>rfl
   | some o =>
    have ta:t≠a:=λ z=>by
     obtain⟨x,y,w,_⟩:=p2;rw[z,w]at g;cases g
    rw[(n.trans i) t o ta e]at g;cases g
  exact k t p W[p][j] _ (n.trans (i.trans (.of v))) (p2.kept v) q kB ⟨_,b,gh C⟩
def cN{L:Rows}(G:Good L)(h:L.length<=150):Some' L :=
 ⟨by have:=G.three;omega,h,λ p row e=>⟨G.ne p row e,by have:=cB G e;omega⟩⟩
structure New(H:Hp)(a r:ay)(A:List ay):Prop where
 top:H r=none
 all:∀ x∈A,H x=none
 pot:a≠r/\a∉A
def New.but{H f d:Hp}{a r:ay}{A:List ay}(n:New H a r A)(s:SameBut a H f)(b:ButRows r A f d):SameBut a H d:=λ c o g e =>
 b c o (kF e n.top) (λ z=>by rw[n.all c z]at e;cases e) (s c o g e)
def PotAt.rows{H H':Hp}{a r:ay}{A:List ay}(h:PotAt H a)(h1:a≠r)(c:a∉A)(b:ButRows r A H H'):PotAt H' a:=by
 obtain⟨x,y,e,z⟩:=h;exact⟨x,y,b _ _ h1 c e,z⟩
inductive fT(vs:List V)(H:Hp)(Q:VK)(Y:XK):Prop
 | mk:∀(a:ay)(n:Nat),(vs=[.ref a,vn n])->(PotAt H a)->(3<=n)->(n<=40)->(∀(r:ay)(A:List ay)(L:Rows)(H':Hp),SameBut a H H'->PotAt H' a->RowsAt H' r A L->Good L->L.length=n->New H a r A->Q (.ref r) H')->fT vs H Q Y
def kEI{H:Hp}{c d f r:ay}(G:H c=none)(B:upd H c (.lst [vn 1,vn 2]) d=none)(v:upd (upd H c (.lst [vn 1,vn 2])) d (.lst [vn 2,vn 0]) f=none)
  (l:upd (upd (upd H c (.lst [vn 1,vn 2])) d (.lst [vn 2,vn 0])) f (.lst [vn 0,vn 1]) r=none) :
  RowsAt (upd (upd (upd (upd H c (.lst [vn 1,vn 2])) d (.lst [vn 2,vn 0])) f (.lst [vn 0,vn 1])) r (.lst [.ref c,.ref d,.ref f])) r [c,d,f] [[1,2],[2,0],[0,1]]/\Same H (upd (upd (upd (upd H c (.lst [vn 1,vn 2])) d (.lst [vn 2,vn 0])) f (.lst [vn 0,vn 1])) r (.lst [.ref c,.ref d,.ref f])):=by
 have D:=kC G (.lst [vn 1,vn 2]);have m:=kC B (.lst [vn 2,vn 0]);have g:=kC v (.lst [vn 0,vn 1]);have h:=kC l (.lst [.ref c,.ref d,.ref f]);have h1:=h _ _ (g _ _ (m _ _ (kB (H:=H) (a:=c) (o:=.lst [vn 1,vn 2]))));have C:=h _ _ (g _ _ (kB (H:=upd H c (.lst [vn 1,vn 2])) (a:=d) (o:=.lst [vn 2,vn 0])));have I:=h _ _ (kB (H:=upd (upd H c (.lst [vn 1,vn 2])) d (.lst [vn 2,vn 0])) (a:=f) (o:=.lst [vn 0,vn 1]));have s:c≠d:=kF (kB (H:=H) (a:=c) (o:=.lst [vn 1,vn 2])) B;have q:c≠f:=kF (m _ _ (kB (H:=H) (a:=c) (o:=.lst [vn 1,vn 2]))) v;have x:d≠f:=kF (kB (H:=upd H c (.lst [vn 1,vn 2])) (a:=d) (o:=.lst [vn 2,vn 0])) v;have u:c≠r:=kF (g _ _ (m _ _ (kB (H:=H) (a:=c) (o:=.lst [vn 1,vn 2])))) l;have A:d≠r:=kF (g _ _ (kB (H:=upd H c (.lst [vn 1,vn 2])) (a:=d) (o:=.lst [vn 2,vn 0]))) l;have y:f≠r:=kF (kB (H:=upd (upd H c (.lst [vn 1,vn 2])) d (.lst [vn 2,vn 0])) (a:=f) (o:=.lst [vn 0,vn 1])) l;refine⟨⟨kB,rfl,?_,?_,λ i b J n p=>?_⟩,D.trans (m.trans (g.trans h))⟩
 ·simp[s,q,x]
 ·simp[u.symm,A.symm,y.symm]
 ·match i with
  | 0=>cases n;cases p;exact h1
  | 1=>cases n;cases p;exact C
  | 2=>cases n;cases p;exact I
  | i+3=>simp at n
def fE(B:Fx):Hs "_law_cornered" ["_law_pot_here","_law_n"] 3 (fT):=by
 refine qI B.X B.d35 dX λ f a7 A a3 s H vs Q E I hr h=>?_;obtain⟨a,n,rfl,ha,n3,a6,k⟩:=h
 refine⟨_,(kD (pst 2 I (jQ (kE (jQ (p2 kN kN)) (kE (jQ (p2 kN kN)) (kE (jQ (p2 kN kN)) kU)))))
   (kD (dZ (jT rfl (B.z B.y4) (p1 (qB wA (pv 1) kN))) (pgn 3 I) (kD (yO (pf (uA B) hr (p2 (pv 0) (pv 2))) (jU (n:=2) rfl (kR (pgn 4 I) (kR (pgn 5 I) qY))))
   (kJ (qK (pf (kDV B) hr (kE (pv 2) (kE (pv 4) (kE (pv 5) kU))))))))
   (kD (dZ (jT rfl (B.z B.y4) (p1 (pf (jG B) hr (p2 (pv 0) (qB Own.op_mulW kN (pv 1)))))) (pgn 3 I) (kD (yO (pf (uA B) hr (p2 (pv 0) (pv 2))) (jU (n:=2) rfl (kR (pgn 4 I) (kR (pgn 5 I) qY))))
   (kJ (qK (pf (kAX B) hr (kE (pv 2) (kE (pv 4) (kE (pv 5) kU))))))))
   (kJ (kS (pv 2)))))),?_⟩
 try dsimp only[qQ]
 refine⟨yS2,λ l1 m1=>⟨yS2,λ O m2=>⟨yS2,λ l3 m3=>⟨yS3,λ r m4=>?_⟩⟩⟩⟩;obtain⟨X0,g0⟩:=kEI m1 m2 m3 m4;have p0:=ha.kept g0
 have a0:New H a r [l1,O,l3]:=by
  obtain⟨x,y,l,_⟩:=ha;have g1:=kC m1 (.lst [vn 1,vn 2]);have g2:=kC m2 (.lst [vn 2,vn 0]);have g3:=kC m3 (.lst [vn 0,vn 1]);have f2:=g1.free m2;have f3:=(g1.trans g2).free m3;have f4:=(g1.trans (g2.trans g3)).free m4;refine⟨f4,λ x u=>?_,kF l f4,λ z=>?_⟩
  ·simp at u
   rcases u with rfl | rfl | rfl
   ·exact m1
   ·exact f2
   ·exact f3
  ·simp at z
   rcases z with rfl | rfl | rfl
   ·rw[m1]at l;cases l
   ·rw[f2]at l;cases l
   ·rw[f3]at l;cases l
 generalize a4:upd (upd (upd (upd H l1 (.lst [vn 1,vn 2])) O (.lst [vn 2,vn 0])) l3 (.lst [vn 0,vn 1])) r (.lst [.ref l1,.ref O,.ref l3])=H1 at *;have T:upd (upd (upd (upd H l1 (.lst [.int 1,.int 2])) O (.lst [.int 2,.int 0])) l3 (.lst [.int 0,.int 1])) r (.lst [.ref l1,.ref O,.ref l3])=H1:=a4;rw[T]
 refine⟨_,rfl,_,_,rfl,rfl,_,rfl,by omega,by omega,xP (lo:=0) (n:=((n:Int)-3).toNat) (λ i J H2=>∃(x y z:Option V)(A:List ay)(L:Rows),J=[some (.ref a),some (vn n),some (.ref r),x,y,z]/\RowsAt H2 r A L/\Good L/\L.length=3+i/\SameBut a H H2/\PotAt H2 a/\New H a r A)
  ⟨none,none,none,_,_,rfl,X0,kEJ,rfl,.of g0,p0,a0⟩ ?_ ?_⟩
 ·rintro i J H2 hi ⟨x,y,z,C,L,rfl,X,G,hl,s2,p2,c⟩
  have g:L.length<=150:=by omega
  refine⟨_,rfl,_,rfl,.inl ⟨a,r,C,L,rfl,p2,X,c.pot.1,c.pot.2,cN G g,λ t p q H3 N S nt ht hE=>?_⟩⟩;have X3:=X.but c.pot.1 c.pot.2 N;refine⟨t,_,rfl,SqT.of ht,rfl,_,_,rfl,_,_,rfl,rfl,?_⟩;refine⟨_,rfl,_,rfl,_,rfl,r,C,L,p,q,rfl,X3,G,g,hE,λ nx L' D u b4 M G' a2=>?_⟩;have Z:=c.but (s2.trans N) b4;have p4:=S.rows c.pot.1 c.pot.2 b4
  have a1:H nx=none:=by
   cases e:H nx with
   | none=>rfl
   | some o =>
    have na:nx≠a:=λ z=>by
     obtain⟨v,w,l,_⟩:=S;rw[z,l]at u;cases u
    rw[(s2.trans N) nx o na e]at u;cases u
  refine⟨_,_,_,C++[nx],L',rfl,M,G',by omega,Z,p4,c.top,λ b hb=>?_,c.pot.1,λ z=>?_⟩
  ·rcases bu.mp hb with w | w
   ·exact c.all b w
   ·rw[de.mp w];exact a1
  ·rcases bu.mp z with w | w
   ·exact c.pot.2 w
   ·have e:=de.mp w
    obtain⟨v,w',l,_⟩:=S;rw[<-e,l]at u;cases u
 ·rintro J H2 ⟨x,y,z,C,L,rfl,X,G,hl,s2,p2,c⟩
  have hn:L.length=n:=by omega
  refine⟨_,rfl,_,rfl,_,_,rfl,rfl,⟨mW (by decide),mW (gx (m:=40) (by show((n:Int)).natAbs<=40;omega) (by decide))⟩,a,_,rfl,p2,(by show(0:Int)<2*(n:Int);omega),mW (gx (m:=80) (by show(2*(n:Int)).natAbs<=80;omega) (by decide)),λ d H3 d0 d1 N S=>?_⟩;have a5:d<2*(n:Int):=d1
  refine⟨d,rfl,by omega,by omega,xP (lo:=0) (n:=d.toNat) (λ i J D=>∃(x y z:Option V)(L:Rows),J=[some (.ref a),some (vn n),some (.ref r),x,y,z]/\RowsAt D r C L/\Good L/\L.length=n/\SameBut a H D/\PotAt D a)
   ⟨_,_,_,L,rfl,X.but c.pot.1 c.pot.2 N,G,hn,s2.trans N,S⟩ ?_ ?_⟩
  ·rintro i J D hi ⟨x,y,z,U,rfl,M,G4,Y,Z,p4⟩
   have g:U.length<=150:=by omega
   refine⟨_,rfl,_,rfl,.inl ⟨a,r,C,U,rfl,p4,M,c.pot.1,c.pot.2,cN G4 g,λ t p q H5 s5 p5 nt ht hE=>?_⟩⟩;have X5:=M.but c.pot.1 c.pot.2 s5;refine⟨t,_,rfl,SqT.of ht,rfl,_,_,rfl,_,_,rfl,rfl,?_⟩;refine⟨_,rfl,_,rfl,_,rfl,r,C,U,p,q,rfl,X5,G4,g,hE,λ L' H6 b6 X6 G' a2=>?_⟩;exact⟨_,_,_,L',rfl,X6,G',by omega,c.but (Z.trans s5) b6,p5.rows c.pot.1 c.pot.2 b6⟩
  ·rintro J D ⟨x,y,z,U,rfl,M,G4,Y,Z,p4⟩
   exact⟨_,rfl,k r C U D Z p4 M G4 Y c⟩
def kMH{b:List Nat}{i d:Nat}(h:b.Perm (cz i)):(b.take d++i::b.drop d).Perm (cz (i+1)):=by
 rw[Bo]
 have e:(b.take d++i::b.drop d).Perm (i::b):=by
  have:=FC (a:=i) (l₁:=b.take d) (l₂:=b.drop d);rw[gi]at this;exact this
 exact e.trans ((List.Perm.cons i h).trans (List.perm_append_singleton i _).symm)
def yM(xs:List V){k:Nat}(h:k<=xs.length):xZ xs (some (k:Int)) none=xs.drop k:=by
 unfold xZ;rw[HT.sIx_none,HT.sIx_nat,kh h,ka];rw[iN];exact bg _
def wB(xs:List V){k:Nat}(h:k<=xs.length):xZ xs none (some (k:Int))=xs.take k:=by
 unfold xZ;rw[HT.sIx_none,HT.sIx_nat,kh h,GD,El]
def kOK(L:Rows)(a:List Nat)(W:Rows)(p:Nat):Prop:=∀ row,L[p]?=some row->∃ n M,a[p]?=some n/\M∈row.map (λ q=>a.getD q 0)/\(∀ i∈row.map (λ q=>a.getD q 0),M<=i)/\W[n]?=some (rot (row.map λ q=>a.getD q 0) M)
inductive kLD(vs:List V)(H:Hp)(Q:VK)(Y:XK):Prop
 | mk:∀(a:ay)(n:Nat),(vs=[.ref a,vn n])->(PotAt H a)->(3<=n)->(n<=40)->(∀(t:ay)(W:Rows)(H':Hp),SameBut a H H'->PotAt H' a->WebAt H' t W->W.length=n->Good W->(∀(p:Nat)(row:List Nat),W[p]?=some row->Can row)->Q (.ref t) H')->kLD vs H Q Y
def kPZ{n j:Nat}(h:j<n):ixN n (j:Int)=some j:=by
 unfold ixN;rw[if_pos (by omega),if_pos (by omega),iI]
def kY{H a:Hp}{D:ay}{o:HO}(n:H D=none)(g:Same H a):Same H (upd a D o):=λ b u e=>by
 rw[kK (kF e n)];exact g b u e
def kLX(n:Nat)(e:ay):(eQ n [V.ref e]).flatten=(eQ n e).map V.ref:=by
 induction n with
 | zero=>rfl
 | succ n ih=>rw[uv,uv,yj,ih];rfl
end
section
def gK{n k:Nat}(h:k<=n):HT.sIx n 0 (some (k:Int))=k:=by rw[HT.sIx_nat,kh h]
def rN{n k:Nat}(h:k<=n):HT.sIx n n (some (k:Int))=k:=by rw[HT.sIx_nat,kh h]
def rO(a:List Nat)(x:Nat):(a.map vn).drop (a.idxOf x)++(a.map vn).take (a.idxOf x)=(rot a x).map vn:=by unfold rot;rw[eN,BJ,AB]
inductive tZ(vs:List V)(H:Hp)(Q:VK)(Y:XK):Prop
 | mk:∀(a:ay)(ns:List Nat)(x:Nat),(vs=[.ref a,vn x])->((H a=some (.lst (ns.map vn))\/H a=some (.tup (ns.map vn))))->(x∈ns)->(ns.length<=1000)->(∀(t:ay)(H':Hp),Same H H'->H' t=some (.tup ((rot ns x).map vn))->Q (.ref t) H')->tZ vs H Q Y
def kDY(B:Fx):Hs "from_on" ["row","first"] 1 (tZ):=by
 refine qI B.X B.d2 kDF λ f C A o s H I Q E v J h=>?_;obtain⟨D,a,m,rfl,b,i,u,k⟩:=h;have G:=fe i;have d:(a.map vn).length=a.length:=aj _;rcases b with b | b
 ·refine⟨_,(kD (pst 2 v (jO jg jh yI (pv 0) (p1 (pv 1))))
   (kJ (kS (jC jK rfl (B.z B.y5) ie (p1 (qB aF (qG jZ (pv 0) (qH (pv 2)) jE) (qG jZ (pv 0) jE (qH (pv 2))))))))),?_⟩
  try dsimp only[qQ]
  refine⟨_,rfl,.inl ⟨rfl,_,SqL.of b⟩,_,rfl,D,a.map ci,m,a.idxOf m,rfl,rfl,(by rw[b,qV]),kZ i,?_⟩;refine⟨_,rfl,_,rfl,_,rfl,D,_,rfl,SqL.of b,λ p1 p=>?_⟩;rw[yM _ (by rw[d];omega)];have h1:=kC p (.lst ((a.map vn).drop (a.idxOf m)));refine⟨_,rfl,_,rfl,_,rfl,D,_,rfl,SqL.of (h1 _ _ b),λ p2 l=>?_⟩;rw[wB _ (by rw[d];omega)];have g:=kC l (.lst ((a.map vn).take (a.idxOf m)));refine⟨p1,p2,_,_,rfl,rfl,g _ _ kB,kB,(by rw[iN,eJ,d];exact kl (kQ (by omega))),λ n r=>?_⟩;have q:=kC r (.lst ((a.map vn).drop (a.idxOf m)++(a.map vn).take (a.idxOf m)));refine⟨n,_,rfl,.inl ⟨SqL.of kB,λ t x=>?_⟩⟩;exact k t _ (h1.trans (g.trans (q.trans (kC x _)))) (by rw[<-rO];exact kB)
 ·refine⟨_,(kD (pst 2 v (dD mo mv mw zB (pv 0) (p1 (pv 1))))
   (kJ (kS (jC jK rfl (B.z B.y5) ie (p1 (qB kGI (qG rC (pv 0) (qH (pv 2)) jE) (qG rC (pv 0) jE (qH (pv 2))))))))),?_⟩
  try dsimp only[qQ]
  refine⟨_,rfl,.inr (.inl ⟨rfl,.inr ⟨_,b⟩⟩),_,rfl,D,a.map ci,m,a.idxOf m,rfl,rfl,SqT.of (by rw[b,qV]),kZ i,?_⟩;by_cases z:a.idxOf m=0
  ·have y:rot a m=a:=by unfold rot;rw[z];simp
   rw[y]at k;refine⟨_,rfl,_,rfl,_,rfl,.inr ⟨D,_,rfl,SqT.of b,⟨by rw[z,d];exact gK (k:=0) (fj _),HT.sIx_none _ _⟩,?_⟩⟩;refine⟨_,rfl,_,rfl,_,rfl,.inl ⟨D,_,rfl,SqT.of b,(λ c=>by rw[d,rN (by omega)]at c;omega),λ p2 l=>?_⟩⟩;rw[wB _ (by rw[d];omega),z];have g:=kC l (.tup ((a.map vn).take 0));refine⟨D,p2,_,_,rfl,rfl,SqT.of (g _ _ b),SqT.of kB,(λ c=>by rw[BY]at c;rw[c]at i;cases i),(by rw[d];simp;exact kLO u),λ _=>?_,λ c=>absurd rfl c⟩;exact⟨D,_,rfl,.inr ⟨SqT.of (g _ _ b),k D _ g (g _ _ b)⟩⟩
  ·refine⟨_,rfl,_,rfl,_,rfl,.inl ⟨D,_,rfl,SqT.of b,(λ c=>by rw[d,gK (by omega)]at c;exact z c.1),λ p1 p=>?_⟩⟩
   rw[yM _ (by rw[d];omega)];have h1:=kC p (.tup ((a.map vn).drop (a.idxOf m)));refine⟨_,rfl,_,rfl,_,rfl,.inl ⟨D,_,rfl,SqT.of (h1 _ _ b),(λ c=>by rw[d,rN (by omega)]at c;omega),λ p2 l=>?_⟩⟩;rw[wB _ (by rw[d];omega)];have g:=kC l (.tup ((a.map vn).take (a.idxOf m)));refine⟨p1,p2,_,_,rfl,rfl,SqT.of (g _ _ kB),SqT.of kB,(λ c=>by have:=congrArg iV c;rw[iN,d,qv]at this;omega),(by rw[iN,eJ,d];exact kLO (by omega)),(λ c=>by have:=congrArg iV c;rw[eJ,d,qv]at this;omega),λ _ n r=>?_⟩;have q:=kC r (.tup ((a.map vn).drop (a.idxOf m)++(a.map vn).take (a.idxOf m)));refine⟨n,_,rfl,.inr ⟨SqT.of kB,?_⟩⟩;exact k n _ (h1.trans (g.trans q)) (by rw[<-rO];exact kB)
end
section
def yY(s:Nat)(row:List Nat):inV (vn s) (row.map vn)=decide (s∈row):=by
 unfold inV;rw[iL,yx,decide_eq_true_iff];constructor
 ·rintro⟨y,a,e⟩
  obtain⟨n,b,rfl⟩:=iK.mp a;have:(n:Int)=s:=by simpa[eqV,vn] using e
  rw[show s=n by omega];exact b
 ·intro h
  exact⟨vn s,iK.mpr ⟨s,h,rfl⟩,by simp[eqV,vn]⟩
def yL(row:List Nat):(row.map vn).all uE=true:=by
 rw[ug];intro y a;obtain⟨n,b,rfl⟩:=iK.mp a
 rfl
inductive oB(vs:List V)(H:Hp)(Q:VK)(Y:XK):Prop
 | mk:∀(t z:ay)(W:Rows)(p q:Nat),(vs=[.ref t,.ref z])->(WebAt H t W)->(H z=some (.tup [vn p,vn q]))->(Nb W)->(E W p q)->(∀(y:ay)(H':Hp),Same H H'->H y=none->H' y=some (.tup [vn (nxt W (p,q)).1,vn (nxt W (p,q)).2])->Q (.ref y) H')->oB vs H Q Y
def kPA{W:Rows}(S:Nb W){q v p:Nat}(h:R W q v p):∃ row,W[q]?=some row/\p∈row/\xI row p=some v:=by
 obtain⟨row,e,n⟩:=h;exact⟨row,e,(kT n).2,rV (S.nd _ _ e) n⟩
def oQ(B:Fx):Hs "behind" ["web","step"] 1 (oB):=by
 refine qI B.X B.d5 kII λ f D A a s H I Q E d J h=>?_;obtain⟨t,z,W,p,q,rfl,u,i,S,r,k⟩:=h
 refine⟨_,(kD (yO (pv 1) (jU (n:=2) rfl (kR (pgn 2 d) (kR (pgn 3 d) qY))))
   (kD (pst 4 d (pix qC (pv 0) (pv 3)))
   (kJ (kS (jJ (p2 (pv 3) (pix qC (pv 4) (qB wA (dD mo mv mw zB (pv 4) (p1 (pv 2))) kN)))))))),?_⟩
 try dsimp only[qQ]
 obtain⟨v,l,m,_⟩:=xO S r;obtain⟨row,C,hp,G⟩:=kPA S l;obtain⟨L,h1,_,x⟩:=u.at;obtain⟨b,o,c⟩:=x q row C;rw[m]at k;refine⟨_,rfl,z,_,rfl,SqT.of i,rfl,_,_,rfl,_,_,rfl,rfl,?_⟩;refine⟨_,rfl,_,rfl,t,_,_,_,rfl,rfl,SqT.of h1,o,?_⟩;refine⟨_,rfl,_,rfl,_,rfl,.inr (.inl ⟨rfl,.inr ⟨_,c⟩⟩),_,rfl,b,row.map ci,p,row.idxOf p,rfl,rfl,SqT.of (by rw[c,qV]),kZ hp,_,_,rfl,rfl,b,_,_,_,rfl,rfl,SqT.of c,tE hp G,yS2,λ y g=>?_⟩;exact k y _ (kC g _) g kB
def prD(x y:Nat):Bn:=.tuple [.int (x:Int),.int (y:Int)]
def gR(x y:Nat):ud (prD x y)=true:=by
 first | rfl | simp[prD,ud,qi,kb,rj,ni]
def kGC(x y u v:Nat):og (prD x y) (prD u v)=decide (x=u/\y=v):=by
 have e:∀ i j:Nat,((i:Int) == (j:Int))=decide (i=j):=λ i j=>by
  rw[iL,beq_iff_eq,decide_eq_true_iff];omega
 simp[prD,og,ji,e]
def kNW{K:bb}{H:Hp}{z:ay}{x y:Nat}(h:H z=some (.tup [vn x,vn y])):Dt K H (prD x y) (.ref z):=by
 unfold prD Dt;exact⟨z,_,rfl,SqT.of h,by simp only[DtAll,Dt];exact⟨_,_,rfl,rfl,_,_,rfl,rfl,rfl⟩⟩
def PairsAt(H:Hp)(s:ay)(T:List (Nat×Nat)):Prop:=∃ a:List ay,H s=some (.lst (a.map V.ref))/\a.length=T.length/\∀(i:Nat)(b:ay)(t:Nat×Nat),a[i]?=some b->T[i]?=some t->H b=some (.tup [vn t.1,vn t.2])
def PairsAt.kept{H H':Hp}{s:ay}{T:List (Nat×Nat)}(h:PairsAt H s T)(g:Same H H'):PairsAt H' s T:=by
 obtain⟨a,h1,l,f⟩:=h;exact⟨a,g _ _ h1,l,λ i b t c d=>g _ _ (f i b t c d)⟩
def PairsAt.app{H H':Hp}{s b:ay}{a:List ay}{T:List (Nat×Nat)}{t:Nat×Nat}(h1:H s=some (.lst (a.map V.ref)))(h:a.length=T.length)(n:∀(i:Nat)(b:ay)(t:Nat×Nat),a[i]?=some b->T[i]?=some t->H b=some (.tup [vn t.1,vn t.2]))(l:H b=some (.tup [vn t.1,vn t.2])) :
  PairsAt (upd H s (.lst (a.map V.ref++[.ref b]))) s (T++[t]):=by
 refine⟨a++[b],by rw[eN];exact kB,by simp[h],λ i c u d f=>?_⟩;have g:c≠s->upd H s (.lst (a.map V.ref++[.ref b])) c=H c:=λ z=>kK z;by_cases m:i<a.length
 ·rw[cm m]at d
  rw[cm (by omega)]at f;have:=n i c u d f;rw[g (wI this h1 (by simp))];exact this
 ·have:i=a.length:=by
   have:=(au.mp d).1;simp at this;omega
  subst this;rw[gn]at d;rw[h,gn]at f;cases d
  cases f
  rw[g (wI l h1 (by simp))];exact l
def orb(W:Rows)(p q k:Nat):List (Nat×Nat):=(cz k).map λ i=>it (nxt W) i (p,q)
def kMN(W:Rows)(p q k:Nat):orb W p q (k+1)=orb W p q k++[it (nxt W) k (p,q)]:=by
 unfold orb;rw[Bo,eN]
 rfl
def rZ(W:Rows)(p q k:Nat):(orb W p q k).length=k:=by simp[orb]
structure Turns(W:Rows)(p q k:Nat):Prop where
 pos:0<k
 back:it (nxt W) k (p,q)=(p,q)
 first:∀ j,0<j->j<k->it (nxt W) j (p,q)≠(p,q)
 few:k<=(kO W).length
def kKJ{W:Rows}(S:Nb W){p q:Nat}(h:E W p q):∃ k,Turns W p q k:=by
 obtain⟨k,h1,c,b,a⟩:=(gZ S.nd S.sym).comes (mem_steps.mpr h);exact⟨k,h1,b,a,c⟩
def aS{W:Rows}(S:Nb W)(h:W.length<=42):(kO W).length<=1764:=by
 rw[yE]
 have:∀(L:List (List Nat))(n:Nat),(∀ r∈L,r.length<=n)->(L.map iV).sum<=L.length*n:=λ L n b=>by
  induction L with
  | nil=>simp
  | cons r L ih =>
   have h1:=b r (by simp);have d:=ih λ r a=>b r (by simp[a]);simp only[eX,Dc,eh,Nat.add_mul,Nat.one_mul];omega
 have h1:=this W W.length λ r a=>by
  obtain⟨i,c,rfl⟩:=fc.mp a;exact S.len (aa c)
 have d:W.length*W.length<=42*42:=Nat.mul_le_mul h h;omega
inductive tV(vs:List V)(H:Hp)(Q:VK)(Y:XK):Prop
 | mk:∀(w z:ay)(W:Rows)(p q:Nat),(vs=[.ref w,.ref z])->(WebAt H w W)->(Nb W)->(W.length<=42)->(H z=some (.tup [vn p,vn q]))->(E W p q)->(∀(s:ay)(k:Nat)(H':Hp),Same H H'->Turns W p q k->PairsAt H' s (orb W p q k)->Q (.ref s) H')->tV vs H Q Y
def lO:Option HO->Nat
 | some (.lst xs)=>xs.length
 | some (.dK kvs)=>kvs.length
 | _=>0
def kUV(b:Nat)(a:St)(H:Hp):Nat:=match a with
 | [_,_,some (.ref s),_]=>b-lO (H s)
 | _=>0
def vZ(B:Fx):Hs "steps_round" ["web","step"] 2 (tV):=by
 refine qI B.X B.d6 fZ λ f a5 A O s0 H vs Q E nN hr h=>?_;obtain⟨w,z,W,p,q,rfl,hW,S,a1,M,hE,k⟩:=h
 refine⟨_,(kD (pst 2 nN (jQ (p1 (pv 1))))
   (kD (pst 3 nN (pf (oQ B) hr (p2 (pv 0) (pv 1))))
   (kD (kME FQ (qJ (kDP hr.units) (pv 3) (pv 1) (qS _)) (kD (qK (jO iu iw xD (pv 2) (p1 (pv 3))))
   (kJ (pst 3 nN (pf (oQ B) hr (p2 (pv 0) (pv 3)))))))
   (kJ (kS (pv 2)))))),?_⟩
 try dsimp only[qQ]
 obtain⟨n,T⟩:=kKJ S hE;have D:=aS S a1;have n9:=T.few;refine⟨_,rfl,yS1,λ s ns=>?_⟩;have gs:=kC ns (.lst [.ref z]);refine⟨_,rfl,_,rfl,w,z,W,p,q,rfl,hW.kept gs,gs _ _ M,S,hE,λ y H1 g1 ny x=>?_⟩;have U:=g1 _ _ (kB (H:=H) (a:=s) (o:=.lst [.ref z]));have G:=gs.trans g1
 refine kKE (λ Y g=>∃(y:ay)(i:Nat)(r:List ay),Y=[some (.ref w),some (.ref z),some (.ref s),some (.ref y)]/\Same H g/\0<i/\i<=n /\
   g s=some (.lst (r.map V.ref))/\r.length=i/\(∀(j:Nat)(b:ay)(t:Nat×Nat),r[j]?=some b->(orb W p q i)[j]?=some t->g b=some (.tup [vn t.1,vn t.2]))/\g y=some (.tup [vn (it (nxt W) i (p,q)).1,vn (it (nxt W) i (p,q)).2])) (kUV (n+1))
  ⟨y,1,[z],rfl,G,by omega,T.pos,U,rfl,(λ j b t J L=>?_),x⟩ ?_ ?_
 ·match j,J with
  | 0,J =>
   cases J
   have:t=(p,q):=by
    have:(orb W p q 1)[0]?=some (p,q):=rfl;rw[this]at L;exact(cc L).symm
   rw[this];exact G _ _ M
 ·rintro Y g ⟨y,i,r,rfl,g2,i0,i1,C,Z,u,x⟩
  have a3:=g2 _ _ M;refine⟨_,rfl,_,rfl,_,prD p q,kNW x,kNW a3,gR _ _,gR _ _,_,rfl,?_⟩;rw[kGC];by_cases c:it (nxt W) i (p,q)=(p,q)
  ·rw[decide_eq_true (by rw[c];exact⟨rfl,rfl⟩)]
   have:i=n:=by
    rcases iA i n with l | l
    ·exact absurd c (T.first i i0 l)
    ·omega
   subst this;exact⟨_,rfl,k s i g g2 T ⟨r,C,by rw[rZ];exact Z,u⟩⟩
  ·rw[decide_eq_false (λ z=>c (rm z.1 z.2))]
   have lt:i<n:=by
    rcases iA i n with l | l
    ·exact l
    ·exact absurd (by rw[show i=n by omega];exact T.back) c
   refine⟨_,rfl,.inl ⟨rfl,_,SqL.of C⟩,_,rfl,s,_,_,rfl,rfl,C,(by rw[aj];exact zG (by omega)),?_⟩;have A1:=PairsAt.app (H':=g) C (by rw[rZ];exact Z) u (t:=it (nxt W) i (p,q)) x;rw[<-kMN]at A1;have gu:Same H (upd g s (.lst (r.map V.ref++[V.ref y]))):=kY ns g2;have sy:y≠s:=wI x C (by simp);have a0:upd g s (.lst (r.map V.ref++[V.ref y])) y=some (.tup [vn (it (nxt W) i (p,q)).1,vn (it (nxt W) i (p,q)).2]):=by rw[kK sy];exact x
   generalize upd g s (.lst (r.map V.ref++[V.ref y]))=H3 at *;refine⟨_,rfl,_,rfl,w,y,W,_,_,rfl,hW.kept gu,a0,S,kGU S hE i,λ y' H4 g4 a4 a2=>?_⟩;obtain⟨I,b1,N,b3⟩:=A1.kept g4;rw[rZ]at N;refine⟨⟨y',i+1,I,rfl,gu.trans g4,by omega,lt,b1,N,b3,a2⟩,?_⟩;show n+1-lO (H4 s)<n+1-lO (g s);rw[b1,C];show n+1-(I.map V.ref).length<n+1-(r.map V.ref).length;rw[aj,aj,N,Z];clear u b3 D;omega
 ·rintro Y H1 Q1 Q2 m ⟨v,J,v2,L,d,e,h1,h2,h3,h4,kk,e5,q1⟩
  exact⟨v,J,v2,L,d,e,h1,h2,h3,h4,kk,e5,m _ _ q1⟩
end
section
end
section
theorem kBZ{H:Hp}:∀{a:List ay}{T:List (Nat×Nat)},a.length=T.length->(∀(i:Nat)(b:ay)(t:Nat×Nat),a[i]?=some b->T[i]?=some t->H b=some (.tup [vn t.1,vn t.2]))->DtAll K H (T.map λ t=>prD t.1 t.2) (a.map V.ref)
 | [],[],_,_=>by unfold DtAll;rfl
 | s::a,t::T,hl,h=>by
  rw[eX,eX];unfold DtAll;exact⟨_,_,rfl,kNW (h 0 s t rfl rfl),kBZ (by simpa using hl) λ i b u c d=>h (i+1) b u (by simpa using c) (by simpa using d)⟩
 | [],_::_,hl,_=>by simp at hl
 | _::_,[],hl,_=>by simp at hl
end
section
end
section
end
section
def aA(row:List Nat):Bn:=.tuple (row.map λ n:Nat=>ig (n:Int))
def fO(W:Rows):Bn:=.tuple (W.map aA)
def kNC(l:List Nat):kb (l.map λ n:Nat=>ig (n:Int))=true/\ni (l.map λ n:Nat=>ig (n:Int))=0:=by
 induction l with
 | nil=>exact⟨rfl,rfl⟩
 | cons x l ih=>simp[kb,qi,ni,rj,ih.1,ih.2]
def kLV(row:List Nat):qi (aA row)=true/\rj (aA row)<=1:=by
 obtain⟨h1,a⟩:=kNC row;unfold aA;simp[qi,rj,h1,a]
def kKF(W:Rows):kb (W.map aA)=true/\ni (W.map aA)<=1:=by
 induction W with
 | nil=>exact⟨rfl,by decide⟩
 | cons x l ih =>
  obtain⟨h1,a⟩:=kLV x;simp only[eX,kb,ni,h1,ih.1];have:=ih.2;refine⟨rfl,?_⟩;omega
def kND(l:List Nat):ji (l.map λ n:Nat=>ig (n:Int)) (l.map λ n:Nat=>ig (n:Int))=true:=by
 induction l with
 | nil=>rfl
 | cons x l ih=>simp[ji,og,ih]
def sT{H:Hp}(row:List Nat):DtAll K H (row.map λ n:Nat=>ig (n:Int)) (row.map vn):=by
 induction row with
 | nil=>unfold DtAll;rfl
 | cons x r ih =>
  rw[eX,eX];unfold DtAll;exact⟨_,_,rfl,(by unfold Dt;rfl),ih⟩
theorem kBY{H:Hp}:∀{c:List ay}{W:Rows},c.length=W.length->(∀(j:Nat)(a:ay)(row:List Nat),c[j]?=some a->W[j]?=some row->H a=some (.tup (row.map vn)))->DtAll K H (W.map aA) (c.map V.ref)
 | [],[],_,_=>by unfold DtAll;rfl
 | s::ss,t::T,hl,h=>by
  rw[eX,eX];unfold DtAll;refine⟨_,_,rfl,?_,kBY (by simpa using hl) λ i b u d f=>h (i+1) b u (by simpa using d) (by simpa using f)⟩;unfold aA Dt;exact⟨s,_,rfl,SqT.of (h 0 s t rfl rfl),sT t⟩
 | [],_::_,hl,_=>by simp at hl
 | _::_,[],hl,_=>by simp at hl
def WebAt.dt{H:Hp}{t:ay}{W:Rows}(h:WebAt H t W):Dt K H (fO W) (.ref t):=by
 obtain⟨c,h1,b,a⟩:=h;unfold fO Dt;exact⟨t,_,rfl,SqT.of h1,kBY b a⟩
end
section
end
section
end
section
end
section
end
section
def kIT{L W:Rows}{a:List Nat}(hp:a.Perm (cz L.length))(b:W.length=L.length)(h:∀ p,p<L.length->kOK L a W p):Ren L W a:=⟨hp,b,λ p row e=>by
 obtain⟨n,M,h1,_,_,c⟩:=h p (au.mp e).1 row e;exact⟨n,(row.map λ q=>a.getD q 0).take ((row.map λ q=>a.getD q 0).idxOf M),(row.map λ q=>a.getD q 0).drop ((row.map λ q=>a.getD q 0).idxOf M),h1,(gi _ _).symm,c⟩⟩
def kIU{L W:Rows}{b:List Nat}(hp:b.Perm (cz L.length))(r:W.length=L.length)(h:∀ p,p<L.length->kOK L b W p)(x:Nat)(row:List Nat)(e:W[x]?=some row):Can row:=by
 have q:=(au.mp e).1;have d:x∈b:=hp.mem_iff.mpr (iB.mpr (by omega));obtain⟨p,c,o⟩:=fc.mp d;have l:b.length=L.length:=by rw[hp.length_eq,eY]
 have a:p<L.length:=by omega
 obtain⟨m,M,f,i,n,g⟩:=h p a _ (aa a);rw[aa c,o]at f;cases f
 rw[e]at g;cases g
 exact kOW i n
def kDT(B:Fx):Hs "_law_web" ["_law_pot_here","_law_n"] 4 (kLD):=by
 refine qI B.X B.d36 kDA λ f bd A b6 s H vs Q E nN hr h=>?_;obtain⟨a0,n0,rfl,ha,h3,b3,k⟩:=h
 refine⟨_,(kD (pst 2 nN (pf (fE B) hr (p2 (pv 0) (pv 1))))
   (kD (pst 3 nN (jQ kU))
   (kD (dZ (jT rfl (B.z B.y4) (p1 (pv 1))) (pgn 4 nN) (kJ (qK (jO CZ Ca oS (pv 3) (p2 (pf (jG B) hr (p2 (pv 0) (qB xU (pv 4) kN))) (pv 4))))))
   (kD (pst 5 nN (qB kSN (jQ (p1 (jJ kU))) (pv 1)))
   (kD (dZ (rX true rfl (B.z B.y6) (p1 (pv 2))) (jU (n:=2) rfl (kR (pgn 6 nN) (kR (pgn 7 nN) qY))) (kD (fH (i:=8) (Nc:=["_law_q","_law_names"]) (js:=[none,some 3]) rfl rfl nN rfl (AJ rfl) (xC (pv 7)) (CS.of rfl rfl) rfl (λ C a9 ab fp ac=>(pgc 0)) (λ C a9 ab fp ac D L=>(qO (jB (pix (show IxR _ (kMA K) from kW) (pv 1) (pv 0))))))
   (kD (pst 4 nN (jO jg jh yI (pv 8) (p1 (kM (kJU rfl) rfl (B.z B.y7) DX (p1 (pv 8))))))
   (kJ (yO (jC jK rfl (B.z B.y5) ie (p1 (qB aF (qG jZ (pv 8) (qH (pv 4)) jE) (qG jZ (pv 8) jE (qH (pv 4)))))) (kDM (pv 5) (pix kW (pv 3) (pv 6)) fY))))))
   (kJ (kS (jC jK rfl (B.z B.y5) ie (p1 (pv 5)))))))))),?_⟩
 try dsimp only[qQ]
 refine⟨_,rfl,_,rfl,a0,n0,rfl,ha,h3,b3,λ r A1 L H1 s1 p1 X1 GL lL NW=>?_⟩;refine⟨yS0,λ l nl=>?_⟩
 have la:l≠a0:=by
  obtain⟨x,y,z,_⟩:=p1;exact(kF z nl).symm
 have g0:=kC nl (.lst [])
 refine⟨_,rfl,(n0:Int),rfl,by omega,by omega,xP (lo:=0) (n:=(n0:Int).toNat) (λ i v H2=>∃(Z Y U x7 x8:Option V)(g:List Nat),v=[some (.ref a0),some (vn n0),some (.ref r),some (.ref l),Z,Y,U,x7,x8]/\H2 l=some (.lst (g.map vn))/\g.Perm (cz i)/\SameBut a0 H1 H2/\PotAt H2 a0)
  ⟨_,_,_,_,_,[],rfl,kB,.nil,.of g0,p1.kept g0⟩ ?_ ?_⟩
 ·rintro i v H2 hi ⟨Z,Y,U,x7,x8,g,rfl,hl,hp,s2,p2⟩
  have ln:g.length=i:=by rw[hp.length_eq,eY]
  refine⟨_,rfl,.inl ⟨rfl,_,SqL.of hl⟩,_,rfl,_,rfl,_,_,rfl,rfl,a0,_,rfl,p2,(by omega),mW (gx (m:=151) (by omega) (by decide)),λ d I d0 d1 s3 p3=>?_⟩;have am:=s3 _ _ la hl;refine⟨_,rfl,l,_,_,_,rfl,rfl,am,d0,(by omega),(by rw[aj,ln];exact kQ (by omega)),?_⟩;refine⟨_,_,_,_,_,g.take d.toNat++i::g.drop d.toNat,rfl,?_,kMH hp,(λ b o nb e=>?_),p3.other la.symm⟩
  ·rw[eN,AB,eX,BJ,show vn i=V.int (0+(i:Int)) by rw[Ak];rfl]
   exact kB
  ·rw[kK (kF e nl)]
   exact s3 b o nb (s2 b o nb e)
 rintro v H0 ⟨Z,Y,U,x7,x8,g,rfl,hl,hp,s2,p0⟩;subst lL;rw[iI]at hp;have X:=X1.but NW.pot.1 NW.pot.2 s2;have s0:=s1.trans s2;have S:=cN GL (by omega);have rng:∀(p:Nat)(row:List Nat),L[p]?=some row->∀ x∈row,x<L.length:=λ p row e x hx=>(GL.rng p row x e hx).1;clear s1 s2 p1 X1 NW nl g0 ha;have b8:g.length=L.length:=by rw[hp.length_eq,eY]
 have an:∀{j:Nat}{n:Nat},g[j]?=some n->n<L.length:=λ{j n} e=>iB.mp (hp.mem_iff.mp (eA e));have b4:g.Nodup:=hp.nodup_iff.mpr sj;have b9:=S.le;refine⟨yS0,λ e ne=>⟨yS1,λ l1 n1=>?_⟩⟩;have g1:=(kC ne (.tup [])).trans (kC n1 (.lst [.ref e]));have he:=(kC n1 (.lst [.ref e])) _ _ (kB (H:=H0) (a:=e) (o:=.tup []));have b0:=kB (H:=upd H0 e (.tup [])) (a:=l1) (o:=.lst [.ref e]);generalize upd (upd H0 e (.tup [])) l1 (.lst [.ref e])=H1 at *;refine⟨_,rfl,l1,_,_,rfl,rfl,b0,(by omega),(by omega),kl (kQ (by simp;omega)),λ f nf=>?_⟩;rw[iI,kLX];have gf:=kC nf (.lst ((eQ L.length e).map V.ref));have g2:=g1.trans gf;have ak:=gf _ _ he;have aq:=kB (H:=H1) (a:=f) (o:=.lst ((eQ L.length e).map V.ref));generalize upd H1 f (.lst ((eQ L.length e).map V.ref))=H2 at *
 refine⟨_,rfl,r,rfl,⟨_,SqL.of (g2 _ _ X.top)⟩,kNQ (k:=true) (xs:=A1.map V.ref) (λ i v I=>∃(x3 Z Y U:Option V)(G:List ay)(W:Rows),v=[some (.ref a0),some (vn L.length),some (.ref r),some (.ref l),x3,some (.ref f),Z,Y,U]/\I f=some (.lst (G.map V.ref))/\G.length=L.length/\W.length=L.length /\
   (∀(j:Nat)(a:ay)(row:List Nat),G[j]?=some a->W[j]?=some row->I a=some (.tup (row.map vn)))/\(∀ p,p<i->kOK L g W p)/\Same H0 I/\H0 f=none)
  ⟨_,_,_,_,eQ L.length e,eQ L.length [],rfl,aq,km,km,(λ j a row e1 e2=>?_),(λ p b5=>by omega),g2,g1.free nf⟩ ?_ ?_ ?_⟩
 ·have a1:=(By.mp (eA e1)).2
  have a2:=(By.mp (eA e2)).2;subst a1 a2;exact ak
 ·rintro i v I _ ⟨x3,Z,Y,U,G,W,rfl,hf,lt,lW,N,hW,g3,J⟩
  exact SqL.of (g3 _ _ X.top)
 ·rintro i x T v I hx nT ⟨x3,Z,Y,U,G,W,rfl,hf,lt,lW,N,hW,g3,J⟩
  rw[bh]at hx;obtain⟨a,ea,rfl⟩:=cv.mp hx;have hi:i<L.length:=by rw[<-X.len];exact(au.mp ea).1
  have u:=aa hi;have a8:=X.row i a _ ea u;obtain⟨ap,bc⟩:=S.ne i _ u;have rb:=rng i _ u;have gT:=g3.trans (kC nT (.tup [.int i,.ref a]));have al:=(kC nT (.tup [.int i,.ref a])) _ _ hf;have a6:∀(j:Nat)(b:ay)(row:List Nat),G[j]?=some b->W[j]?=some row->upd I T (.tup [.int i,.ref a]) b=some (.tup (row.map vn)):=λ j b row w1 w2=>(kC nT (.tup [.int i,.ref a])) _ _ (N j b row w1 w2);refine⟨T,_,rfl,SqT.of kB,rfl,_,_,rfl,_,_,rfl,rfl,?_⟩;generalize upd I T (.tup [.int i,.ref a])=H4 at *
  generalize ba:L[i]=row at *
  refine⟨_,rfl,a,rfl,⟨_,SqL.of (gT _ _ a8)⟩,λ D nD=>?_⟩;refine jM (xs:=row.map vn) (λ j v H5=>∃ x:Option V,v=[x,some (.ref l)]/\H5 D=some (.lst (((row.take j).map λ q=>g.getD q 0).map vn))/\Same H4 H5) ⟨none,rfl,kB,kC nD _⟩ ?_ ?_ ?_
  ·rintro j v H5 _ ⟨x,rfl,O,g5⟩
   exact SqL.of (g5 _ _ (gT _ _ a8))
  ·rintro j x v H5 hx ⟨y,rfl,O,g5⟩
   rw[bh]at hx;obtain⟨q,eq,rfl⟩:=cv.mp hx;have hj:j<row.length:=(au.mp eq).1;have hq:q<g.length:=by rw[b8];exact rb q (eA eq)
   refine⟨_,rfl,_,rfl,l,_,_,_,rfl,rfl,SqL.of (g5 _ _ (gT _ _ hl)),kES hq,_,O,(by rw[aj,aj,eJ];exact kQ (by omega)),?_⟩;refine⟨_,rfl,?_,kY nD g5⟩;rw[jf,eq];simp only[CB,eN,eX,Cu];rw[show g.getD q 0=g[q] by simp[ai,hq]];exact kB
  ·rintro v H5 ⟨x,rfl,O,g5⟩
   rw[aj,iW]at O;generalize hc:(row.map λ q=>g.getD q 0)=c at *;have b1:c.length=row.length:=by rw[<-hc,aj]
   have a7:0<c.length:=by rw[b1];exact zf.mpr ap
   refine⟨_,rfl,.inl ⟨rfl,_,SqL.of O⟩,_,rfl,D,c.map ci,rfl,SqL.of (by rw[O,qV]),(by rw[aj];exact a7),λ M hM b2=>?_⟩;obtain⟨m,hm,rfl⟩:=iK.mp hM
   have as:∀ j∈c,m<=j:=λ j hj=>by
    have:=b2 (ci j) (iK.mpr ⟨j,hj,rfl⟩);simp only[ci]at this;omega
   have il:=fe hm
   refine⟨D,c.map ci,m,c.idxOf m,rfl,rfl,(by rw[O,qV]),kZ hm,?_⟩
   have lv:(c.map vn).length=c.length:=aj _;refine⟨_,rfl,_,rfl,_,rfl,D,_,rfl,SqL.of O,λ p1 m1=>?_⟩;rw[yM _ (by rw[lv];omega)];have h1:=kC m1 (.lst ((c.map vn).drop (c.idxOf m)));refine⟨_,rfl,_,rfl,_,rfl,D,_,rfl,SqL.of (h1 _ _ O),λ p2 m2=>?_⟩;rw[wB _ (by rw[lv];omega)];have h2:=kC m2 (.lst ((c.map vn).take (c.idxOf m)));refine⟨p1,p2,_,_,rfl,rfl,h2 _ _ kB,kB,(by rw[iN,eJ,lv];exact kl (kQ (by omega))),λ p3 m3=>?_⟩;have h3:=kC m3 (.lst ((c.map vn).drop (c.idxOf m)++(c.map vn).take (c.idxOf m)));refine⟨p3,_,rfl,.inl ⟨SqL.of kB,λ t m4=>?_⟩⟩;have h4:=kC m4 (.tup ((c.map vn).drop (c.idxOf m)++(c.map vn).take (c.idxOf m)));have er:(c.map vn).drop (c.idxOf m)++(c.map vn).take (c.idxOf m)=(rot c m).map vn:=by unfold rot;rw[eN,BJ,AB]
   have hh:=h1.trans (h2.trans (h3.trans h4));have ht:upd (upd (upd (upd H5 p1 (.lst ((c.map vn).drop (c.idxOf m)))) p2 (.lst ((c.map vn).take (c.idxOf m)))) p3 (.lst ((c.map vn).drop (c.idxOf m)++(c.map vn).take (c.idxOf m)))) t (.tup ((c.map vn).drop (c.idxOf m)++(c.map vn).take (c.idxOf m))) t=some (.tup ((rot c m).map vn)):=by rw[<-er];exact kB
   generalize upd (upd (upd (upd H5 p1 (.lst ((c.map vn).drop (c.idxOf m)))) p2 (.lst ((c.map vn).take (c.idxOf m)))) p3 (.lst ((c.map vn).drop (c.idxOf m)++(c.map vn).take (c.idxOf m)))) t (.tup ((c.map vn).drop (c.idxOf m)++(c.map vn).take (c.idxOf m)))=H6 at *;have g6:=gT.trans (g5.trans hh);have a3:=hh _ _ (g5 _ _ al);have ag:i<g.length:=by omega
   have a4:=aa ag;have ax:=an a4;refine⟨_,rfl,_,rfl,_,rfl,l,_,_,_,rfl,rfl,SqL.of (g6 _ _ hl),kES ag,f,_,_,g[i],rfl,rfl,a3,kPZ (by rw[aj,lt];exact ax),?_⟩;refine⟨_,_,_,_,G.set g[i] t,W.set g[i] (rot c m),rfl,(by rw[List.map_set];exact kB),(by rw[BL];exact lt),(by rw[BL];exact lW),(λ j b b7 e1 e2=>?_),(λ p b5=>?_),kY J g6,J⟩
   ·have bt:b≠f->upd H6 f (.lst ((G.map V.ref).set g[i] (.ref t))) b=H6 b:=λ z=>kK z
    by_cases ej:g[i]=j
    ·subst ej
     rw[jm (by omega)]at e1;rw[jm (by omega)]at e2;cases e1
     cases e2
     rw[bt (wI ht a3 (by intro z;cases z))];exact ht
    ·rw[eW ej]at e1 e2
     have hb:=hh _ _ (g5 _ _ (a6 j b b7 e1 e2));rw[bt (wI hb a3 (by intro z;cases z))];exact hb
   ·intro af a5
    by_cases ah:p=i
    ·subst ah
     have e0:=u.symm.trans a5;cases e0
     refine⟨g[p],m,a4,(by rw[hc];exact hm),(λ j hj=>as j (by rw[hc]at hj;exact hj)),?_⟩;rw[hc,jm (by omega)]
    ·obtain⟨n',M',w1,w2,w3,w4⟩:=hW p (by omega) af a5
     refine⟨n',M',w1,w2,w3,?_⟩
     have:g[i]≠n':=λ z=>by
      have aw:=(au.mp w1).1;have:=(Ad aw b4).mp (w1.trans (by rw[<-z];exact a4.symm));exact ah this
     rw[eW this];exact w4
 ·rintro v I ⟨x3,Z,Y,U,G,W,rfl,hf,lt,lW,N,hW,g3,J⟩
  rw[aj,X.len]at hW;refine⟨_,rfl,f,_,rfl,.inl ⟨SqL.of hf,λ t nt=>?_⟩⟩;have gt:=kC nt (.tup (G.map V.ref));have nm:=kIT hp lW hW;exact k t W _ (s0.trans (.of (g3.trans gt))) (p0.kept (g3.trans gt)) ⟨G,kB,by omega,λ j b row w1 w2=>gt _ _ (N j b row w1 w2)⟩ lW (kLY GL nm) (kIU hp lW hW)
end
section
def prZ(t:Nat×Nat):List Int:=[(t.1:Int),(t.2:Int)]
def kCX{H:Hp}{s:ay}{T:List (Nat×Nat)}(h:PairsAt H s T):∃ ps:List (ay×List Int),H s=some (.lst (ps.map λ q=>V.ref q.1))/\kTU H ps /\
  ∀(l:ay)(c:List (ay×List Int)),H l=none->c.Perm ps->c.Pairwise (λ a b=>Srt.lexLt b.2 a.2=false)->PairsAt (upd H l (.lst (c.map λ q=>V.ref q.1))) l (Fc.sortP T):=by
 obtain⟨g,h1,U,M⟩:=h
 have f:(g.zip (T.map prZ)).map (λ q=>V.ref q.1)=g.map V.ref:=by
  rw[show(λ q:ay×List Int=>V.ref q.1)=V.ref∘Bp from rfl,<-uf,Co (by rw[aj];omega)]
 have mem:∀ q∈g.zip (T.map prZ),∃ t:Nat×Nat,q.2=prZ t/\H q.1=some (.tup [vn t.1,vn t.2]):=λ q x=>by
  obtain⟨i,y,rfl⟩:=fc.mp x;rw[Bx,aj]at y;refine⟨T[i]'(by omega),by simp,?_⟩;have:=M i (g[i]'(by omega)) (T[i]'(by omega)) (aa _) (aa _);simpa using this
 refine⟨g.zip (T.map prZ),by rw[f];exact h1,λ q x=>?_,λ l c N B D=>?_⟩
 ·obtain⟨t,e,o⟩:=mem q x
  rw[e];exact⟨o,by simp[prZ]⟩
 ·have back:∃ n:List (Nat×Nat),c.map (·.2)=n.map prZ/\n.Perm T:=by
   have G:(c.map (·.2)).Perm (T.map prZ):=by
    have:=B.map (λ q:ay×List Int=>q.2);rwa[Cj (by rw[aj];omega)]at this
   obtain⟨m,a,b⟩:=Srt.perm_back G rfl;exact⟨m,b,a⟩
  obtain⟨n,r,J⟩:=back
  have v:n.Pairwise (λ a b=>Fc.leP a b=true):=by
   have C:(c.map (·.2)).Pairwise (λ a b=>Srt.lexLt b a=false):=ip.mpr D;rw[r]at C;refine(ip.mp C).imp λ{a b} S=>?_;rw[<-Fc.leP_leL,Fc.leL_iff];exact S
  have A:=Fc.sortP_is J v
  have L:c.length=n.length:=by
   have:=congrArg iV r;simpa using this
  refine⟨c.map (·.1),by rw[uf];exact kB,by rw[<-A,aj,L],λ i b t f u=>?_⟩;rw[<-A]at u;have y:=(au.mp u).1;have d:i<c.length:=by omega
  rw[bh,aa d]at f;have f:c[i].1=b:=cc f
  have p:c[i].2=prZ t:=by
   have:=congrArg (λ l=>l[i]?) r;rw[bh,bh,u,aa d]at this;exact cc this
  obtain⟨I,O,o⟩:=mem c[i] (B.mem_iff.mp (gh d))
  have Q:I=t:=by
   rw[O]at p;unfold prZ at p;injection p with z1 z2
   injection z2 with z2 _
   exact rm (by omega) (by omega)
  rw[<-f,kK (kF o N),o,Q]
inductive kFG(vs:List V)(H:Hp)(Q:VK)(Y:XK):Prop
 | mk:∀(t:ay)(W:Rows),(vs=[.ref t])->(WebAt H t W)->(Nb W)->(W.length<=42)->(∀(s:ay)(H':Hp),Same H H'->H s=none->PairsAt H' s (Fc.stepsS W)->Q (.ref s) H')->kFG vs H Q Y
def kCU(W:Rows)(i:Nat)(hi:i<W.length):kO (W.take (i+1))=kO (W.take i)++(W[i].map λ q=>(i,q)):=by
 unfold kO;rw[eJ,eJ,kh (by omega),kh (by omega),Bo,zd]
 congr 1
 ·rw[FF,FF]
  congr 1
  refine zg λ p hp=>?_;have:=iB.mp hp;simp only[ai];rw[rh (by omega),rh (by omega)]
 ·rw[xw]
  simp only[ai];rw[rh (by omega),aa hi]
  rfl
def Nb.take_len{W:Rows}(S:Nb W)(h:W.length<=42)(i:Nat):(kO (W.take i)).length<=1764:=by
 have a:=aS S h
 have:(kO (W.take i)).length<=(kO W).length:=by
  rw[yE,yE]
  conv=>rhs;rw[<-gi i W]
  rw[eN,FR];omega
 omega
def dF(B:Fx):Hs "steps_of" ["web"] 1 (kFG):=by
 refine qI B.X B.d3 kAE λ f a4 A a3 s0 H vs Q E nN hr h=>?_;obtain⟨t,W,rfl,hW,S,a1,k⟩:=h;refine⟨_,(kJ (kS (kM mH rfl (B.z B.y8) wo (p1 (kPF (Nc:=["p","row","q"]) (js:=[none,none,none]) rfl rfl (rX false rfl (B.z B.y6) (p1 (pv 0))) (CS.of rfl rfl) rfl (λ C c d Y g=>(show PG _ _ (kBS K 2 _) from jU rfl (kR (pgc 0) (kR (pgc 1) qY)))) (λ C c d Y g=>(show PI _ _ _ (kTJ K _) from(vW (pv 1)))) (λ C c d Y g=>(pgc 2)) (λ C c d Y g D L=>(qO (jB (jJ (p2 (pv 0) (pv 2))))))))))),?_⟩
 try dsimp only[qQ]
 obtain⟨ts,h1,J,h3⟩:=id hW;refine⟨_,rfl,t,rfl,⟨_,SqT.of h1⟩,λ D nD=>?_⟩
 refine nH (k:=false) (xs:=ts.map V.ref) (λ i p u=>∃(N O m:Option V),p=[N,O,m]/\Same H u/\PairsAt u D (kO (W.take i)))
  ⟨none,none,none,rfl,kC nD _,⟨[],kB,rfl,λ i b t e=>by simp at e⟩⟩ ?_ ?_ ?_
 ·rintro i p u _ ⟨N,O,m,rfl,s,_⟩
  exact SqT.of (s _ _ h1)
 ·rintro i x T p u hx nT ⟨N,O,m,rfl,s,M⟩
  rw[bh]at hx;obtain⟨a,ea,rfl⟩:=cv.mp hx;have hi:i<W.length:=by rw[<-J];exact(au.mp ea).1
  have y:=h3 i a _ ea (aa hi);have rl:=S.len (aa hi);have gT:=kC nT (.tup [.int i,.ref a]);refine⟨T,_,rfl,SqT.of kB,rfl,_,_,rfl,_,_,rfl,rfl,?_⟩;have g3:=s.trans gT;have a2:=M.kept gT;generalize upd u T (.tup [.int i,.ref a])=H3 at *;refine⟨_,rfl,a,rfl,⟨_,SqT.of (g3 _ _ y)⟩,?_⟩;refine yG (xs:=W[i].map vn) (λ j p r=>∃(m:Option V),p=[some (vn i),some (.ref a),m]/\Same H r/\PairsAt r D (kO (W.take i)++((W[i].take j).map λ q=>(i,q)))) ⟨m,rfl,g3,by simpa using a2⟩ ?_ ?_ ?_
  ·rintro j p r _ ⟨m,rfl,I,_⟩
   exact SqT.of (I _ _ y)
  ·rintro j v p r hv ⟨m,rfl,I,n⟩
   rw[bh]at hv;obtain⟨q,G,rfl⟩:=cv.mp hv;have hj:=(au.mp G).1;refine⟨_,rfl,_,rfl,yS2,λ b nb=>?_⟩;have gb:=kC nb (.tup [vn i,vn q]);have hb:=kB (H:=r) (a:=b) (o:=.tup [vn i,vn q]);have a0:=n.kept gb;have g5:=I.trans gb;refine(λ(z:upd r b (.tup [vn i,vn q]) b=some (.tup [vn i,vn q]))=>?_) hb;generalize upd r b (.tup [vn i,vn q])=H5 at *;obtain⟨ss,c1,c2,c3⟩:=id a0;have l1:=Nb.take_len S a1 i
   have l2:ss.length<=1764+42:=by
    rw[c2,cq,aj,eJ];omega
   refine⟨_,c1,(by rw[aj];exact zG (by omega)),?_⟩;have A1:=PairsAt.app (H':=H5) c1 c2 c3 (t:=(i,q)) z;refine⟨_,rfl,kY nD g5,?_⟩;have tk:(W[i].take (j+1)).map (λ q=>(i,q))=(W[i].take j).map (λ q=>(i,q))++[(i,q)]:=by rw[jf,G,eN];rfl
   rw[tk,<-dr];exact A1
  ·rintro p r ⟨m,rfl,I,n⟩
   rw[aj,iW]at n;exact⟨_,_,_,rfl,I,by rw[kCU W i hi];exact n⟩
 ·rintro p u ⟨N,O,m,rfl,s,M⟩
  rw[aj,J,iW]at M;obtain⟨ps,e1,e2,e3⟩:=kCX M;refine⟨D,ps,rfl,.inl (SqL.of e1),e2,λ l U Z pm sr=>?_⟩;exact k l _ (s.trans (kC Z _)) (s.free Z) (e3 l U Z pm sr)
end
section
def RowsT(H:Hp)(s:ay)(T:List (List Nat)):Prop:=∃ a:List ay,H s=some (.lst (a.map V.ref))/\a.length=T.length/\∀(i:Nat)(b:ay)(t:List Nat),a[i]?=some b->T[i]?=some t->H b=some (.tup (t.map vn))
def RowsT.app{H:Hp}{s b:ay}{a:List ay}{T:List (List Nat)}{t:List Nat}(h1:H s=some (.lst (a.map V.ref)))(l:a.length=T.length)(n:∀(i:Nat)(b:ay)(t:List Nat),a[i]?=some b->T[i]?=some t->H b=some (.tup (t.map vn)))(m:H b=some (.tup (t.map vn))) :
  RowsT (upd H s (.lst (a.map V.ref++[.ref b]))) s (T++[t]):=by
 refine⟨a++[b],by rw[eN];exact kB,by simp[l],λ i c u d f=>?_⟩;have h:c≠s->upd H s (.lst (a.map V.ref++[.ref b])) c=H c:=λ z=>kK z;rcases iA i a.length with g | g
 ·rw[cm g]at d
  rw[cm (by omega)]at f;have:=n i c u d f;rw[h (wI this h1 (by simp))];exact this
 ·obtain rfl:i=a.length:=by
   have:=(au.mp d).1;simp at this;omega
  rw[gn]at d;rw[l,gn]at f;cases d
  cases f
  rw[h (wI m h1 (by simp))];exact m
def kIB{H:Hp}{s:ay}{T:List (List Nat)}(h:RowsT H s T)(u:∀ t∈T,t≠[]):∃ ps:List (ay×List Int),H s=some (.lst (ps.map λ q=>V.ref q.1))/\kTU H ps /\
  ∀(l:ay)(c:List (ay×List Int)),H l=none->c.Perm ps->c.Pairwise (λ a b=>Srt.lexLt b.2 a.2=false)->RowsT (upd H l (.lst (c.map λ q=>V.ref q.1))) l (Fc.sortL T):=by
 obtain⟨g,h1,Y,O⟩:=h
 have f:(g.zip (T.map Fc.zl)).map (λ q=>V.ref q.1)=g.map V.ref:=by
  rw[show(λ q:ay×List Int=>V.ref q.1)=V.ref∘Bp from rfl,<-uf,Co (by rw[aj];omega)]
 have J:∀ t:List Nat,(Fc.zl t).map V.int=t.map vn:=λ t=>by unfold Fc.zl;rw[uf];rfl
 have mem:∀ q∈g.zip (T.map Fc.zl),∃ t:List Nat,t∈T/\q.2=Fc.zl t/\H q.1=some (.tup (t.map vn)):=λ q x=>by
  obtain⟨i,A,rfl⟩:=fc.mp x;rw[Bx,aj]at A;refine⟨T[i]'(by omega),gh _,by simp,?_⟩;have:=O i (g[i]'(by omega)) (T[i]'(by omega)) (aa _) (aa _);simpa using this
 refine⟨g.zip (T.map Fc.zl),by rw[f];exact h1,λ q x=>?_,λ l c Q C G=>?_⟩
 ·obtain⟨t,m,e,o⟩:=mem q x
  rw[e,J];refine⟨o,λ z=>u t m ?_⟩;unfold Fc.zl at z;exact BY.mp z
 ·have back:∃ n:List (List Nat),c.map (·.2)=n.map Fc.zl/\n.Perm T:=by
   have I:(c.map (·.2)).Perm (T.map Fc.zl):=by
    have:=C.map (λ q:ay×List Int=>q.2);rwa[Cj (by rw[aj];omega)]at this
   obtain⟨m,a,b⟩:=Srt.perm_back I rfl;exact⟨m,b,a⟩
  obtain⟨n,p,M⟩:=back
  have v:n.Pairwise (λ a b=>Fc.leL a b=true):=by
   have D:(c.map (·.2)).Pairwise (λ a b=>Srt.lexLt b a=false):=ip.mpr G;rw[p]at D;refine(ip.mp D).imp λ{a b} X=>?_;rw[Fc.leL_iff];exact X
  have B:=Fc.sortL_is M v
  have N:c.length=n.length:=by
   have:=congrArg iV p;simpa using this
  refine⟨c.map (·.1),by rw[uf];exact kB,by rw[<-B,aj,N],λ i b t f r=>?_⟩;rw[<-B]at r;have A:=(au.mp r).1;have d:i<c.length:=by omega
  rw[bh,aa d]at f;have f:c[i].1=b:=cc f
  have y:c[i].2=Fc.zl t:=by
   have:=congrArg (λ l=>l[i]?) p;rw[bh,bh,r,aa d]at this;exact cc this
  obtain⟨L,m,S,o⟩:=mem c[i] (C.mem_iff.mp (gh d))
  have U:L=t:=by
   rw[S]at y;exact Fc.zl_inj y
  rw[<-f,kK (kF o Q),o,U]
inductive kLF(vs:List V)(H:Hp)(Q:VK)(Y:XK):Prop
 | mk:∀(t:ay)(W:Rows),(vs=[.ref t])->(WebAt H t W)->(Nb W)->(W.length<=42)->(∀(s:ay)(H':Hp),Same H H'->H s=none->PairsAt H' s (Fc.tiesS W)->Q (.ref s) H')->kLF vs H Q Y
def uY{W:Rows}(S:Nb W)(h:W.length<=42):(Fc.stepsS W).length<=1764:=by
 have:=aS S h;rw[show(Fc.stepsS W).length=(kO W).length from(Fc.sortP_perm _).length_eq];exact this
def kGJ(B:Fx):Hs "ties" ["web"] 2 (kLF):=by
 refine qI B.X B.d4 kOU λ f a0 A J s0 H vs Q E nN hr h=>?_;obtain⟨t,W,rfl,hW,S,m,k⟩:=h;refine⟨_,(kJ (kS (jF (Nc:=["p","q"]) (js:=[none,none]) rfl rfl (xC (pf (dF B) hr (p1 (pv 0)))) (CS.of rfl rfl) rfl (λ C p r fp n=>(show PG _ _ (kBS K 2 _) from jU rfl (kR (pgc 0) (kR (pgc 1) qY)))) (λ C p r fp n D L=>(yH (qJ kMO (pv 0) (pv 1) (qS _)) (jB (jJ (p2 (pv 0) (pv 1))))))))),?_⟩
 try dsimp only[qQ]
 have l1:=uY S m;refine⟨_,rfl,t,W,rfl,hW,S,m,λ s H1 T ns pr=>?_⟩;obtain⟨ss,h1,O,h3⟩:=id pr;refine⟨s,rfl,⟨_,SqL.of h1⟩,λ D M=>?_⟩
 refine jM (xs:=ss.map V.ref) (λ i u g=>∃(G v:Option V),u=[G,v]/\Same H1 g/\PairsAt g D (((Fc.stepsS W).take i).filter λ t=>decide (t.1<t.2)))
  ⟨none,none,rfl,kC M _,⟨[],kB,rfl,λ i b t e=>by simp at e⟩⟩ ?_ ?_ ?_
 ·rintro i u g _ ⟨G,v,rfl,l,_⟩
  exact SqL.of (l _ _ h1)
 ·rintro i x u g hx ⟨G,v,rfl,l,d⟩
  rw[bh]at hx;obtain⟨b,eb,rfl⟩:=cv.mp hx;have hi:i<(Fc.stepsS W).length:=by rw[<-O];exact(au.mp eb).1
  have U:=aa hi;have hb:=h3 i b _ eb U;have tk:(Fc.stepsS W).take (i+1)=(Fc.stepsS W).take i++[(Fc.stepsS W)[i]]:=by rw[jf,U];rfl
  generalize(Fc.stepsS W)[i]=t at *;refine⟨b,_,rfl,SqT.of (l _ _ hb),rfl,_,_,rfl,_,_,rfl,rfl,?_⟩;refine⟨_,rfl,_,rfl,_,_,rfl,rfl,_,rfl,?_⟩;rw[tk];refine kEE (λ z=>?_) (λ z=>?_)
  ·have z:=of_decide_eq_true z
   refine⟨_,rfl,_,rfl,yS2,λ c nc=>?_⟩;have Z:=kC nc (.tup [vn t.1,vn t.2]);have hc:=kB (H:=g) (a:=c) (o:=.tup [vn t.1,vn t.2]);have I:=d.kept Z;have g3:=l.trans Z;refine(λ(y:upd g c (.tup [vn t.1,vn t.2]) c=some (.tup [vn t.1,vn t.2]))=>?_) hc;generalize upd g c (.tup [vn t.1,vn t.2])=H3 at *;obtain⟨cs,Y,N,c3⟩:=id I
   have lc:cs.length<=1764:=by
    rw[N];have:=iS (λ t:Nat×Nat=>decide (t.1<t.2)) ((Fc.stepsS W).take i);rw[eJ]at this;omega
   refine⟨_,Y,(by rw[aj];exact zG (by omega)),?_⟩;refine⟨_,_,rfl,kY M g3,?_⟩;rw[uj,sd,if_pos (by exact decide_eq_true (by omega))];exact PairsAt.app (H':=H3) Y N c3 y
  ·have z:¬ (t.1:Int)<(t.2:Int):=λ q=>z (decide_eq_true q)
   refine⟨_,_,rfl,l,?_⟩;rw[uj,sd,if_neg (by intro q;have:=of_decide_eq_true q;omega)];simpa using d
 ·rintro u g ⟨G,v,rfl,l,d⟩
  rw[aj,O,iW]at d;exact k D g (T.trans l) (T.free M) d
end
section
def pk(t:Nat×Nat):List Key:=[AY (t.1:Int),AY (t.2:Int)]
def kSG{a b:Nat×Nat}(h:pk a=pk b):a=b:=by
 unfold pk at h;injection h with h1 h2
 injection h2 with h2 _
 have:=FG h1;have:=FG h2;exact rm (by omega) (by omega)
def SeenAt(H:Hp)(d:ay)(X:List (Nat×Nat)):Prop:=∃ a:List (List Key×V),H d=some (.dT a)/\(∀ t:Nat×Nat,(qR a (pk t)).isSome=decide (t∈X))/\a.length<=X.length/\∀ y∈a,∃ t∈X,y.1=pk t
def SeenAt.kept{H H':Hp}{d:ay}{X:List (Nat×Nat)}(h:SeenAt H d X)(g:Same H H'):SeenAt H' d X:=by
 obtain⟨c,a,b⟩:=h;exact⟨c,g _ _ a,b⟩
def kAC{H:Hp}{d:ay}:SeenAt (upd H d (.dT [])) d []:=⟨[],kB,λ t=>by simp[qR],bg _,λ y a=>nomatch a⟩
def kBL{kvs:List (List Key×V)}{k:List Key}{v:V}{y:List Key×V}(h:y∈xB kvs k v):y.1=k\/∃ z∈kvs,z.1=y.1:=by
 unfold xB at h
 split at h
 ·obtain⟨z,a,rfl⟩:=iK.mp h
  split
  ·exact .inr ⟨z,a,rfl⟩
  ·exact .inr ⟨z,a,rfl⟩
 ·rcases bu.mp h with z | z
  ·exact .inr ⟨y,z,rfl⟩
  ·exact .inl (by rw[de.mp z])
def kIF{kvs:List (List Key×V)}{X:List (Nat×Nat)}{t:Nat×Nat}{v:V}(h1:∀ t:Nat×Nat,(qR kvs (pk t)).isSome=decide (t∈X))(g:kvs.length<=X.length)(f:∀ y∈kvs,∃ t∈X,y.1=pk t) :
  (∀ u:Nat×Nat,(qR (xB kvs (pk t) v) (pk u)).isSome=decide (u∈X++[t]))/\(xB kvs (pk t) v).length<=(X++[t]).length/\∀ y∈xB kvs (pk t) v,∃ u∈X++[t],y.1=pk u:=by
 refine⟨λ u=>?_,?_,λ y d=>?_⟩
 ·rw[wE]
  by_cases e:pk u=pk t
  ·rw[if_pos e,kSG e]
   simp
  ·rw[if_neg e,h1 u]
   have:u≠t:=λ z=>e (by rw[z]);simp[this]
 ·have:=qP kvs (pk t) v
  rw[cq,iR];omega
 ·rcases kBL d with e | ⟨z,b,e⟩
  ·exact⟨t,by simp,e⟩
  ·obtain⟨u,c,a⟩:=f z b
   exact⟨u,cj _ c,by rw[<-e,a]⟩
theorem pG:∀(more kvs:List (List Key×V))(k:List Key),(qR (xV kvs more) k).isSome=((qR kvs k).isSome || (qR more k).isSome)
 | [],kvs,k=>by simp[xV,qR]
 | m::more,kvs,k=>by
  have:=pG more (xB kvs m.1 m.2) k;unfold xV at this ⊢;rw[ux,this,wE];by_cases e:m.1=k
  ·rw[if_pos e.symm,qW e]
   simp
  ·rw[if_neg (λ z=>e z.symm),qN e]
theorem pH:∀(more kvs:List (List Key×V)),(xV kvs more).length<=kvs.length+more.length
 | [],kvs=>bg _
 | m::more,kvs=>by
  have:=pH more (xB kvs m.1 m.2);have:=qP kvs m.1 m.2;unfold xV at *;rw[ux,eh];omega
theorem lY:∀(more kvs:List (List Key×V))(y:List Key×V),y∈xV kvs more->(∃ z∈kvs,z.1=y.1)\/∃ z∈more,z.1=y.1
 | [],kvs,y,h=>.inl ⟨y,h,rfl⟩
 | m::more,kvs,y,h=>by
  have h:y∈xV (xB kvs m.1 m.2) more:=h;rcases lY more _ y h with⟨z,a,e⟩ | ⟨z,a,e⟩
  ·rcases kBL a with b | ⟨d,c,b⟩
   ·exact .inr ⟨m,eV ..,by rw[<-e,b]⟩
   ·exact .inl ⟨d,c,by rw[b,e]⟩
  ·exact .inr ⟨z,dq _ a,e⟩
theorem SeenAt.upd{H:Hp}{d:ay}{X Y:List (Nat×Nat)}{kvs more:List (List Key×V)}(h1:∀ t:Nat×Nat,(qR kvs (pk t)).isSome=decide (t∈X))(l:kvs.length<=X.length)(i:∀ y∈kvs,∃ t∈X,y.1=pk t)
  (f:∀ t:Nat×Nat,(qR more (pk t)).isSome=decide (t∈Y)) (m:more.length<=Y.length) (g:∀ y∈more,∃ t∈Y,y.1=pk t):SeenAt (L2.upd H d (.dT (xV kvs more))) d (X++Y):=by
 refine⟨_,kB,λ t=>?_,?_,λ y h=>?_⟩
 ·rw[pG,h1,f,iL,BO,decide_eq_true_iff,decide_eq_true_iff,decide_eq_true_iff,bu]
 ·have:=pH more kvs
  rw[cq];omega
 ·rcases lY more kvs y h with⟨z,b,e⟩ | ⟨z,b,e⟩
  ·obtain⟨u,c,a⟩:=i z b
   exact⟨u,cj _ c,by rw[<-e,a]⟩
  ·obtain⟨u,c,a⟩:=g z b
   exact⟨u,cw _ c,by rw[<-e,a]⟩
def nM{W:Rows}{p q k:Nat}(T:Turns W p q k):Fc.per W (p,q)=k:=Fc.per_is T.pos T.back T.first
def kHV{W:Rows}{p q k:Nat}(T:Turns W p q k):orb W p q k=Fc.rnd W (p,q):=by
 unfold orb Fc.rnd;rw[nM T]
end
section
inductive kFP(vs:List V)(H:Hp)(Q:VK)(Y:XK):Prop
 | mk:∀(t:ay)(W:Rows),(vs=[.ref t])->(WebAt H t W)->(Nb W)->(W.length<=42)->(∀(s:ay)(H':Hp),Same H H'->H s=none->RowsT H' s (Fc.facesS W)->Q (.ref s) H')->kFP vs H Q Y
def kRY{W:Rows}(S:Nb W){t:Nat×Nat}(h:t∈kO W):(Fc.rnd W t).map (·.1)≠[]:=λ z=>by
 have:=Fc.rnd_self S h;rw[BY.mp z]at this;cases this
def kNS{W:Rows}(S:Nb W){T:List (Nat×Nat)}(b:∀ t∈T,t∈kO W):∀ f∈(Fc.fgo W T).1,f≠[]:=λ f a=>by
 obtain⟨R,d,g,_⟩:=(Fc.fgo_ok S T b).reps;rw[g]at a;obtain⟨r,c,rfl⟩:=iK.mp a;exact kRY S (b r (d r c))
def uX{W:Rows}:∀ t∈Fc.stepsS W,t∈kO W:=λ t h=>(Fc.sortP_perm _).mem_iff.mp h
def kOS{W:Rows}(S:Nb W)(h:W.length<=42){t:Nat×Nat}(a:t∈kO W):t.1<42/\t.2<42:=by
 have:=S.e (mem_steps.mp (show(t.1,t.2)∈kO W from a));omega
def kBC(B:Fx):Hs "faces" ["web"] 3 (kFP):=by
 refine qI B.X B.d7 kLP λ f bd A b7 s0 H vs Q E nN hr h=>?_;obtain⟨t,W,rfl,hW,S,O,k⟩:=h
 refine⟨_,(kD (pst 1 nN (jQ kU))
   (kD (pst 2 nN kMJ)
   (kD (dZ (xC (pf (dF B) hr (p1 (pv 0)))) (pgn 3 nN) (kJ (xH (kDJ (oN (yA hr) (pv 3) (pv 2))) (kD (pst 4 nN (pf (vZ B) hr (p2 (pv 0) (pv 3))))
   (kD (qK (dD AU CW PySem.F.type_dict_update (kPR (yA hr)) (pv 2) (p1 (kPI (Nc:=["one"]) (js:=[none]) rfl rfl (xC (pv 4)) (CS.of rfl rfl) rfl (λ C M N fp U=>(pgc 0)) (λ C M N fp U D L=>(qO (rY (yA hr) (pv 0) vJ)))))))
   (kJ (qK (jO iu iw xD (pv 1) (p1 (jC jK rfl (B.z B.y5) ie (p1 (jF (Nc:=["p","q"]) (js:=[none,none]) rfl rfl (xC (pv 4)) (CS.of rfl rfl) rfl (λ C M N fp U=>(show PG _ _ (kBS K 2 _) from jU rfl (kR (pgc 0) (kR (pgc 1) qY)))) (λ C M N fp U D L=>(qO (jB (pv 0))))))))))))) qM)))
   (kJ (kS (kM mH rfl (B.z B.y8) wo (p1 (pv 1)))))))),?_⟩
 try dsimp only[qQ]
 have l1:=uY S O;have l0:=aS S O;refine⟨yS0,λ l nl=>?_⟩;have gl:=kC nl (.lst []);have hl:=kB (H:=H) (a:=l) (o:=.lst []);refine λ d nd=>?_;have gd:=kC nd (.dT []);have hd:=kAC (H:=upd H l (.lst [])) (d:=d);have an:l≠d:=λ z=>by rw[<-z,hl]at nd;cases nd
 have a4:=gd _ _ hl;have g1:=gl.trans gd;have as:H d=none:=gl.free nd;refine(λ(a5:SeenAt (upd (upd H l (.lst [])) d (.dT [])) d [])=>?_) hd;generalize upd (upd H l (.lst [])) d (.dT [])=H1 at *;refine⟨_,rfl,t,W,rfl,hW.kept g1,S,O,λ s H2 g2 ns pr=>?_⟩;obtain⟨ss,h1,h2,h3⟩:=id pr;have al:=g1.trans g2;have b9:s≠l:=λ z=>by rw[z,a4]at ns;cases ns
 have aw:s≠d:=λ z=>by obtain⟨g,a,_⟩:=a5;rw[z,a]at ns;cases ns
 refine⟨s,rfl,⟨_,SqL.of h1⟩,?_⟩
 refine kBT (xs:=ss.map V.ref) (λ i G Y=>∃(x3 x4:Option V),G=[some (.ref t),some (.ref l),some (.ref d),x3,x4]/\(∀ b o,b≠l->b≠d->H2 b=some o->Y b=some o)/\RowsT Y l (Fc.fgo W ((Fc.stepsS W).take i)).1/\SeenAt Y d (Fc.fgo W ((Fc.stepsS W).take i)).2)
  ⟨none,none,rfl,(λ b o _ _ e=>e),⟨[],g2 _ _ a4,rfl,λ i b t e=>by simp at e⟩,a5.kept g2⟩ ?_ ?_ ?_
 ·rintro i G Y _ ⟨x3,x4,rfl,f3,_⟩
  exact SqL.of (f3 _ _ b9 aw h1)
 ·rintro i x G Y hx ⟨x3,x4,rfl,f3,rt,sn⟩
  rw[bh]at hx;obtain⟨b,eb,rfl⟩:=cv.mp hx;have hi:i<(Fc.stepsS W).length:=by rw[<-h2];exact(au.mp eb).1
  have et:=aa hi;have hb:=h3 i b _ eb et;have tk:(Fc.stepsS W).take (i+1)=(Fc.stepsS W).take i++[(Fc.stepsS W)[i]]:=by rw[jf,et];rfl
  have mt:=uX _ (gh hi);have fi:=Fc.fgo_ok S ((Fc.stepsS W).take i) λ t h=>uX t (wc h);have lX:=fi.len;rw[tk,Fc.fgo_snoc]
  have lF:(Fc.fgo W ((Fc.stepsS W).take i)).1.length<=1764:=by
   have:∀ T:List (Nat×Nat),(Fc.fgo W T).1.length<=T.length:=λ T=>by
    have:∀ n,n<=T.length->(Fc.fgo W (T.take n)).1.length<=n:=λ n=>by
     induction n with
     | zero=>intro _;rw[De];exact bg _
     | succ n ih =>
      intro hn;rw[show T.take (n+1)=T.take n++[T[n]] by rw[jf,aa (by omega)];rfl,Fc.fgo_snoc];have:=ih (by omega);unfold Fc.fstep
      split
      ·omega
      ·rw[cq]
       show _+1<=_;omega
    have:=this T.length (bg _);rwa[iW]at this
   have:=this ((Fc.stepsS W).take i);rw[eJ]at this;omega
  generalize(Fc.stepsS W)[i]=u at *;generalize Fc.fgo W ((Fc.stepsS W).take i)=st at *
  have b3:b≠l:=λ z=>by
   have a:=g2 _ _ a4;rw[z,a]at hb;cases hb
  have b0:b≠d:=λ z=>by
   obtain⟨g,a,_⟩:=a5.kept g2;rw[z,a]at hb;cases hb
  have ag:=f3 _ _ b3 b0 hb;obtain⟨g,k1,k2,k3,k4⟩:=id sn;refine⟨_,rfl,_,rfl,d,_,rfl,DGet.t (k:=pk u) k1 ag,_,rfl,?_⟩;rw[k2 u];unfold Fc.fstep;by_cases c:u∈st.2
  ·rw[decide_eq_true c,if_pos c]
   exact xE ⟨_,_,rfl,f3,rt,sn⟩
  rw[decide_eq_false c,if_neg c];obtain⟨r,p⟩:=u;have hE:Tri.E W r p:=mem_steps.mp mt
  have a6:WebAt Y t W:=by
   obtain⟨ts,q1,q2,q3⟩:=hW.kept al;have ok:∀(b:ay)(xs:List V),H2 b=some (.tup xs)->Y b=some (.tup xs):=λ b xs e=>f3 b _ (λ z=>by rw[z,g2 _ _ a4]at e;cases e) (λ z=>by obtain⟨g,a,_⟩:=a5.kept g2;rw[z,a]at e;cases e) e;exact⟨ts,ok _ _ q1,q2,λ j a row Z e2=>ok _ _ (q3 j a row Z e2)⟩
  refine yK ⟨_,rfl,_,rfl,t,b,W,r,p,rfl,a6,S,O,ag,hE,λ q m H4 g4 T am=>?_⟩;rw[kHV T]at am;have b6:=T.few;have lm:=nM T;obtain⟨qs,q1,q2,q3⟩:=id am
  have lq:(Fc.rnd W (r,p)).length=m:=by rw[Fc.rnd_len,lm]
  refine⟨_,rfl,.inr (.inr (.inl ⟨rfl,.inr ⟨_,g4 _ _ k1⟩⟩)),_,rfl,q,rfl,⟨_,SqL.of q1⟩,λ D nD=>?_⟩;refine jM (xs:=qs.map V.ref) (λ j G I=>∃(x0:Option V),G=[x0]/\Same H4 I/\SeenAt I D ((Fc.rnd W (r,p)).take j)) ⟨none,rfl,kC nD _,kAC⟩ ?_ ?_ ?_
  ·rintro j G I _ ⟨x0,rfl,g5,_⟩
   exact SqL.of (g5 _ _ q1)
  ·rintro j v G I hv ⟨x0,rfl,g5,sD⟩
   rw[bh]at hv;obtain⟨c',ec,rfl⟩:=cv.mp hv;have hj:j<(Fc.rnd W (r,p)).length:=by rw[<-q2];exact(au.mp ec).1
   have ej:=aa hj;have hc:=g5 _ _ (q3 j c' _ ec ej);have a7:(Fc.rnd W (r,p)).take (j+1)=(Fc.rnd W (r,p)).take j++[(Fc.rnd W (r,p))[j]]:=by rw[jf,ej];rfl
   rw[a7];generalize(Fc.rnd W (r,p))[j]=y at *;obtain⟨J,d1,d2,d3,d4⟩:=sD;have ld:J.length<=1764:=by rw[eJ]at d3;omega
   refine⟨_,rfl,_,DPut.t (k:=pk y) d1 hc (zG (by omega)),?_⟩;obtain⟨a1,a2,a3⟩:=kIF (t:=y) (v:=.bl true) d2 d3 d4;exact⟨_,rfl,kY nD g5,⟨_,kB,a1,a2,a3⟩⟩
  ·rintro G I ⟨x0,rfl,g5,sD⟩
   rw[aj,q2,iW]at sD;obtain⟨J,d1,d2,d3,d4⟩:=sD;have ah:=g4.trans g5;have a9:=ah _ _ k1;have b4:d≠D:=λ z=>by rw[<-z,g4 _ _ k1]at nD;cases nD
   refine⟨d,D,g,J,rfl,rfl,b4,a9,d1,(λ y hy=>?_),?_,?_⟩
   ·obtain⟨v,hv,e⟩:=d4 y hy
    have:=kOS S O (Fc.rnd_sub S mt hv);exact⟨v.1,v.2,e,this.1,this.2⟩
   ·have:g.length+J.length<=20000:=by omega
    exact kl (zG this)
   have ba:=SeenAt.upd (H:=I) (d:=d) k2 k3 k4 d2 d3 d4;have f6:∀ b o,b≠d->Y b=some o->upd I d (.dT (xV g J)) b=some o:=λ b o nb e=>by rw[kK nb];exact ah _ _ e
   have af:upd I d (.dT (xV g J)) q=some (.lst (qs.map V.ref)):=by
    rw[kK (wI (g5 _ _ q1) a9 (by simp))];exact g5 _ _ q1
   have b8:∀(i:Nat)(b:ay)(t:Nat×Nat),qs[i]?=some b->(Fc.rnd W (r,p))[i]?=some t->upd I d (.dT (xV g J)) b=some (.tup [vn t.1,vn t.2]):=λ i b t Z e2=>by
    have:=g5 _ _ (q3 i b t Z e2);rw[kK (wI this a9 (by simp))];exact this
   obtain⟨ls,r1,r2,r3⟩:=id rt;have ab:upd I d (.dT (xV g J)) l=some (.lst (ls.map V.ref)):=f6 l _ an r1
   have b1:∀(i:Nat)(b:ay)(t:List Nat),ls[i]?=some b->st.1[i]?=some t->upd I d (.dT (xV g J)) b=some (.tup (t.map vn)):=λ i b t Z e2=>by
    have:=r3 i b t Z e2;exact f6 b _ (wI this k1 (by simp)) this
   have b2:∀ b o,b≠l->b≠d->H2 b=some o->upd I d (.dT (xV g J)) b=some o:=λ b o n1 n2 e=>f6 b o n2 (f3 b o n1 n2 e)
   generalize upd I d (.dT (xV g J))=H6 at *
   refine⟨_,rfl,.inl ⟨rfl,_,SqL.of ab⟩,_,rfl,q,rfl,⟨_,SqL.of af⟩,λ D2 ak=>?_⟩;refine jM (xs:=qs.map V.ref) (λ j G H7=>∃(x0 x1:Option V),G=[x0,x1]/\Same H6 H7/\H7 D2=some (.lst ((((Fc.rnd W (r,p)).take j).map (·.1)).map vn))) ⟨none,none,rfl,kC ak _,kB⟩ ?_ ?_ ?_
   ·rintro j G H7 _ ⟨x0,x1,rfl,g7,_⟩
    exact SqL.of (g7 _ _ af)
   ·rintro j v G H7 hv ⟨x0,x1,rfl,g7,a0⟩
    rw[bh]at hv;obtain⟨c',ec,rfl⟩:=cv.mp hv;have hj:j<(Fc.rnd W (r,p)).length:=by rw[<-q2];exact(au.mp ec).1
    have ej:=aa hj;have hc:=g7 _ _ (b8 j c' _ ec ej);have a7:(Fc.rnd W (r,p)).take (j+1)=(Fc.rnd W (r,p)).take j++[(Fc.rnd W (r,p))[j]]:=by rw[jf,ej];rfl
    rw[a7];generalize(Fc.rnd W (r,p))[j]=y at *;refine⟨c',_,rfl,SqT.of hc,rfl,_,_,rfl,_,_,rfl,rfl,?_⟩;refine⟨_,rfl,_,a0,(by rw[aj,aj,eJ];exact zG (by omega)),?_⟩;refine⟨_,_,rfl,kY ak g7,?_⟩;rw[eN,eN];exact kB
   ·rintro G H7 ⟨x0,x1,rfl,g7,a0⟩
    rw[aj,q2,iW]at a0;refine⟨D2,_,rfl,.inl ⟨SqL.of a0,λ f nf=>?_⟩⟩;have gf:=kC nf (.tup (((Fc.rnd W (r,p)).map (·.1)).map vn));have g8:=g7.trans gf;have hf:=kB (H:=H7) (a:=f) (o:=.tup (((Fc.rnd W (r,p)).map (·.1)).map vn));generalize bc:upd H7 f (.tup (((Fc.rnd W (r,p)).map (·.1)).map vn))=H8 at *;have ac:=g8 _ _ ab;have ax:∀(i:Nat)(b:ay)(t:List Nat),ls[i]?=some b->st.1[i]?=some t->H8 b=some (.tup (t.map vn)):=λ i b t Z e2=>g8 _ _ (b1 i b t Z e2);refine⟨l,_,_,rfl,rfl,ac,(by rw[aj,r2];exact zG (by omega)),?_⟩;refine⟨_,_,rfl,(λ b o n1 n2 e=>by rw[kK n1];exact g8 _ _ (b2 b o n1 n2 e)),RowsT.app ac r2 ax hf,?_⟩;obtain⟨b5,z1,z2⟩:=ba.kept g8;exact⟨b5,by rw[kK an.symm];exact z1,z2⟩
 ·rintro G Y ⟨x3,x4,rfl,f3,rt,sn⟩
  rw[aj,h2,iW]at rt;obtain⟨ps,Z,e2,e3⟩:=kIB rt (kNS S uX);have ap:Same H Y:=λ b o e=>f3 b o (kF e nl) (kF e as) (al b o e);refine⟨_,rfl,l,ps,rfl,.inl (SqL.of Z),e2,λ l' aq a8 pm sr=>?_⟩;exact k l' _ (ap.trans (kC a8 _)) (ap.free a8) (e3 l' aq a8 pm sr)
inductive kLK(vs:List V)(H:Hp)(Q:VK)(Y:XK):Prop
 | mk:∀(t:ay)(W:Rows),(vs=[.ref t])->(WebAt H t W)->(Nb W)->(W.length<=42)->(∀(H':Hp),Same H H'->Q (.bl (decide (W.length+(Fc.facesS W).length=(Fc.tiesS W).length+2))) H')->kLK vs H Q Y
def kDW(B:Fx):Hs "is_flat" ["web"] 4 (kLK):=by
 refine qI B.X B.d8 kDD λ f v A b M H I Q E L i h=>?_;obtain⟨t,W,rfl,c,S,a,k⟩:=h;refine⟨_,(kJ (kS (jR kGG (qB xU (kM kP rfl (B.z B.y0) eg (p1 (pv 0))) (kM kP rfl (B.z B.y0) eg (p1 (pf (kBC B) i (p1 (pv 0)))))) (qB xU (kM kP rfl (B.z B.y0) eg (p1 (pf (kGJ B) i (p1 (pv 0))))) kN) (qS _)))),?_⟩
 try dsimp only[qQ]
 obtain⟨y,h1,d,J⟩:=id c;refine⟨_,rfl,t,_,rfl,.inr (SqT.of h1),_,rfl,t,W,rfl,c,S,a,λ s G g C p=>?_⟩;obtain⟨m,l,q,_⟩:=p;refine⟨s,_,rfl,.inl (SqL.of l),_,_,rfl,rfl,_,rfl,t,W,rfl,c.kept g,S,a,λ u n r D x=>?_⟩;obtain⟨o,p1,p2,_⟩:=x;refine⟨u,_,rfl,.inl (SqL.of p1),_,_,rfl,rfl,rfl,?_⟩
 have e:decide (V.int (((y.map V.ref).length:Int)+((m.map V.ref).length:Int))=V.int (((o.map V.ref).length:Int)+2))=decide (W.length+(Fc.facesS W).length=(Fc.tiesS W).length+2):=by
  rw[iL,decide_eq_true_iff,decide_eq_true_iff,aj,aj,aj,d,q,p2];constructor
  ·intro z
   have:=V.int.inj z;omega
  ·intro z
   congr 1
   omega
 rw[e];exact k n (g.trans r)
end
section
inductive tQ(vs:List V)(H:Hp)(Q:VK)(Y:XK):Prop
 | mk:∀(n:Nat),(vs=[vn n])->(Q (.bl true) H)->tQ vs H Q Y
def kBA(B:Fx):Hs "is_whole" ["thing"] 1 (tQ):=by
 refine qI B.X B.d0 kAK λ f b A a g H i Q E c d h=>?_;obtain⟨n,rfl,q⟩:=h;refine⟨_,(kJ (kS (vY (kM Own.call_isi rfl (B.z B.y9) uc (p2 (pv 0) (fJ (v:=.ty "int") rfl (B.z B.y11) HF rfl))) (aD (kSK (kM Own.call_isi rfl (B.z B.y9) uc (p2 (pv 0) (fJ (v:=.ty "bool") rfl (B.z B.y10) HA rfl)))))))),?_⟩
 try dsimp only[qQ]
 exact⟨_,rfl,_,_,_,_,rfl,.int _,rfl,_,rfl,yK ⟨_,rfl,_,_,_,_,rfl,.int _,rfl,_,rfl,q⟩⟩
inductive kCW(vs:List V)(H:Hp)(Q:VK)(Y:XK):Prop
 | mk:∀(a:ay)(ns:List Nat),(vs=[.ref a,vn ns.length])->(H a=some (.tup (ns.map vn)))->(ns.length<=1000)->(∀ H',Same H H'->Q (.bl true) H')->kCW vs H Q Y
def wW(B:Fx):Hs "are_whole" ["thing","many"] 2 (kCW):=by
 refine qI B.X B.d1 rL λ f J A q S H N Q E O G h=>?_;obtain⟨a,m,rfl,e,l,k⟩:=h;refine⟨_,(kJ (kS (vY (kM Own.call_isi rfl (B.z B.y9) uc (p2 (pv 0) (fJ (v:=.ty "tuple") rfl (B.z B.y5) ie rfl))) (vY (jR kGG (kM kP rfl (B.z B.y0) eg (p1 (pv 0))) (pv 1) (qS _)) (aD (kM (xG rfl) rfl (B.z B.y12) ja (p1 (jF (Nc:=["one"]) (js:=[none]) rfl rfl (vW (pv 0)) (CS.of rfl rfl) rfl (λ C d i y c=>(pgc 0)) (λ C d i y c D L=>(qO (jB (pf (kBA B) G (p1 (pv 0)))))))))))))),?_⟩
 try dsimp only[qQ]
 refine⟨_,rfl,_,_,_,_,rfl,.tup e,rfl,_,rfl,yK ⟨_,rfl,a,_,rfl,.inr (SqT.of e),_,rfl,rfl,_,rfl,?_⟩⟩;rw[decide_eq_true (show V.int (((m.map vn).length:Nat):Int)=vn m.length by rw[aj];rfl)];refine yK ⟨_,rfl,a,rfl,⟨_,SqT.of e⟩,λ D s=>?_⟩;refine yG (xs:=m.map vn) (λ n p b=>∃(u:Option V),p=[u]/\b D=some (.lst ((eQ n true).map V.bl))/\Same H b) ⟨none,rfl,kB,kC s _⟩ ?_ ?_ ?_
 ·rintro n p b _ ⟨u,rfl,o,g⟩
  exact SqT.of (g _ _ e)
 ·rintro n v p b r ⟨u,rfl,o,g⟩
  have M:=(au.mp r).1;rw[aj]at M;rw[bh]at r;obtain⟨x,_,rfl⟩:=cv.mp r;refine⟨_,rfl,x,rfl,_,o,(by rw[aj,km];exact kQ (by omega)),?_⟩;exact⟨_,rfl,(by rw[vj,eN];exact kB),kY s g⟩
 ·rintro p b ⟨u,rfl,o,g⟩
  refine⟨D,_,rfl,SqL.of o,?_⟩
  have:(eQ (m.map vn).length true).all id=true:=by
   rw[ug];intro x I;rw[List.eq_of_mem_replicate I]
   rfl
  rw[this];exact k b g
structure Tr(W:Rows):Prop where
 nb:Nb W
 le:W.length<=42
 three:∀ t∈kO W,(nxt W (nxt W t)).2=t.1
 cnt:(kO W).length+12=6*W.length
def Tr.flat{W:Rows}(T:Tr W):W.length+(Fc.facesS W).length=(Fc.tiesS W).length+2:=((Fc.three_cornered T.nb).mpr ⟨T.three,T.cnt⟩).1
def Tr.faces{W:Rows}(T:Tr W):∀ f∈Fc.facesS W,f.length=3:=((Fc.three_cornered T.nb).mpr ⟨T.three,T.cnt⟩).2
def Tr.turns{W:Rows}(T:Tr W){p q k:Nat}(a:Tri.E W p q)(Y:Turns W p q k):orb W p q k=[(p,q),(q,(nxt W (p,q)).2),((nxt W (p,q)).2,p)]:=by
 have g:(p,q)∈kO W:=mem_steps.mpr a;have f:p≠q:=λ z=>(T.nb.e a).2.2 z.symm;have c:=T.three _ g;have m:=T.three _ (mem_steps.mpr (kGU T.nb a 1):((nxt W (p,q)).1,(nxt W (p,q)).2)∈kO W);have n:nxt W (p,q)=(q,(nxt W (p,q)).2):=rfl;have d:nxt W (nxt W (p,q))=((nxt W (p,q)).2,p):=rm rfl c;have i:nxt W (nxt W (nxt W (p,q)))=(p,q):=rm c m
 have l:k=3:=by
  rcases yk k 3 with h | h | h
  ·exfalso
   have b:=Y.back;have:=Y.pos;have:k=1\/k=2:=by omega
   rcases this with rfl | rfl
   ·have b:nxt W (p,q)=(p,q):=b
    have:=congrArg Bp b;exact f this.symm
   ·have b:nxt W (nxt W (p,q))=(p,q):=b
    rw[d]at b;exact f (congrArg Bq b)
  ·exact h
  ·exact absurd i (Y.first 3 (by decide) h)
 subst l;show[(p,q),nxt W (p,q),nxt W (nxt W (p,q))]=_;rw[d]
 rfl
def aE(T:List (Nat×Nat)):Bn:=.list (T.map λ t=>prD t.1 t.2)
def kIO(T:List (Nat×Nat)):kb (T.map λ t=>prD t.1 t.2)=true/\ni (T.map λ t=>prD t.1 t.2)<=1:=by
 induction T with
 | nil=>exact⟨rfl,by decide⟩
 | cons t T ih =>
  have h1:qi (prD t.1 t.2)=true:=by simp[prD,qi,kb]
  have a:rj (prD t.1 t.2)<=1:=by simp[prD,rj,ni]
  simp only[eX,kb,ni,h1,ih.1];have:=ih.2;refine⟨rfl,?_⟩;omega
def oO(T:List (Nat×Nat)):ud (aE T)=true:=by
 obtain⟨h1,a⟩:=kIO T;unfold aE ud;simp only[qi,rj,h1]
 first | (simp;omega) | (rw[iP];exact⟨rfl,decide_eq_true (by omega)⟩) | simp_all
def PairsAt.dt{H:Hp}{s:ay}{T:List (Nat×Nat)}(h:PairsAt H s T):Dt K H (aE T) (.ref s):=by
 obtain⟨c,h1,b,a⟩:=h;unfold aE Dt;exact⟨s,_,rfl,SqL.of h1,kBZ b a⟩
def kDO:∀(T U:List (Nat×Nat)),og (aE T) (aE U)=decide (T=U):=by
 have go:∀(T U:List (Nat×Nat)),ji (T.map λ t=>prD t.1 t.2) (U.map λ t=>prD t.1 t.2)=decide (T=U):=λ T=>by
  induction T with
  | nil=>intro U;cases U<;>simp[ji]
  | cons t T ih =>
   intro U
   cases U with
   | nil=>simp[ji]
   | cons u U =>
    rw[eX,eX,ji,kGC,ih U,iL,iP,decide_eq_true_iff,decide_eq_true_iff,decide_eq_true_iff];constructor
    ·rintro⟨⟨h1,a⟩,rfl⟩
     rw[show t=u from rm h1 a]
    ·intro h
     injection h with h1 a
     exact⟨⟨congrArg _ h1,congrArg _ h1⟩,a⟩
 intro T U;unfold aE;rw[og];exact go T U
inductive kLM(vs:List V)(H:Hp)(Q:VK)(Y:XK):Prop
 | mk:∀(w:ay)(W:Rows)(a c b:Nat),(vs=[.ref w,vn a,vn c,vn b])->(WebAt H w W)->(Tr W)->(Tri.E W a c)->(∀ H',Same H H'->Q (.bl (decide ((nxt W (a,c)).2=b))) H')->kLM vs H Q Y
def bB(B:Fx):Hs "are_round" ["web","p","q","r"] 3 (kLM):=by
 refine qI B.X B.d11 rM λ f a0 A v s0 H vs Q E nN G h=>?_;obtain⟨w,W,a,c,b,rfl,hW,T,I,k⟩:=h;refine⟨_,(kJ (kS (jR (kDR G.units) (pf (vZ B) G (p2 (pv 0) (jJ (p2 (pv 1) (pv 2))))) (jQ (kE (jJ (p2 (pv 1) (pv 2))) (kE (jJ (p2 (pv 2) (pv 3))) (kE (jJ (p2 (pv 3) (pv 1))) kU)))) (qS _)))),?_⟩
 try dsimp only[qQ]
 refine⟨_,rfl,_,rfl,_,rfl,yS2,λ z nz=>?_⟩;have J:=kC nz (.tup [vn a,vn c]);have M:=kB (H:=H) (a:=z) (o:=.tup [vn a,vn c]);refine⟨w,z,W,a,c,rfl,hW.kept J,T.nb,T.le,M,I,λ s m p S Y L=>?_⟩;rw[T.turns I Y]at L;have x:=J.trans S;refine⟨_,rfl,_,rfl,yS2,λ g n1=>⟨_,rfl,_,rfl,yS2,λ l n2=>⟨_,rfl,_,rfl,yS2,λ n U=>⟨yS3,λ u n4=>?_⟩⟩⟩⟩;have N:=kC n1 (.tup [vn a,vn c]);have D:=kC n2 (.tup [vn c,vn b]);have C:=kC U (.tup [vn b,vn a]);have q:=kC n4 (.lst [.ref g,.ref l,.ref n]);have Z:=q _ _ (C _ _ (D _ _ (kB (H:=p) (a:=g) (o:=.tup [vn a,vn c]))));have q2:=q _ _ (C _ _ (kB (H:=upd p g (.tup [vn a,vn c])) (a:=l) (o:=.tup [vn c,vn b])));have q3:=q _ _ (kB (H:=upd (upd p g (.tup [vn a,vn c])) l (.tup [vn c,vn b])) (a:=n) (o:=.tup [vn b,vn a]));have O:=kB (H:=upd (upd (upd p g (.tup [vn a,vn c])) l (.tup [vn c,vn b])) n (.tup [vn b,vn a])) (a:=u) (o:=.lst [.ref g,.ref l,.ref n]);have kk:=N.trans (D.trans (C.trans q))
 have pu:PairsAt (upd (upd (upd (upd p g (.tup [vn a,vn c])) l (.tup [vn c,vn b])) n (.tup [vn b,vn a])) u (.lst [.ref g,.ref l,.ref n])) u [(a,c),(c,b),(b,a)] :=
  ⟨[g,l,n],O,rfl,λ i d t r y=>by
   match i with
   | 0=>cases r;cases y;exact Z
   | 1=>cases r;cases y;exact q2
   | 2=>cases r;cases y;exact q3
   | i+3=>simp at r⟩
 refine⟨_,_,(L.kept kk).dt,pu.dt,oO _,oO _,?_⟩;rw[if_neg (by decide),kDO]
 have e:decide ([(a,c),(c,(nxt W (a,c)).2),((nxt W (a,c)).2,a)]=[(a,c),(c,b),(b,a)])=decide ((nxt W (a,c)).2=b):=by
  rw[iL,decide_eq_true_iff,decide_eq_true_iff];constructor
  ·intro h
   injection h with _ h
   injection h with h _
   exact congrArg Bq h
  ·intro h
   rw[h]
 rw[e];exact k _ (x.trans kk)
inductive fQ(vs:List V)(H:Hp)(Q:VK)(Y:XK):Prop
 | mk:∀(t:ay)(W:Rows),(vs=[.ref t])->(WebAt H t W)->(Tr W)->(∀ H',Same H H'->Q .non H')->fQ vs H Q Y
def fD(B:Fx):Hs "must_be_flat" ["web"] 5 (fQ):=by
 refine qI B.X B.d9 dW λ f g A a m H n Q E l b h=>?_;obtain⟨t,W,rfl,i,T,k⟩:=h;refine⟨_,(kJ (xH (zZ (zJ (pf (kDW B) b (p1 (pv 0))))) (kJ fI) qM)),?_⟩
 try dsimp only[qQ]
 refine⟨_,rfl,t,W,rfl,i,T.nb,T.le,λ d c=>⟨_,rfl,?_⟩⟩;rw[decide_eq_true T.flat];exact xE (k d c)
inductive tT(vs:List V)(H:Hp)(Q:VK)(Y:XK):Prop
 | mk:∀(t:ay)(W:Rows),(vs=[.ref t])->(WebAt H t W)->(Tr W)->(∀ H',Same H H'->Q .non H')->tT vs H Q Y
def aG(B:Fx):Hs "uncornered_face" ["web"] 4 (tT):=by
 refine qI B.X B.d10 uZ λ f a0 A o s0 H vs Q E nN O h=>?_;obtain⟨t,W,rfl,S,T,k⟩:=h
 refine⟨_,(kD (fH (i:=1) (Nc:=["face"]) (js:=[none]) rfl rfl nN rfl (AJ rfl) (xC (pf (kBC B) O (p1 (pv 0)))) (CS.of rfl rfl) rfl (λ C g l N d=>(pgc 0)) (λ C g l N d D L=>(yH (qJ oP (kM (show xR _ _ (wC K) from kP) rfl (B.z B.y0) eg (p1 (pv 0))) kN (qS _)) (jB (pv 0)))))
   (kJ (kS (gX (kMC (pv 1) (λ _=>rfl)) (pix kW (pv 1) kN) wT)))),?_⟩
 try dsimp only[qQ]
 refine⟨_,rfl,t,W,rfl,S,T.nb,T.le,λ s y J ns U=>?_⟩;obtain⟨v,h1,I,Z⟩:=id U;refine⟨s,rfl,⟨_,SqL.of h1⟩,λ D Y=>?_⟩
 refine jM (xs:=v.map V.ref) (λ i m a=>∃(n:Option V),m=[n]/\Same y a/\a D=some (.lst []))
  ⟨none,rfl,kC Y _,kB⟩ ?_ ?_ ?_
 ·rintro i m a _ ⟨n,rfl,c,_⟩
  exact SqL.of (c _ _ h1)
 ·rintro i x m a r ⟨n,rfl,c,p⟩
  rw[bh]at r;obtain⟨b,u,rfl⟩:=cv.mp r;have q:i<(Fc.facesS W).length:=by rw[<-I];exact(au.mp u).1
  have M:=aa q;have hb:=Z i b _ u M;have G:=T.faces _ (gh q);refine⟨_,rfl,b,_,rfl,.inr (SqT.of (c _ _ hb)),rfl,_,rfl,?_⟩;rw[aj,G];exact xE ⟨_,rfl,c,p⟩
 ·rintro m a ⟨n,rfl,c,p⟩
  exact⟨_,rfl,false,.inl ⟨_,SqL.of p,rfl⟩,k a (J.trans c)⟩
inductive kFR(vs:List V)(H:Hp)(Q:VK)(Y:XK):Prop
 | mk:∀(w z:ay)(W:Rows)(a b c:Nat),(vs=[.ref w,.ref z])->(WebAt H w W)->(Tr W)->(H z=some (.tup [vn a,vn b,vn c]))->(Tri.E W a c)->((nxt W (a,c)).2=b)->(∀ H',Same H H'->Q (.bl true) H')->kFR vs H Q Y
def kDX(B:Fx):Hs "is_base" ["web","thing"] 4 (kFR):=by
 refine qI B.X B.d12 kDE λ f I A d U H O Q E o r h=>?_;obtain⟨w,z,W,a,b,c,rfl,x,T,q,l,L,k⟩:=h
 refine⟨_,(kD (xH (zZ (zJ (pf (wW B) r (p2 (pv 1) kN)))) (kJ (kS vJ)) qM)
   (kD (yO (pv 1) (jU (n:=3) rfl (kR (pgn 2 o) (kR (pgn 3 o) (kR (pgn 4 o) qY)))))
   (kJ (kS (vY (kML kUR kMO kN (pv 2) (kM kP rfl (B.z B.y0) eg (p1 (pv 0)))) (vY (jR jD (pv 4) (pix qC (pv 0) (pv 2)) rfl) (aD (pf (bB B) r (kE (pv 0) (kE (pv 2) (kE (pv 4) (kE (pv 3) kU)))))))))))),?_⟩
 try dsimp only[qQ]
 refine⟨_,rfl,z,[a,b,c],rfl,q,(by show 3<=1000;decide),λ M g=>⟨_,rfl,xE ?_⟩⟩;have i:=g _ _ q;have s:=x.kept g;obtain⟨J,h1,p,C⟩:=s.at;obtain⟨row,u,m⟩:=id l;obtain⟨D,v,y⟩:=C a row u;have S:=(T.nb.e l).1;refine⟨_,rfl,z,_,rfl,SqT.of i,rfl,_,_,rfl,_,_,rfl,_,_,rfl,rfl,?_⟩;refine⟨_,rfl,_,_,rfl,rfl,_,rfl,?_⟩;rw[decide_eq_true (show(0:Int)<=(a:Int) by omega)];refine yK ⟨_,rfl,w,_,rfl,.inr (SqT.of h1),_,_,rfl,rfl,_,rfl,?_⟩;rw[decide_eq_true (show(a:Int)<(((J.map V.ref).length:Nat):Int) by rw[aj,p];omega)];refine yK ⟨_,rfl,_,rfl,_,rfl,w,_,_,_,rfl,rfl,SqT.of h1,v,D,_,rfl,.inr (SqT.of y),rfl,yL _,_,rfl,?_⟩;rw[yY,decide_eq_true m];refine yK ⟨_,rfl,_,rfl,_,rfl,_,rfl,w,W,a,c,b,rfl,s,T,l,λ N G=>?_⟩;rw[decide_eq_true L];exact k _ (g.trans G)
inductive fR(vs:List V)(H:Hp)(Q:VK)(Y:XK):Prop
 | mk:∀(w z:ay)(W:Rows)(a b c:Nat),(vs=[.ref w,.ref z])->(WebAt H w W)->(Tr W)->(H z=some (.tup [vn a,vn b,vn c]))->(Tri.E W a c)->((nxt W (a,c)).2=b)->(∀ H',Same H H'->Q .non H')->fR vs H Q Y
def zO(B:Fx):Hs "must_have_base" ["web","base"] 6 (fR):=by
 refine qI B.X B.d13 aU λ f r A g C H y Q E q i h=>?_;obtain⟨w,z,W,a,b,c,rfl,l,T,o,p,u,k⟩:=h
 refine⟨_,(kD (qK (pf (fD B) i (p1 (pv 0))))
   (kD (pst 2 q (pf (aG B) i (p1 (pv 0))))
   (kD (xH (qJ kPK (pv 2) wT (qS _)) (kJ fI) qM)
   (kJ (xH (zZ (zJ (pf (kDX B) i (p2 (pv 0) (pv 1))))) (kJ fI) qM))))),?_⟩
 try dsimp only[qQ]
 refine⟨_,rfl,w,W,rfl,l,T,λ v d=>?_⟩;refine⟨_,rfl,w,W,rfl,l.kept d,T,λ x m=>?_⟩;refine⟨_,rfl,rfl,_,rfl,xE ?_⟩;refine⟨_,rfl,_,rfl,w,z,W,a,b,c,rfl,(l.kept d).kept m,T,m _ _ (d _ _ o),p,u,λ n s=>⟨_,rfl,xE ?_⟩⟩;exact k n (d.trans (m.trans s))
end
section
def kHR{o r:Bool}{K:bb}{a b:ay}{xs ys:List V}{g:TG}{u:TB}{s:St->Hp->Prop}{c:St}{H:Hp}(Pv:Nat->St->Hp->Prop)(f:ys.length<xs.length)(h0:Pv 0 c H)
  (G:∀ i c H,i<=ys.length->Pv i c H->SqX K o H a xs/\SqX K r H b ys)
  (L:∀ i x y T c H,xs[i]?=some x->ys[i]?=some y->H T=none->Pv i c H->g (.ref T) c (upd H T (.tup [x,y])) λ σ2 H2=>u (Pv (i+1)) σ2 H2) (N:∀ c H,Pv ys.length c H->s c H):vP (kTX o r K a b) g u s c H:=by
 refine⟨λ i m c H=>m=ys.length-i/\i<=ys.length/\Pv i c H,⟨ys.length,by simp,fj _,h0⟩,?_⟩;rintro i m c H ⟨rfl,l,p⟩;obtain⟨d,h⟩:=G i c H l p;rcases iA i ys.length with n | n
 ·refine .inr ⟨⟨xs,ys,xs[i]'(by omega),ys[i],d,h,by simp[show i<xs.length by omega],by simp[n]⟩,Pv (i+1),λ v B q=>⟨ys.length-(i+1),by omega,rfl,by omega,q⟩,λ x B A=>?_⟩
  obtain⟨T,D,C,M,rfl,I,J,rfl⟩:=A;exact L i D C T c H (I xs d) (J ys h) M p
 ·obtain rfl:i=ys.length:=by omega
  exact .inl ⟨⟨xs,ys,xs[ys.length]'(by omega),d,h,by simp[f],rfl⟩,N c H p⟩
def yR(a:List Nat):Bn:=.list (a.map λ n:Nat=>ig (n:Int))
def pW(a:List Nat):Bn:=.tuple (a.map λ n:Nat=>ig (n:Int))
def oY(T:List Nat):kb (T.map λ n:Nat=>ig (n:Int))=true/\ni (T.map λ n:Nat=>ig (n:Int))<=1:=by
 induction T with
 | nil=>exact⟨rfl,by decide⟩
 | cons t T ih =>
  simp only[eX,kb,ni,qi,rj,ih.1];have:=ih.2;refine⟨rfl,?_⟩;omega
def wJ(T:List Nat):ud (yR T)=true:=by
 obtain⟨h1,a⟩:=oY T;unfold yR ud;simp only[qi,rj,h1]
 first | (simp;omega) | (rw[iP];exact⟨rfl,decide_eq_true (by omega)⟩) | simp_all
def kEX(T:List Nat):ud (pW T)=true:=by
 obtain⟨h1,a⟩:=oY T;unfold pW ud;simp only[qi,rj,h1]
 first | (simp;omega) | (rw[iP];exact⟨rfl,decide_eq_true (by omega)⟩) | simp_all
def oV(T:List Nat):og (yR T) (yR T)=true:=by
 unfold yR;rw[og];exact kND T
def uN{H:Hp}{s:ay}{T:List Nat}(h:H s=some (.lst (T.map vn))):Dt K H (yR T) (.ref s):=by
 unfold yR Dt;exact⟨s,_,rfl,SqL.of h,sT T⟩
def kNV{H:Hp}{s:ay}{T:List Nat}(h:H s=some (.tup (T.map vn))):Dt K H (pW T) (.ref s):=by
 unfold pW Dt;exact⟨s,_,rfl,SqT.of h,sT T⟩
def pY{d:List Nat}{n:Nat}(h:d.Perm (cz n)){c:List Int}(p:c.Perm (d.map ci))(s:c.Pairwise (·<=·)):c=(cz n).map ci:=by
 have p2:c.Perm ((cz n).map ci):=p.trans (h.map ci)
 have f:((cz n).map ci).Pairwise (·<=·):=by
  rw[ip];refine DB.imp λ{a b} h=>?_;show(a:Int)<=b;omega
 exact p2.eq_of_pairwise (λ a b _ _ h1 g=>FV h1 g) s f
def kEC(T U:List Nat):og (yR T) (yR U)=decide (T=U):=by
 have go:∀(T U:List Nat),ji (T.map λ n:Nat=>ig (n:Int)) (U.map λ n:Nat=>ig (n:Int))=decide (T=U):=λ T=>by
  induction T with
  | nil=>intro U;cases U<;>simp[ji]
  | cons t T ih =>
   intro U
   cases U with
   | nil=>simp[ji]
   | cons u U =>
    rw[eX,eX,ji,ih U,iL,iP,decide_eq_true_iff,decide_eq_true_iff]
    have e:og (ig (t:Int)) (ig (u:Int))=true↔t=u:=by
     simp only[og,beq_iff_eq];omega
    rw[e];constructor
    ·rintro⟨h1,a⟩
     rw[h1,a]
    ·intro h
     injection h with h1 a
     exact⟨h1,a⟩
 unfold yR;rw[og];exact go T U
def kIA(T U:List Nat):og (pW T) (pW U)=decide (T=U):=by
 have go:∀(T U:List Nat),ji (T.map λ n:Nat=>ig (n:Int)) (U.map λ n:Nat=>ig (n:Int))=decide (T=U):=λ T=>by
  induction T with
  | nil=>intro U;cases U<;>simp[ji]
  | cons t T ih =>
   intro U
   cases U with
   | nil=>simp[ji]
   | cons u U =>
    rw[eX,eX,ji,ih U,iL,iP,decide_eq_true_iff,decide_eq_true_iff]
    have e:og (ig (t:Int)) (ig (u:Int))=true↔t=u:=by
     simp only[og,beq_iff_eq];omega
    rw[e];constructor
    ·rintro⟨h1,a⟩
     rw[h1,a]
    ·intro h
     injection h with h1 a
     exact⟨h1,a⟩
 unfold pW;rw[og];exact go T U
inductive oA(vs:List V)(H:Hp)(Q:VK)(Y:XK):Prop
 | mk:∀(w z o:ay)(W:Rows)(a b c:Nat)(ms:List Nat),(vs=[.ref w,.ref z,.ref o])->(WebAt H w W)->(W.length<=42)->(H z=some (.tup [vn a,vn b,vn c]))->(H o=some (.tup (ms.map vn)))->(ms.Perm (cz W.length))->(3<=W.length)->(∀ H',Same H H'->Q (.bl (decide (ms[0]?=some a/\ms[1]?=some b/\ms.getLast?=some c))) H')->oA vs H Q Y
def kBB(B:Fx):Hs "has_ends" ["web","base","thing"] 3 (oA):=by
 refine qI B.X B.d14 kAL λ f a1 A r s0 H vs Q E I D h=>?_;obtain⟨w,z,o,W,a,b,c,d,rfl,hW,Y,hz,q,hp,l3,k⟩:=h
 refine⟨_,(kD (xH (PW.pt (kGA (zZ (zJ (pf (wW B) D (p2 (pv 2) (kM kP rfl (B.z B.y0) eg (p1 (pv 0))))))) (rR (qJ (kDP D.units) (kM mI rfl (B.z B.y8) wo (p1 (pv 2))) (kPD rfl rfl (B.z B.y13) rfl (B.z B.y4) (p1 (kM kP rfl (B.z B.y0) eg (p1 (pv 0))))) (qS _))))) (kJ (kS vJ)) qM)
   (kD (yO (pv 1) (jU (n:=3) rfl (kR (pgn 3 I) (kR (pgn 4 I) (kR (pgn 5 I) qY)))))
   (kJ (kS (jR (kDR D.units) (jJ (kE (pix qC (pv 2) kN) (kE (pix qC (pv 2) kN) (kE (pix qC (pv 2) (dC vO kN)) kU)))) (jJ (kE (pv 3) (kE (pv 4) (kE (pv 5) kU)))) (qS _)))))),?_⟩
 try dsimp only[qQ]
 have u:d.length=W.length:=by rw[hp.length_eq,eY]
 obtain⟨ts,h1,m,h3⟩:=id hW;refine⟨_,rfl,_,rfl,w,_,rfl,.inr (SqT.of h1),o,d,(by rw[aj,m,u];rfl),q,(by omega),λ p s=>⟨_,rfl,xE ?_⟩⟩;refine⟨_,rfl,o,d.map ci,rfl,.inr (SqT.of (by rw[s _ _ q,qV])),λ l a0 nl pm Z=>?_⟩;rw[pY hp pm Z];have S:=kC nl (.lst (((cz W.length).map ci).map V.int));have hl:=kB (H:=p) (a:=l) (o:=.lst (((cz W.length).map ci).map V.int));refine⟨_,rfl,w,_,rfl,.inr (SqT.of (S _ _ (s _ _ h1))),W.length,(by rw[aj,m]),(by omega),λ M n2=>?_⟩;rw[if_neg dw];have U:=kC n2 (.lst (uT W.length));have L:=kB (H:=upd p l (.lst (((cz W.length).map ci).map V.int))) (a:=M) (o:=.lst (uT W.length));have G:=s.trans (S.trans U);refine⟨yR (cz W.length),yR (cz W.length),uN (by rw[qV];exact U _ _ hl),uN L,wJ _,wJ _,_,rfl,?_⟩;rw[oV];refine xE ?_;have J:=G _ _ hz;have g:=G _ _ q;generalize upd (upd p l (.lst (((cz W.length).map ci).map V.int))) M (.lst (uT W.length))=H2 at *;refine⟨_,rfl,z,_,rfl,SqT.of J,rfl,_,_,rfl,_,_,rfl,_,_,rfl,rfl,?_⟩;obtain⟨x,T⟩ : ∃ x,d[0]?=some x:=⟨_,aa (by omega)⟩;obtain⟨y,N⟩ : ∃ y,d[1]?=some y:=⟨_,aa (by omega)⟩;have C:d≠[]:=λ z=>by rw[z]at u;simp at u;omega
 obtain⟨v,i⟩ : ∃ v,d.getLast?=some v:=⟨_,fk C⟩;have e0:atI (d.map vn) 0=some (vn x):=jL (j:=0) (by rw[bh,T];rfl);have e1:atI (d.map vn) 1=some (vn y):=jL (j:=1) (by rw[bh,N];rfl)
 have e2:atI (d.map vn) (-1)=some (vn v):=by
  have em:d=d.dropLast++[v]:=by
   have i:=i;rw[fk C]at i;rw[<-cc i];exact(fh C).symm
  rw[em,eN];exact zM _ _
 refine⟨_,rfl,o,_,_,_,rfl,rfl,SqT.of g,e0,_,rfl,o,_,_,_,rfl,rfl,SqT.of g,e1,_,rfl,_,rfl,o,_,_,_,rfl,rfl,SqT.of g,e2,yS3,λ u1 m1=>?_⟩;have j1:=kC m1 (.tup [vn x,vn y,vn v]);refine⟨_,rfl,_,rfl,_,rfl,yS3,λ u2 m2=>?_⟩;have O:=kC m2 (.tup [vn a,vn b,vn c]);refine⟨pW [x,y,v],pW [a,b,c],kNV (O _ _ kB),kNV kB,kEX _,kEX _,?_⟩;rw[if_neg (by decide),kIA]
 have ee:decide ([x,y,v]=[a,b,c])=decide (d[0]?=some a/\d[1]?=some b/\d.getLast?=some c):=by
  rw[iL,decide_eq_true_iff,decide_eq_true_iff,T,N,i];simp
 rw[ee];exact k _ (G.trans (j1.trans O))
theorem kCI{l r:List Nat}{x y:Nat}(h:Adj l x y):Adj (l++r) x y:=by
 match l,h with
 | a::b::l,h =>
  rcases h with z | z
  ·exact .inl z
  ·exact .inr (kCI (l:=b::l) z)
def kJX{l r:List Nat}{x y:Nat}(h:Adj r x y):Adj (l++r) x y:=by
 induction l with
 | nil=>exact h
 | cons a l ih =>
  cases e:l++r with
  | nil=>rw[e]at ih;exact absurd ih id
  | cons b s =>
   rw[iE,e];rw[e]at ih;exact FA ih
def kQH(xs:List V)(b c:Nat)(h:b<=xs.length):xZ xs (some (b:Int)) (some (c:Int))=(xs.drop b).take (c-b):=by
 unfold xZ;rw[HT.sIx_nat,HT.sIx_nat,kh h,List.take_eq_take_iff,iN];omega
inductive nX(vs:List V)(H:Hp)(Q:VK)(Y:XK):Prop
 | mk:∀(w tp ah:ay)(W:Rows)(top ahead:List Nat)(pl:Nat),(vs=[.ref w,.ref tp,.ref ah,vn pl])->(WebAt H w W)->(Tr W)->(H tp=some (.lst (top.map vn)))->(H ah=some (.tup (ahead.map vn)))->(top.length<=42)->(ahead.length<=42)->(pl<W.length)->(top.Nodup)->((∀ x y,Adj top x y->Tri.E W x y))->((stF W top ahead pl=none->∀ H',Same H H'->Q .non H'))->(∀(st:List Nat),stF W top ahead pl=some st->∀(s:ay)(H':Hp),Same H H'->H s=none->H' s=some (.lst (st.map vn))->Q (.ref s) H')->nX vs H Q Y
def cC(B:Fx):Hs "stretch_under" ["web","top","ahead","place"] 4 (nX):=by
 refine qI B.X B.d15 bX λ f b4 A b0 s0 H vs Q E nN hr h=>?_;obtain⟨w,tp,ah,W,top,ahead,l,rfl,hW,T,ax,ab,l1,l2,lp,b3,hA,kn,k⟩:=h
 refine⟨_,(kD (pst 4 nN (jF (Nc:=["q","web","place"]) (js:=[none,some 0,some 3]) rfl rfl (vW (pv 2)) (CS.of rfl rfl) rfl (λ C m n fp s=>(pgc 0)) (λ C m n fp s D L=>(yH (qJ (show OpR _ _ (rIn K false) from jD) (pv 0) (pix (show IxR _ (rQ K) from qC) (pv 1) (pv 2)) rfl) (jB (pv 0))))))
   (kD (fH (i:=5) (Nc:=["q","below"]) (js:=[none,some 4]) rfl rfl nN rfl (AJ rfl) (xC (pv 1)) (CS.of rfl rfl) rfl (λ C m n fp s=>(pgc 0)) (λ C m n fp s D L=>(yH (qJ (show OpR _ _ (rIn K false) from jD) (pv 0) (pv 1) rfl) (jB (pv 0)))))
   (kD (xH (PW.pt (kGA (qJ kMO (kM kP rfl (B.z B.y0) eg (p1 (pv 5))) kN (qS _)) (rR (qJ oP (kM kP rfl (B.z B.y0) eg (p1 (pv 5))) (kM kP rfl (B.z B.y0) eg (p1 (pv 4))) (qS _))))) (kJ (kS wT)) qM)
   (kD (pst 6 nN (jO jg jh yI (pv 1) (p1 (pix kW (pv 5) kN))))
   (kD (xH (qJ (kDP hr.units) (qG jZ (pv 1) (qH (pv 6)) (qH (qB xU (pv 6) (kM kP rfl (B.z B.y0) eg (p1 (pv 5)))))) (pv 5) (qS _)) (kJ (kS wT)) qM)
   (kD (xH (zZ (zJ (kM (xG rfl) rfl (B.z B.y12) ja (p1 (jF (Nc:=["x","y","web","place"]) (js:=[none,none,some 0,some 3]) rfl rfl (kPC true true rfl (B.z B.y14) (p2 (pv 5) (qG jZ (pv 5) (qH kN) jE))) (CS.of rfl rfl) rfl (λ C m n fp s=>(show PG _ _ (kBS K 2 _) from jU rfl (kR (yW (i:=0) (show AL (α:=Str) ["x","y","web","place"] by decide +kernel) rfl (AJ rfl)) (kR (yW (i:=1) (show AL (α:=Str) ["x","y","web","place"] by decide +kernel) rfl (AJ rfl)) qY)))) (λ C m n fp s D L=>(qO (jB (pf (bB B) hr (kE (pv 2) (kE (pv 0) (kE (pv 1) (kE (pv 3) kU))))))))))))) (kJ (kS wT)) qM)
   (kJ (kS (pv 5))))))))),?_⟩
 try dsimp only[qQ]
 have af:W.getD l []=W[l]:=by rw[ai,aa lp];rfl
 unfold stF at kn k;dsimp only at kn k;rw[af]at kn k;obtain⟨ts,h1,b2,h3⟩:=hW.at;obtain⟨b',e1,e2⟩:=h3 l W[l] (aa lp);refine⟨_,rfl,ah,rfl,⟨_,SqT.of ab⟩,λ D nD=>?_⟩
 refine yG (xs:=ahead.map vn) (λ i G H2=>∃(v:Option V),G=[v,some (.ref w),some (vn l)]/\Same H H2/\H2 D=some (.lst (((ahead.take i).filter λ q=>decide (q∈W[l])).map vn)))
  ⟨none,rfl,kC nD _,kB⟩ ?_ ?_ ?_
 ·rintro i G H2 _ ⟨v,rfl,O,_⟩
  exact SqT.of (O _ _ ab)
 ·rintro i x G H2 hx ⟨v,rfl,O,hD⟩
  rw[bh]at hx;obtain⟨q,a4,rfl⟩:=cv.mp hx;have tk:ahead.take (i+1)=ahead.take i++[q]:=by rw[jf,a4];rfl
  refine⟨_,rfl,_,rfl,_,rfl,w,_,_,_,rfl,rfl,SqT.of (O _ _ h1),e1,b',_,rfl,.inr (SqT.of (O _ _ e2)),rfl,yL _,_,rfl,?_⟩;rw[yY,tk,uj];have lf:=iS (λ q=>decide (q∈W[l])) (ahead.take i);rw[eJ]at lf;refine kEE (λ c=>?_) (λ c=>?_)
  ·refine⟨_,rfl,_,hD,(by rw[aj];exact kQ (by omega)),?_⟩
   refine⟨_,rfl,kY nD O,?_⟩;rw[ua (p:=λ q=>decide (q∈W[l])) (show decide (q∈W[l])=true from c),eN];exact kB
  ·rw[tz (p:=λ q=>decide (q∈W[l])) (show ¬ decide (q∈W[l])=true from c),CC,iY]
   exact⟨_,rfl,O,hD⟩
 rintro G H2 ⟨v,rfl,O,hD⟩;rw[aj,iW]at hD;have I:=O _ _ ax;have lb:=iS (λ q=>decide (q∈W[l])) ahead;generalize ahead.filter (λ q=>decide (q∈W[l]))=u at *;refine⟨_,rfl,tp,rfl,⟨_,SqL.of I⟩,λ S a5=>?_⟩
 refine jM (xs:=top.map vn) (λ i G H3=>∃(v:Option V),G=[v,some (.ref D)]/\Same H2 H3/\H3 S=some (.lst (((top.take i).filter λ q=>decide (q∈u)).map vn)))
  ⟨none,rfl,kC a5 _,kB⟩ ?_ ?_ ?_
 ·rintro i G H3 _ ⟨v,rfl,U,_⟩
  exact SqL.of (U _ _ I)
 ·rintro i x G H3 hx ⟨v,rfl,U,g⟩
  rw[bh]at hx;obtain⟨q,a4,rfl⟩:=cv.mp hx;have tk:top.take (i+1)=top.take i++[q]:=by rw[jf,a4];rfl
  refine⟨_,rfl,_,rfl,D,_,rfl,.inl (SqL.of (U _ _ hD)),rfl,yL _,_,rfl,?_⟩;rw[yY,tk,uj];have lf:=iS (λ q=>decide (q∈u)) (top.take i);rw[eJ]at lf;refine kEE (λ c=>?_) (λ c=>?_)
  ·refine⟨_,rfl,_,g,(by rw[aj];exact kQ (by omega)),?_⟩
   refine⟨_,rfl,kY a5 U,?_⟩;rw[ua (p:=λ q=>decide (q∈u)) (show decide (q∈u)=true from c),eN];exact kB
  ·rw[tz (p:=λ q=>decide (q∈u)) (show ¬ decide (q∈u)=true from c),CC,iY]
   exact⟨_,rfl,U,g⟩
 rintro G H3 ⟨v,rfl,U,g⟩;rw[aj,iW]at g;have b1:=iS (λ q=>decide (q∈u)) top;have ac:∀ q∈top.filter (λ q=>decide (q∈u)),q∈top:=λ q hq=>(iG.mp hq).1;generalize top.filter (λ q=>decide (q∈u))=st at *;have N:=O.trans U;have ap:=U _ _ hD;have J:=U _ _ I;have W3:=hW.kept N;have lst:((st.map vn).length:Int)=st.length:=by rw[aj]
 have an:((u.map vn).length:Int)=u.length:=by rw[aj]
 have ls:st.length<=42:=by omega
 refine⟨_,rfl,S,_,rfl,.inl (SqL.of g),_,_,rfl,rfl,_,rfl,?_⟩;rw[lst];by_cases c1:st.length<2
 ·rw[decide_eq_true (show((st.length:Int)<2) by omega)]
  exact yK (kn (by rw[if_pos (.inl c1)]) _ N)
 rw[decide_eq_false (show ¬ ((st.length:Int)<2) by omega)];refine xE ⟨_,rfl,S,_,rfl,.inl (SqL.of g),_,rfl,D,_,rfl,.inl (SqL.of ap),rfl,_,rfl,?_⟩;rw[lst,an];by_cases c2:st.length=u.length
 case neg =>
  rw[decide_eq_false (show ¬ (V.int (st.length:Int)=V.int (u.length:Int)) from λ z=>c2 (by have:=V.int.inj z;omega))];exact yK (kn (by rw[if_pos (.inr c2)]) _ N)
 rw[c2,decide_eq_true (rfl:V.int ((u.length:Nat):Int)=V.int ((u.length:Nat):Int))];refine xE ?_;rw[if_neg (by omega)]at kn k
 obtain⟨d,rest,a6⟩ : ∃ a r,st=a::r:=by
  match st,c1 with
  | a::r,_=>exact⟨a,r,rfl⟩
  | [],c1=>exact absurd (show([]:List Nat).length<2 by decide) c1
 have am:st.headD 0=d:=by rw[a6];rfl
 have a7:atI (st.map vn) 0=some (vn d):=by rw[a6];exact jL (j:=0) rfl
 have m0:d∈top:=ac d (by rw[a6];exact eV ..);have il:=fe m0;refine⟨_,rfl,.inl ⟨rfl,_,SqL.of J⟩,_,rfl,S,_,_,_,rfl,rfl,SqL.of g,a7,tp,top.map ci,d,top.idxOf d,rfl,rfl,(by rw[J,qV]),kZ m0,?_⟩;refine⟨_,rfl,_,rfl,_,rfl,_,rfl,_,rfl,S,_,rfl,.inl (SqL.of g),_,_,rfl,rfl,_,rfl,tp,_,rfl,SqL.of J,λ p np=>?_⟩;rw[am]at kn k
 have a9:xZ (top.map vn) (some ((top.idxOf d:Nat):Int)) (some (((top.idxOf d:Nat):Int)+(((st.map vn).length:Nat):Int)))=((top.drop (top.idxOf d)).take st.length).map vn:=by
  rw[lst,show(((top.idxOf d:Nat):Int)+(st.length:Int))=((top.idxOf d+st.length:Nat):Int) by omega,kQH _ _ _ (by rw[aj];omega),AB,BJ,show top.idxOf d+st.length-top.idxOf d=st.length by omega]
 rw[a9];have gp:=kC np (.lst (((top.drop (top.idxOf d)).take st.length).map vn));have hp:=kB (H:=H3) (a:=p) (o:=.lst (((top.drop (top.idxOf d)).take st.length).map vn));refine⟨_,rfl,yR ((top.drop (top.idxOf d)).take st.length),yR st,uN hp,uN (gp _ _ g),wJ _,wJ _,_,rfl,?_⟩;rw[kEC];by_cases c3:(top.drop (top.idxOf d)).take st.length=st
 case neg =>
  rw[decide_eq_false c3];exact yK (kn (by rw[if_pos c3]) _ (N.trans gp))
 rw[decide_eq_true c3];rw[if_neg (λ z=>z c3)]at kn k;refine xE ?_;have a2:=gp _ _ g;have W4:=W3.kept gp;have as:=N.trans gp;have ag:H S=none:=O.free a5;generalize upd H3 p (.lst (((top.drop (top.idxOf d)).take st.length).map vn))=H4 at *
 have hE:∀ t∈st.zip st.tail,Tri.E W t.1 t.2:=λ t ht=>by
  obtain⟨x,y⟩:=t;have ad:=fG ht
  have et:top=top.take (top.idxOf d)++(st++(top.drop (top.idxOf d)).drop st.length):=by
   have e2:top.drop (top.idxOf d)=st++(top.drop (top.idxOf d)).drop st.length:=by
    conv=>lhs;rw[<-gi st.length (top.drop (top.idxOf d)),c3]
   rw[<-e2,gi]
  refine hA x y ?_;rw[et];have a1:Adj (st++(top.drop (top.idxOf d)).drop st.length) x y:=kCI ad;exact kJX a1
 have tl:(st.map vn).tail=st.tail.map vn:=by rw[List.map_tail]
 have c1:xZ (st.map vn) (some 1) none=st.tail.map vn:=by
  rw[show(1:Int)=((1:Nat):Int) from rfl,yM _ (by rw[aj];omega),List.drop_one,tl]
 refine⟨_,rfl,_,rfl,_,rfl,S,_,rfl,SqL.of a2,λ D3 aq=>?_⟩;rw[c1];have g5:=kC aq (.lst (st.tail.map vn));have a0:=kB (H:=H4) (a:=D3) (o:=.lst (st.tail.map vn));have M:=g5 _ _ a2;have W5:=W4.kept g5;have ak:=as.trans g5;generalize upd H4 D3 (.lst (st.tail.map vn))=H5 at *;refine⟨S,D3,rfl,⟨_,SqL.of M⟩,⟨_,SqL.of a0⟩,λ D4 a8=>?_⟩
 refine kHR (xs:=st.map vn) (ys:=st.tail.map vn) (λ i G Z=>∃(v x1:Option V),G=[v,x1,some (.ref w),some (vn l)]/\Same H5 Z/\Z D4=some (.lst ((((st.zip st.tail).take i).map λ t=>decide ((nxt W t).2=l)).map V.bl))) (by rw[aj,aj,Cm];omega)
  ⟨none,none,rfl,kC a8 _,kB⟩ ?_ ?_ ?_
 ·rintro i G Z _ ⟨v,x1,rfl,Y,_⟩
  exact⟨SqL.of (Y _ _ M),SqL.of (Y _ _ a0)⟩
 ·rintro i x y T' G Z hx hy nT ⟨v,x1,rfl,Y,a3⟩
  rw[bh]at hx hy;obtain⟨a,ea,rfl⟩:=cv.mp hx;obtain⟨b,eb,rfl⟩:=cv.mp hy
  have mz:(a,b)∈st.zip st.tail:=by
   refine eA (i:=i) ?_;rw[qk];exact⟨ea,eb⟩
  have li:=(au.mp ea).1;have gT:=kC nT (.tup [vn a,vn b]);have hT:=kB (H:=Z) (a:=T') (o:=.tup [vn a,vn b]);have W7:=(W5.kept Y).kept gT;have g7:=Y.trans gT;have al:=gT _ _ a3;generalize upd Z T' (.tup [vn a,vn b])=H7 at *;refine⟨T',_,rfl,SqT.of hT,rfl,_,_,rfl,_,_,rfl,rfl,?_⟩;refine⟨_,rfl,_,rfl,_,rfl,_,rfl,w,W,a,b,l,rfl,W7,T,hE _ mz,λ H8 g8=>?_⟩
  have aw:(st.zip st.tail).take (i+1)=(st.zip st.tail).take i++[(a,b)]:=by
   have:(st.zip st.tail)[i]?=some (a,b):=by rw[qk];exact⟨ea,eb⟩
   rw[jf,this]
   rfl
  refine⟨_,g8 _ _ al,(by rw[aj,aj,eJ];exact kQ (by omega)),?_⟩;refine⟨_,_,rfl,kY a8 (g7.trans g8),?_⟩;rw[aw,eN,eN];exact kB
 ·rintro G Z ⟨v,x1,rfl,Y,a3⟩
  refine⟨D4,_,rfl,SqL.of a3,?_⟩
  have ez:(st.zip st.tail).take (st.tail.map vn).length=st.zip st.tail:=by
   refine ka ?_;rw[Bx,aj];omega
  rw[ez]
  have ea:((st.zip st.tail).map λ t=>decide ((nxt W t).2=l)).all id=(st.zip st.tail).all λ t=>decide ((nxt W t).2=l):=by
   rw[Gz]
   rfl
  rw[ea]
  cases cb:(st.zip st.tail).all λ t=>decide ((nxt W t).2=l) with
  | false=>exact⟨_,rfl,yK (kn (by rw[cb];rfl) _ (ak.trans Y))⟩
  | true =>
   refine⟨_,rfl,xE ⟨_,rfl,?_⟩⟩;exact k st (by rw[cb];rfl) S Z (ak.trans Y) ag (Y _ _ M)
end
section
structure LsAt(H:Hp)(t:ay)(ta:List ay)(Os:List (List Nat)):Prop where
 top:H t=some (.lst (ta.map V.ref))
 len:ta.length=Os.length
 row:∀(i:Nat)(a:ay)(Z:List Nat),ta[i]?=some a->Os[i]?=some Z->H a=some (.lst (Z.map vn))
def LsAt.but{H H':Hp}{t:ay}{c:List ay}{Os:List (List Nat)}(x:LsAt H t c Os)(g:∀ b o,b=t\/b∈c->H b=some o->H' b=some o):LsAt H' t c Os :=
 ⟨g _ _ (.inl rfl) x.top,x.len,λ i a Z d f=>g _ _ (.inr (eA d)) (x.row i a Z d f)⟩
def LsAt.kept{H H':Hp}{t:ay}{a:List ay}{Os:List (List Nat)}(x:LsAt H t a Os)(g:Same H H'):LsAt H' t a Os:=x.but λ b o _=>g b o
def LsAt.app{H:Hp}{t a:ay}{d:List ay}{Os:List (List Nat)}{Z:List Nat}(x:LsAt H t d Os)(h:H a=some (.lst (Z.map vn)))(l:t∉d)(n:a≠t):LsAt (upd H t (.lst (d.map V.ref++[.ref a]))) t (d++[a]) (Os++[Z]):=by
 refine⟨by rw[eN];exact kB,by simp[x.len],λ i b Y c f=>?_⟩
 have m:b≠t:=λ z=>by
  have:=eA c;rw[z]at this;rcases bu.mp this with q | q
  ·exact l q
  ·exact n (de.mp q).symm
 rw[kK m];rcases iA i d.length with g | g
 ·rw[cm g]at c
  rw[cm (by have:=x.len;omega)]at f;exact x.row i b Y c f
 ·obtain rfl:i=d.length:=by
   have:=(au.mp c).1;simp at this;omega
  rw[gn]at c;rw[x.len,gn]at f;cases c
  cases f
  exact h
inductive kFI(vs:List V)(H:Hp)(Q:VK)(Y:XK):Prop
 | mk:∀(tp sp:ay)(top st:List Nat)(pl:Nat),(vs=[.ref tp,.ref sp,vn pl])->(H tp=some (.lst (top.map vn)))->(H sp=some (.lst (st.map vn)))->(st≠[])->((∀ x∈st,x∈top))->(top.length<=42)->(∀(s:ay)(H':Hp),Same H H'->H s=none->H' s=some (.lst ((poF top st pl).map vn))->Q (.ref s) H')->kFI vs H Q Y
def kAW(B:Fx):Hs "put_over" ["top","stretch","place"] 1 (kFI):=by
 refine qI B.X B.d16 kAF λ f a0 A o s0 H vs Q E M hr h=>?_;obtain⟨l,y,top,st,u,rfl,c,i,s,sub,a1,k⟩:=h
 refine⟨_,(kD (pst 3 M (jO jg jh yI (pv 0) (p1 (pix kW (pv 1) kN))))
   (kD (pst 4 M (jO jg jh yI (pv 0) (p1 (pix kW (pv 1) (dC vO kN)))))
   (kJ (kS (qB aF (qB aF (qG jZ (pv 0) jE (qH (qB xU (pv 3) kN))) (jQ (p1 (pv 2)))) (qG jZ (pv 0) (qH (pv 4)) jE)))))),?_⟩
 try dsimp only[qQ]
 obtain⟨a,r,x⟩ : ∃ a r,st=a::r:=by
  match st,s with
  | a::r,_=>exact⟨a,r,rfl⟩
 obtain⟨D,b,v⟩ : ∃ D b,st=D++[b]:=⟨st.dropLast,st.getLast s,(fh s).symm⟩;have q:st.headD 0=a:=by rw[x];rfl
 have n:st.getLastD 0=b:=by rw[v,iF,eZ];rfl
 have N:a∈top:=sub a (by rw[x];exact eV ..);have I:b∈top:=sub b (by rw[v];simp);have d:atI (st.map vn) 0=some (vn a):=by rw[x];exact jL (j:=0) rfl
 have g:atI (st.map vn) (-1)=some (vn b):=by rw[v,eN];exact zM _ _
 have ia:=fe N;have ib:=fe I;refine⟨_,rfl,.inl ⟨rfl,_,SqL.of c⟩,_,rfl,y,_,_,_,rfl,rfl,SqL.of i,d,l,top.map ci,a,top.idxOf a,rfl,rfl,(by rw[c,qV]),kZ N,?_⟩;refine⟨_,rfl,.inl ⟨rfl,_,SqL.of c⟩,_,rfl,_,rfl,y,_,_,_,rfl,rfl,SqL.of i,g,l,top.map ci,b,top.idxOf b,rfl,rfl,(by rw[c,qV]),kZ I,?_⟩
 have Y:xZ (top.map vn) none (some (((top.idxOf a:Nat):Int)+1))=(top.take (top.idxOf a+1)).map vn:=by
  rw[show(((top.idxOf a:Nat):Int)+1)=((top.idxOf a+1:Nat):Int) by omega,wB _ (by rw[aj];omega),<-AB]
 have S:xZ (top.map vn) (some ((top.idxOf b:Nat):Int)) none=(top.drop (top.idxOf b)).map vn:=by
  rw[yM _ (by rw[aj];omega),<-BJ]
 refine⟨_,rfl,_,rfl,_,_,rfl,rfl,_,rfl,l,_,rfl,SqL.of c,λ p1 Z=>?_⟩;rw[Y];have O:=kC Z (.lst ((top.take (top.idxOf a+1)).map vn));refine⟨_,rfl,yS1,λ p2 m2=>?_⟩;have m:=kC m2 (.lst [vn u]);refine⟨p1,p2,_,_,rfl,rfl,m _ _ kB,kB,(by simp only[aj,cq,eh,qv,eJ];exact kl (kQ (by omega))),λ p3 m3=>?_⟩;have C:=kC m3 (.lst ((top.take (top.idxOf a+1)).map vn++[vn u]));have p:=C _ _ (m _ _ (O _ _ c));refine⟨_,rfl,_,rfl,_,rfl,l,_,rfl,SqL.of p,λ p4 T=>?_⟩;rw[S];have J:=kC T (.lst ((top.drop (top.idxOf b)).map vn));refine⟨p3,p4,_,_,rfl,rfl,J _ _ kB,kB,(by simp only[aj,cq,eh,qv,eJ,iN];exact kl (kQ (by omega))),λ p5 G=>?_⟩;have U:=kC G (.lst ((top.take (top.idxOf a+1)).map vn++[vn u]++(top.drop (top.idxOf b)).map vn));have L:=O.trans (m.trans (C.trans J));refine k p5 _ (L.trans U) (L.free G) ?_;rw[kB];unfold poF;rw[q,n];simp
def LsAt.tail{H:Hp}{t:ay}{b:List ay}{Os:List (List Nat)}{Z:List Nat}(x:LsAt H t b (Os++[Z])):∃ ta' a,b=ta'++[a]/\H a=some (.lst (Z.map vn)):=by
 have l:=x.len;rw[cq,iR]at l;have c:b≠[]:=λ z=>by rw[z]at l;cases l
 refine⟨b.dropLast,b.getLast c,(fh c).symm,x.row Os.length _ Z ?_ ?_⟩
 ·rw[show Os.length=b.length-1 by omega,<-iU,fk c]
 ·rw[gn]
structure Gw(H:Hp)(w z o:ay)(W:Rows)(ms:List Nat)(a b c:Nat):Prop where
 web:WebAt H w W
 tr:Tr W
 base:H z=some (.tup [vn a,vn b,vn c])
 ord:H o=some (.tup (ms.map vn))
 perm:ms.Perm (cz W.length)
 three:3<=W.length
 ab:Tri.E W a b
theorem Gw.kept{H H':Hp}{w z o:ay}{W:Rows}{d:List Nat}{a b c:Nat}(h:Gw H w z o W d a b c)(g:Same H H'):Gw H' w z o W d a b c :=
 {h with web:=h.web.kept g,base:=g _ _ h.base,ord:=g _ _ h.ord}
inductive kFL(vs:List V)(H:Hp)(Q:VK)(Y:XK):Prop
 | mk:∀(w z o:ay)(W:Rows)(ms:List Nat)(a b c:Nat),(vs=[.ref w,.ref z,.ref o])->(Gw H w z o W ms a b c)->((yS W a b c ms=none->∀ H',Same H H'->Q .non H'))->(∀(Fs Ts:List (List Nat)),yS W a b c ms=some (Fs,Ts)->∀(t f g:ay)(fa ga:List ay)(H':Hp),Same H H'->H' t=some (.tup [.ref f,.ref g])->LsAt H' f fa Fs->LsAt H' g ga Ts->Q (.ref t) H')->kFL vs H Q Y
def kPM(B:Fx):Hs "laid" ["web","base","thing"] 5 (kFL):=by
 refine qI B.X B.d17 kOV λ f br A bl s0 H vs Q E nN hr h=>?_;obtain⟨w,z,o,W,d,a,b,c,rfl,G,kn,k⟩:=h
 refine⟨_,(kD (xH (zZ (zJ (pf (kBB B) hr (kE (pv 0) (kE (pv 1) (kE (pv 2) kU)))))) (kJ (kS wT)) qM)
   (kD (pst 3 nN (jQ kU))
   (kD (pst 4 nN (jQ (p1 (jC sX rfl (B.z B.y13) DD (p1 (qG sl_tup (pv 2) jE (qH kN)))))))
   (kD (dZ (oM rfl (B.z B.y4) (p2 kN (kM kP rfl (B.z B.y0) eg (p1 (pv 2))))) (pgn 5 nN) (kD (pst 6 nN (pf (cC B) hr (kE (pv 0) (kE (pix kW (pv 4) (dC vO kN)) (kE (qG sl_tup (pv 2) jE (qH (pv 5))) (kE (pix qC (pv 2) (pv 5)) kU))))))
   (kD (xH (qJ kMP (pv 6) wT (qS _)) (kJ (kS wT)) qM)
   (kD (qK (jO iu iw xD (pv 3) (p1 (pv 6))))
   (kJ (qK (jO iu iw xD (pv 4) (p1 (pf (kAW B) hr (kE (pix kW (pv 4) (dC vO kN)) (kE (pv 6) (kE (pix qC (pv 2) (pv 5)) kU))))))))))))
   (kJ (kS (jJ (p2 (pv 3) (pv 4))))))))),?_⟩
 try dsimp only[qQ]
 have lm:d.length=W.length:=by rw[G.perm.length_eq,eY]
 have bi:d.Nodup:=G.perm.nodup_iff.mpr sj;have bt:=G.tr.le;have l3:=G.three;refine⟨_,rfl,_,rfl,_,rfl,w,z,o,W,a,b,c,d,rfl,G.web,G.tr.le,G.base,G.ord,G.perm,G.three,λ H1 g1=>⟨_,rfl,?_⟩⟩;by_cases l:d[0]?=some a/\d[1]?=some b/\d.getLast?=some c
 case neg =>
  rw[decide_eq_false l];exact yK (kn (by unfold yS;rw[if_neg l]) _ g1)
 rw[decide_eq_true l];refine xE ?_;have el:yS W a b c d=goF W d (d.length-2):=by unfold yS;rw[if_pos l]
 rw[el]at kn k;have G1:=G.kept g1;refine⟨yS0,λ f nf=>?_⟩;have gf:=kC nf (.lst []);have hf:=kB (H:=H1) (a:=f) (o:=.lst []);have G2:=G1.kept gf;have g2:=g1.trans gf;have b1:H f=none:=g1.free nf;generalize upd H1 f (.lst [])=H2 at *;refine⟨_,rfl,_,rfl,o,_,rfl,SqT.of G2.ord,?_,λ p1 n1=>?_⟩
 ·rintro⟨_,z⟩
  rw[show(2:Int)=((2:Nat):Int) from rfl,rN (by rw[aj];omega),aj]at z;omega
 have c2:xZ (d.map vn) none (some 2)=(d.take 2).map vn:=by rw[show(2:Int)=((2:Nat):Int) from rfl,wB _ (by rw[aj];omega),<-AB]
 rw[c2];have h1:=kB (H:=H2) (a:=p1) (o:=.tup ((d.take 2).map vn));have I:=kC n1 (.tup ((d.take 2).map vn));refine⟨p1,_,rfl,.inr (SqT.of h1),λ D m1=>⟨yS1,λ g ng=>?_⟩⟩;have gq:=kC m1 (.lst ((d.take 2).map vn));have gg:=kC ng (.lst [.ref D]);have hq:=gg _ _ (kB (H:=upd H2 p1 (.tup ((d.take 2).map vn))) (a:=D) (o:=.lst ((d.take 2).map vn)));have hg:=kB (H:=upd (upd H2 p1 (.tup ((d.take 2).map vn))) D (.lst ((d.take 2).map vn))) (a:=g) (o:=.lst [.ref D]);have U:=I.trans (gq.trans gg);have nq:H2 D=none:=I.free m1;have ac:H2 g=none:=(I.trans gq).free ng;have b6:=U _ _ hf;have G3:=G2.kept U;have g3:=g2.trans U;have bf:H g=none:=g2.free ac;have fg:f≠g:=kF hf ac;have qf:D≠f:=(kF hf nq).symm
 have qg:D≠g:=λ z=>by
  rw[<-z]at ng;rw[kB]at ng;cases ng
 generalize upd (upd (upd H2 p1 (.tup ((d.take 2).map vn))) D (.lst ((d.take 2).map vn))) g (.lst [.ref D])=H3 at *
 have t2:d.take 2=[a,b]:=by
  obtain⟨q0,b5,_⟩:=l
  match d,q0,b5 with
  | x::y::d,e1,e2 =>
   have e1:x=a:=by simpa using e1
   have e2:y=b:=by simpa using e2
   rw[e1,e2]
   rfl
 have an:Top W (d.take 2) (d.take 2):=by
  rw[t2];refine⟨?_,λ x J=>J,λ x y ad=>?_⟩
  ·have:=(G.tr.nb.e G.ab).2.2
   simp[this.symm]
  ·rcases ad with⟨rfl,rfl⟩ | z
   ·exact G.ab
   ·exact absurd z id
 refine⟨_,rfl,o,_,rfl,.inr (SqT.of G3.ord),2,_,rfl,⟨by omega,by omega,(by rw[aj];omega),(by rw[aj];omega)⟩,?_⟩
 refine xP (lo:=2) (n:=((((d.map vn).length:Nat):Int)-2).toNat) (λ i σ O=>∃(x5 x6:Option V)(C S:List ay)(fs m:List (List Nat)),σ=[some (.ref w),some (.ref z),some (.ref o),some (.ref f),some (.ref g),x5,x6]/\Same H O/\goF W d i=some (fs,m)/\fs.length=i/\m.length=i+1/\Top W (d.take (i+2)) (m.getLastD [])/\LsAt O f C fs/\LsAt O g S m/\(∀ x∈C,x≠f/\x≠g)/\∀ x∈S,x≠f/\x≠g)
  ⟨none,none,[],[D],[],[d.take 2],rfl,g3,rfl,rfl,rfl,an,⟨b6,rfl,λ i b Z e=>by simp at e⟩,(by
   exact⟨hg,rfl,λ i b Z e1 e2=>by
    match i with
    | 0=>cases e1;cases e2;exact hq
    | i+1=>simp at e1⟩),(λ x J=>by cases J),(λ x J=>by rw[de.mp J];exact⟨qf,qg⟩)⟩ ?_ ?_
 ·rintro i σ O hi ⟨x5,x6,C,S,fs,m,rfl,g4,go,a0,r,tp,lf,lg,af,ag⟩
  rw[aj]at hi;have hi:i+2<W.length:=by omega
  have G4:=G.kept g4;have al:m≠[]:=λ z=>by rw[z]at r;cases r
  have b2:m=m.dropLast++[m.getLastD []]:=by
   rw[iF,fk al];exact(fh al).symm
  obtain⟨aw,gl,a7,bn⟩:=LsAt.tail (by rw[<-b2];exact lg);have L:O g=some (.lst (aw.map V.ref++[.ref gl])):=by rw[lg.top,a7,eN];rfl
  have bq:d.getD (i+2) 0∉d.take (i+2):=by
   rw[ai,aa (by omega)];intro h;obtain⟨j,hj,e⟩:=fc.mp h;rw[eJ]at hj;rw[xt]at e;have:=(xf bi).mp e;omega
  have b8:d.take (i+1+2)=d.take (i+2)++[d.getD (i+2) 0]:=by
   rw[show i+1+2=i+2+1 by omega,jf,ai,aa (show i+2<d.length by omega)]
   rfl
  have N:(m.getLastD []).length<=42:=by
   have:=tp.len;rw[eJ]at this;omega
  have bm:d.getD (i+2) 0<W.length:=by
   rw[ai,aa (by omega)];exact iB.mp (G.perm.mem_iff.mp (gh _))
  have a1:(2+(i:Int))=((i+2:Nat):Int):=by omega
  have cA:xZ (d.map vn) none (some (2+(i:Int)))=(d.take (i+2)).map vn:=by rw[a1,wB _ (by rw[aj];omega),<-AB]
  have a5:atI (d.map vn) (2+(i:Int))=some (vn (d.getD (i+2) 0)):=by
   rw[a1];refine jL ?_;rw[bh,ai,aa (by omega)]
   rfl
  refine⟨_,rfl,_,rfl,_,rfl,g,_,_,_,rfl,rfl,SqL.of L,zM _ _,_,rfl,_,rfl,_,rfl,o,_,rfl,SqT.of G4.ord,?_,λ p np=>?_⟩
  ·rintro⟨_,z⟩
   rw[a1,rN (by rw[aj];omega),aj]at z;omega
  rw[cA];have I:=kC np (.tup ((d.take (i+2)).map vn));have hp:=kB (H:=O) (a:=p) (o:=.tup ((d.take (i+2)).map vn));have G5:=G4.kept I;have M:=I _ _ bn;have aq:=lf.kept I;have a3:=lg.kept I;have T:=I _ _ L;have g5:=g4.trans I;generalize upd O p (.tup ((d.take (i+2)).map vn))=H5 at *;refine⟨_,rfl,_,rfl,o,_,_,_,rfl,rfl,SqT.of G5.ord,a5,w,gl,p,W,m.getLastD [],d.take (i+2),d.getD (i+2) 0,rfl,G5.web,G.tr,M,hp,N,(by rw[eJ];omega),bm,tp.nd,tp.path,(λ no H6 g6=>?_),λ st a8 s H6 g6 ns hs=>?_⟩
  ·refine⟨_,rfl,rfl,_,rfl,yK (kn ?_ _ (g5.trans g6))⟩
   have:=bL (lQ go no) (d.length-2-(i+1));rwa[show i+1+(d.length-2-(i+1))=d.length-2 by omega]at this
  obtain⟨b9,sub,ne,_⟩:=tp.step G.tr.nb.sym bq a8;have as:=lS go a8;have b0:=g5.trans g6;have a2:=aq.kept g6;have bo:=a3.kept g6;have sf:s≠f:=(kF aq.top ns).symm;have sg:s≠g:=(kF a3.top ns).symm;have bc:C.length=i:=by rw[lf.len,a0]
  have b3:S.length=i+1:=by rw[lg.len,r]
  refine⟨_,rfl,rfl,_,rfl,xE ?_⟩;refine⟨_,rfl,.inl ⟨rfl,_,SqL.of a2.top⟩,_,rfl,f,_,_,rfl,rfl,a2.top,(by rw[aj,bc];exact kQ (by omega)),?_⟩;have a6:=a2.app hs (λ z=>(af f z).1 rfl) sf;have other:∀ b u,b≠f->H6 b=some u->upd H6 f (.lst (C.map V.ref++[.ref s])) b=some u:=λ b u n e=>by rw[kK n];exact e
  have ah:LsAt (upd H6 f (.lst (C.map V.ref++[.ref s]))) g S m:=bo.but λ b u Y e=>other b u (by
   rcases Y with rfl | Y
   ·exact fg.symm
   ·exact(ag b Y).1) e
  have be:=other s _ sf hs;have ak:Same H (upd H6 f (.lst (C.map V.ref++[.ref s]))):=kY b1 b0;have b4:gl≠f:=(ag gl (by rw[a7];simp)).1;have am:=other gl _ b4 (g6 _ _ M);have v:=other g _ fg.symm (g6 _ _ T);generalize upd H6 f (.lst (C.map V.ref++[.ref s]))=H7 at *;have G7:=G.kept ak;refine⟨_,rfl,.inl ⟨rfl,_,SqL.of v⟩,_,rfl,_,rfl,g,_,_,_,rfl,rfl,SqL.of v,zM _ _,_,rfl,_,rfl,_,rfl,o,_,_,_,rfl,rfl,SqT.of G7.ord,a5,gl,s,m.getLastD [],st,d.getD (i+2) 0,rfl,am,be,ne,sub,N,λ s' H8 g8 a4 b7=>?_⟩;have ba:=a6.kept g8;have a9:=ah.kept g8;have bd:s'≠f:=(kF a6.top a4).symm;have ap:s'≠g:=(kF ah.top a4).symm;refine⟨g,_,_,rfl,rfl,a9.top,(by rw[aj,b3];exact kQ (by omega)),?_⟩;have ax:=a9.app b7 (λ z=>(ag g z).2 rfl) ap;refine⟨_,_,C++[s],S++[s'],_,_,rfl,kY bf (ak.trans g8),as,(by simp[a0]),(by simp[r]),(by rw[bH,b8];exact b9),ba.but λ b u Y e=>?_,ax,λ x J=>?_,λ x J=>?_⟩
  ·have:b≠g:=by
    rcases Y with rfl | Y
    ·exact fg
    ·rcases bu.mp Y with q | q
     ·exact(af b q).2
     ·rw[de.mp q];exact sg
   rw[kK this];exact e
  ·rcases bu.mp J with q | q
   ·exact af x q
   ·rw[de.mp q];exact⟨sf,sg⟩
  ·rcases bu.mp J with q | q
   ·exact ag x q
   ·rw[de.mp q];exact⟨bd,ap⟩
 ·rintro σ O ⟨x5,x6,C,S,fs,m,rfl,g4,go,a0,r,tp,lf,lg,af,ag⟩
  have en:((((d.map vn).length:Nat):Int)-2).toNat=d.length-2:=by rw[aj];omega
  rw[en]at go;refine⟨_,rfl,_,rfl,yS2,λ t nt=>?_⟩;have gt:=kC nt (.tup [.ref f,.ref g]);exact k fs m go t f g C S _ (g4.trans gt) kB (lf.kept gt) (lg.kept gt)
end
section
inductive kFM(vs:List V)(H:Hp)(Q:VK)(Y:XK):Prop
 | mk:∀(w z o:ay)(W:Rows)(ms:List Nat)(a b c:Nat)(Fs Ts:List (List Nat)),(vs=[.ref w,.ref z,.ref o])->(Gw H w z o W ms a b c)->((Tri.E W a c/\(nxt W (a,c)).2=b))->(yS W a b c ms=some (Fs,Ts))->(∀(t f g:ay)(fa ga:List ay)(H':Hp),Same H H'->H' t=some (.tup [.ref f,.ref g])->LsAt H' f fa Fs->LsAt H' g ga Ts->Q (.ref t) H')->kFM vs H Q Y
def fA(B:Fx):Hs "must_be_laid" ["web","base","order"] 7 (kFM):=by
 refine qI B.X B.d18 dU λ f L A l T H S Q E D q h=>?_;obtain⟨w,z,o,W,x,a,b,c,v,y,rfl,G,d,r,k⟩:=h
 refine⟨_,(kD (qK (pf (zO B) q (p2 (pv 0) (pv 1))))
   (kD (pst 3 D (pf (kPM B) q (kE (pv 0) (kE (pv 1) (kE (pv 2) kU)))))
   (kD (xH (qJ kMP (pv 3) wT (qS _)) (kJ fI) qM)
   (kJ (kS (pv 3)))))),?_⟩
 try dsimp only[qQ]
 refine⟨_,rfl,_,rfl,w,z,W,a,b,c,rfl,G.web,G.tr,G.base,d.1,d.2,λ O p=>?_⟩;refine⟨_,rfl,_,rfl,_,rfl,w,z,o,W,x,a,b,c,rfl,G.kept p,(λ n=>by rw[r]at n;cases n),λ i m e t f g s C u J N I M=>?_⟩;rw[r]at e;obtain⟨rfl,rfl⟩ : v=i/\y=m:=by injection e with e;injection e with e1 e2;exact⟨e1,e2⟩
 refine⟨_,rfl,rfl,_,rfl,xE ?_⟩;exact⟨_,rfl,k t f g s C u (p.trans J) N I M⟩
end
section
inductive kLL(vs:List V)(H:Hp)(Q:VK)(Y:XK):Prop
 | mk:∀(a r:ay)(W:Rows),(vs=[.ref a,.ref r])->(PotAt H a)->(WebAt H r W)->(Good W)->(W.length<=42)->(∀(t:ay)(x y z:Nat)(H':Hp),SameBut a H H'->PotAt H' a->H t=none->H' t=some (.tup [vn x,vn y,vn z])->Tri.E W x z->(nxt W (x,z)).2=y->Q (.ref t) H')->kLL vs H Q Y
def kAY(B:Fx):Hs "_law_base" ["_law_pot_here","_law_web_here"] 3 (kLL):=by
 refine qI B.X B.d37 kAI λ f Z A i s0 H vs Q E I C h=>?_;obtain⟨a,r,W,rfl,u,s,G,a0,k⟩:=h
 refine⟨_,(kD (yO (pf (uA B) C (p2 (pv 0) (pv 1))) (jU (n:=2) rfl (kR (pgn 2 I) (kR (pgn 3 I) qY))))
   (kJ (kS (jJ (kE (pv 2) (kE (pf (yX B) C (kE (pv 1) (kE (pv 2) (kE (pv 3) kU)))) (kE (pv 3) kU))))))),?_⟩
 try dsimp only[qQ]
 have S:=(Wb.of G).toNb;have l3:=G.three;refine⟨_,rfl,_,rfl,.inr ⟨a,r,W,rfl,u,s,by omega,by omega,λ p row e=>⟨G.ne p row e,by have:=S.len e;omega⟩,λ t p q H1 g p1 nt ht d=>?_⟩⟩;refine⟨t,_,rfl,SqT.of ht,rfl,_,_,rfl,_,_,rfl,rfl,?_⟩;have l:=s.pot g u;obtain⟨z,D,n2,n3,e1,e2⟩:=kEY S (zK G).1 d;obtain⟨row,O,nd,mem,pv⟩:=Fc.row_at S (S.e d).2.1;have M:p∈row:=(mem p).mpr (S.sym _ _ d)
 obtain⟨v,L⟩ : ∃ v,xI row p=some v:=by
  exact wS M
 have o:=pv p v L;rw[D]at o;obtain rfl:z=v:=congrArg Bq o;obtain⟨ts,h1,h2,T⟩:=l.at;obtain⟨b,N,Y⟩:=T q row O;refine⟨_,rfl,_,rfl,_,rfl,_,rfl,r,b,_,p,q,row,z,rfl,.inr ⟨h1,Y⟩,N,M,L,_,rfl,yS3,λ m c=>?_⟩;have J:=kC c (.tup [vn p,vn z,vn q]);refine k m p z q _ ?_ ?_ ?_ kB d (by rw[D])
 ·exact g.trans (SameBut.of J)
 ·exact p1.kept J
 ·cases e:H m with
  | none=>rfl
  | some ob =>
   have na:m≠a:=λ z=>by
    obtain⟨x,y,U,_⟩:=p1;rw[z,U]at c;cases c
   rw[g _ _ na e]at c;cases c
def pS{l:List Nat}{j:Nat}(h:j<l.length):atI (l.map vn) (j:Int)=some (vn (l.getD j 0)):=jL (by rw[bh,ai,aa h];rfl)
def gO(f:Nat->Bool)(j:Nat):(cz (j+1)).filter f=(cz j).filter f++if f j=true then[j] else[]:=by
 rw[Bo,uj]
 congr 1
 by_cases c:f j=true
 ·rw[if_pos c,ua c,CC]
 ·rw[if_neg c,tz c,CC]
end
section
def isB(a b c p:Nat):Bool:=decide (p∈[a,b,c])
def isB_iff{a b c p:Nat}:isB a b c p=true↔(p=a\/p=b\/p=c):=by unfold isB;simp
def uL{a b c p:Nat}(h:isB a b c p=false):p≠a/\p≠b/\p≠c:=by
 unfold isB at h;simpa using h
def uP(n a b c:Nat):List Nat:=(cz n).filter λ p=>!isB a b c p
def wM(p a b c:Nat):inV (vn p) [vn a,vn b,vn c]=isB a b c p:=yY p [a,b,c]
def zC(a b c:Nat):([vn a,vn b,vn c]:List V).all uE=true:=rfl
inductive kFO(vs:List V)(H:Hp)(Q:VK)(Y:XK):Prop
 | mk:∀(w z:ay)(W:Rows)(a b c:Nat),(vs=[.ref w,.ref z])->(WebAt H w W)->(W.length<=42)->(H z=some (.tup [vn a,vn b,vn c]))->(∀(l:ay)(H':Hp),Same H H'->H l=none->H' l=some (.lst ((uP W.length a b c).map vn))->Q (.ref l) H')->kFO vs H Q Y
def vK(B:Fx):Hs "inner_places" ["web","base"] 1 (kFO):=by
 refine qI B.X B.d19 dY λ f O A r s0 H U Q E nN Y h=>?_;obtain⟨w,z,W,a,b,c,rfl,J,S,y,k⟩:=h;refine⟨_,(kJ (kS (jF (Nc:=["p","base"]) (js:=[none,some 1]) rfl rfl (jT rfl (B.z B.y4) (p1 (kM kP rfl (B.z B.y0) eg (p1 (pv 0))))) (CS.of rfl rfl) rfl (λ C m o I i=>(pgc 0)) (λ C m o I i D L=>(yH (qJ (show OpR _ _ (rIn K true) from wV) (pv 0) (pv 1) rfl) (jB (pv 0))))))),?_⟩
 try dsimp only[qQ]
 obtain⟨T,h1,d,Z⟩:=J.at;refine⟨_,rfl,w,_,rfl,.inr (SqT.of h1),_,rfl,(by rw[aj,d];omega),(by rw[aj,d];omega),λ D u=>?_⟩;refine wQ (lo:=0) (n:=((((T.map V.ref).length:Nat):Int)).toNat) (λ j s g=>∃(v:Option V),s=[v,some (.ref z)]/\Same H g/\g D=some (.lst ((uP j a b c).map vn))) ⟨none,rfl,kC u _,kB⟩ ?_ ?_
 ·rintro j s g x ⟨v,rfl,q,l⟩
  have N:j<W.length:=by rw[aj,iI,d]at x;exact x
  have M:((uP j a b c).map vn).length<sizeLine:=by
   rw[aj];have:=iS (λ p=>!isB a b c p) (cz j);rw[eY]at this;exact kQ (by unfold uP;omega)
  have e:uP (j+1) a b c=uP j a b c++if(!isB a b c j)=true then[j] else[]:=gO (λ p=>!isB a b c p) j;rw[e];generalize uP j a b c=L at *;have G:V.int (0+(j:Int))=vn j:=by rw[Ak];rfl
  refine⟨_,rfl,_,rfl,z,_,rfl,.inr (SqT.of (q _ _ y)),rfl,zC a b c,_,rfl,?_⟩;rw[G,wM]
  cases isB a b c j with
  | true=>exact xE ⟨_,rfl,q,by rw[if_neg (by decide),iY];exact l⟩
  | false =>
   refine yK ⟨_,rfl,_,l,M,⟨_,rfl,kY u q,?_⟩⟩;rw[if_pos (by decide),kB,eN]
   rfl
 ·rintro s g ⟨v,rfl,q,l⟩
  rw[aj,iI,d]at l;exact k D g q u l
inductive tW(vs:List V)(H:Hp)(Q:VK)(Y:XK):Prop
 | mk:∀(w z t:ay)(W:Rows)(a b c p:Nat)(row r:List Nat),(vs=[.ref w,.ref z,vn p,.ref t])->(WebAt H w W)->(H z=some (.tup [vn a,vn b,vn c]))->(H t=some (.tup (r.map vn)))->(W[p]?=some row)->r.Nodup->(r.length=if isB a b c p=true then 0 else 3)->(∀ q∈r,q∈row)->(∀ H',Same H H'->Q (.bl true) H')->tW vs H Q Y
def mV(B:Fx):Hs "is_out_row" ["web","base","place","thing"] 3 (tW):=by
 refine qI B.X B.d20 mT λ f a1 A M s0 H vs Q E nN hr h=>?_;obtain⟨w,z,t,W,a,b,c,p,row,r,rfl,hW,hz,J,er,nd,s,sub,k⟩:=h
 refine⟨_,(kD (pst 4 nN (gX (qJ jD (pv 2) (pv 1) rfl) kN kN))
   (kJ (kS (vY (pf (wW B) hr (p2 (pv 3) (pv 4))) (vY (jR kGG (kM kJW rfl (B.z B.y0) eg (p1 (jC (kJT rfl) rfl (B.z B.y15) HG (p1 (pv 3))))) (pv 4) (qS _)) (aD (kM (xG rfl) rfl (B.z B.y12) ja (p1 (jF (Nc:=["q","web","place"]) (js:=[none,some 0,some 2]) rfl rfl (vW (pv 3)) (CS.of rfl rfl) rfl (λ C m y fp l=>(pgc 0)) (λ C m y fp l D L=>(qO (jB (jR (show OpR _ _ (rIn K false) from jD) (pv 0) (pix (show IxR _ (rQ K) from qC) (pv 1) (pv 2)) rfl))))))))))))),?_⟩
 try dsimp only[qQ]
 have r3:r.length<=3:=by rw[s];split<;>omega
 have go:(kUA (kKY (kFD kCW [] E0 (aR (vQ 3) (aR (vQ 4) kCT))) (kKY (tOp rEq (tCB aM (aR (tCB (aL K) (aR (vQ 3) kCT)) kCT)) (vQ 4)) (tCB (aN K) (aR (tLC [none,some 0,some 2] (kTJ K (vQ 3)) (lV 0) λ D=>kVM D (tOp (rIn K false) (vQ 0) (tOp (rQ K) (vQ 1) (vQ 2)))) kCT))))) {nx:=λ x H'=>Q V.non H',rt:=Q} [some (.ref w),some (.ref z),some (vn p),some (.ref t),some (vn r.length)] H:=by
  refine⟨_,rfl,_,rfl,t,r,rfl,J,by omega,λ U Y=>⟨_,rfl,yK ?_⟩⟩;have T:=Y _ _ J;refine⟨_,rfl,t,r.map ci,rfl,.inr (SqT.of (by rw[T,qV])),(by rw[aj];omega),λ S f n nS hn le=>?_⟩;have gS:=kC nS (.set f n);have hS:=kB (H:=U) (a:=S) (o:=.set f n);have N:(r.map ci).Nodup:=ip.mpr (nd.imp λ{a b} h e=>h (by simp only[ci]at e;omega));have en:n=r.length:=by rw[hn.mpr N,aj]
  refine⟨S,f,n,rfl,hS,_,rfl,rfl,_,rfl,?_⟩;rw[decide_eq_true (show V.int (n:Int)=vn r.length by rw[en];rfl)];refine yK ?_;have I:=Y.trans gS;generalize upd U S (.set f n)=H2 at *;obtain⟨ts,h1,a0,h3⟩:=(hW.kept I).at;obtain⟨b',e1,e2⟩:=h3 p row er;refine⟨_,rfl,t,rfl,⟨_,SqT.of (I _ _ J)⟩,λ D Z=>?_⟩;refine yG (xs:=r.map vn) (λ j G g=>∃(u:Option V),G=[u,some (.ref w),some (vn p)]/\g D=some (.lst ((eQ j true).map V.bl))/\Same H2 g) ⟨none,rfl,kB,kC Z _⟩ ?_ ?_ ?_
  ·rintro j G g _ ⟨u,rfl,_,d⟩
   exact SqT.of (d _ _ (I _ _ J))
  ·rintro j v G g hv ⟨u,rfl,O,d⟩
   rw[bh]at hv;obtain⟨q,i,rfl⟩:=cv.mp hv;have hj:=(au.mp i).1;have qo:=sub q (eA i);refine⟨_,rfl,_,rfl,_,rfl,w,_,_,_,rfl,rfl,SqT.of (d _ _ h1),e1,b',_,rfl,.inr (SqT.of (d _ _ e2)),rfl,yL _,?_⟩;rw[yY,decide_eq_true qo];refine⟨_,O,(by rw[aj,km];exact kQ (by omega)),?_⟩;exact⟨_,rfl,(by rw[vj,eN];exact kB),kY Z d⟩
  ·rintro G g ⟨u,rfl,O,d⟩
   refine⟨D,_,rfl,SqL.of O,?_⟩;rw[show(eQ (r.map vn).length true).all id=true by simp];exact k g (I.trans d)
 refine⟨_,rfl,_,rfl,z,_,rfl,.inr (SqT.of hz),rfl,zC a b c,_,rfl,?_⟩;rw[wM]
 cases hB:isB a b c p with
 | true =>
  rw[hB,if_pos rfl]at s;rw[s]at go;exact yK go
 | false =>
  rw[hB,if_neg (by decide)]at s;rw[s]at go;exact xE go
end
section
inductive tX(vs:List V)(H:Hp)(Q:VK)(Y:XK):Prop
 | mk:∀(z d t:ay)(D:Rows)(a b c p q:Nat)(rp rq:List Nat),(vs=[.ref z,.ref d,.ref t])->(H z=some (.tup [vn a,vn b,vn c]))->(WebAt H d D)->(H t=some (.tup [vn p,vn q]))->(D[p]?=some rp)->(D[q]?=some rq)->((isB a b c p=true/\isB a b c q=true)\/(q∈rp↔p∉rq))->(Q (.bl true) H)->tX vs H Q Y
def cE(B:Fx):Hs "leads_one_way" ["base","rows","tie"] 1 (tX):=by
 refine qI B.X B.d21 bZ λ f T A o s0 H Y Q E v Z h=>?_;obtain⟨z,d,t,D,a,b,c,p,q,s,I,rfl,r,J,U,C,G,i,k⟩:=h
 refine⟨_,(kD (yO (pv 2) (jU (n:=2) rfl (kR (pgn 3 v) (kR (pgn 4 v) qY))))
   (kJ (kS (kQZ (vY (jR jD (pv 3) (pv 0) rfl) (aD (jR jD (pv 4) (pv 0) rfl))) (aD (jR oP (jR jD (pv 4) (pix qC (pv 1) (pv 3)) rfl) (jR jD (pv 3) (pix qC (pv 1) (pv 4)) rfl) (qS _))))))),?_⟩
 try dsimp only[qQ]
 obtain⟨ts,h1,O,u⟩:=J.at;obtain⟨L,M,N⟩:=u p s C;obtain⟨y,x,S⟩:=u q I G;refine⟨_,rfl,t,_,rfl,SqT.of U,rfl,_,_,rfl,_,_,rfl,rfl,?_⟩;refine⟨_,rfl,_,rfl,z,_,rfl,.inr (SqT.of r),rfl,zC a b c,_,rfl,?_⟩
 have l:kKU (tOp rNe (tOp (rIn K false) (vQ 4) (tOp (rQ K) (vQ 1) (vQ 3))) (tOp (rIn K false) (vQ 3) (tOp (rQ K) (vQ 1) (vQ 4)))) [some (.ref z),some (.ref d),some (.ref t),some (vn p),some (vn q)] Q (.bl false) H\/(isB a b c p=true/\isB a b c q=true):=by
  rcases i with i | i
  ·exact .inr i
  ·refine .inl ⟨_,rfl,xE ?_⟩
   refine⟨_,rfl,_,rfl,_,rfl,d,_,_,_,rfl,rfl,SqT.of h1,M,L,_,rfl,.inr (SqT.of N),rfl,yL _,_,rfl,_,rfl,_,rfl,d,_,_,_,rfl,rfl,SqT.of h1,x,y,_,rfl,.inr (SqT.of S),rfl,yL _,rfl,?_⟩;rw[yY,yY];by_cases m:q∈s
   ·rw[decide_eq_true m,decide_eq_false (i.mp m)]
    exact k
   ·rw[decide_eq_false m,decide_eq_true (iH λ z=>m (i.mpr z))]
    exact k
 rw[wM]
 cases hp:isB a b c p with
 | false =>
  rcases l with g | g
  ·exact xE g
  ·rw[hp]at g
   exact absurd g.1 (by decide)
 | true =>
  refine yK ⟨_,rfl,_,rfl,z,_,rfl,.inr (SqT.of r),rfl,zC a b c,?_⟩;rw[wM]
  cases hq:isB a b c q with
  | false =>
   rcases l with g | g
   ·exact g
   ·rw[hq]at g
    exact absurd g.2 (by decide)
  | true=>exact⟨_,rfl,yK k⟩
inductive tU(vs:List V)(H:Hp)(Q:VK)(Y:XK):Prop
 | mk:∀(d:ay)(D:Rows)(p q:Nat)(rp rq:List Nat),(vs=[.ref d,vn p,vn q])->(WebAt H d D)->(D[p]?=some rp)->(D[q]?=some rq)->(rp.length<=3)->(rq.length<=3)->(q∈rp\/p∈rq)->(Q (vn (vL D p q)) H)->tU vs H Q Y
def kIQ(B:Fx):Hs "stands" ["rows","place","q"] 1 (tU):=by
 refine qI B.X B.d22 kIH λ f a1 A C s0 H vs Q E nN hr h=>?_;obtain⟨d,D,p,q,s,u,rfl,hD,J,L,l1,l2,cd,k⟩:=h;obtain⟨b,o,m⟩:=kRF B.X B.cOUT (by decide);obtain⟨a,c,g⟩:=kRF B.X B.cINTO (by decide)
 refine⟨_,(kD (xH (qJ jD (pv 2) (pix qC (pv 0) (pv 1)) rfl) (kJ (kS (pix qC (kGE (v:=.ref b) rfl o rfl) (dD mo mv mw zB (pix qC (pv 0) (pv 1)) (p1 (pv 2)))))) qM)
   (kJ (kS (pix qC (kGE (v:=.ref a) rfl c rfl) (dD mo mv mw zB (pix qC (pv 0) (pv 2)) (p1 (pv 1))))))),?_⟩
 try dsimp only[qQ]
 obtain⟨ts,h1,a0,O⟩:=hD.at;obtain⟨M,N,G⟩:=O p s J;obtain⟨b2,T,S⟩:=O q u L;have Y:D.getD p []=s:=by rw[ai,J];rfl
 have gq:D.getD q []=u:=by rw[ai,L];rfl
 unfold vL at k;rw[Y,gq]at k;have r:∀{x y z:Nat}{i:Nat},i<3->atI ([(x:Int),(y:Int),(z:Int)].map V.int) (i:Int)=some (vn ([x,y,z].getD i 0)):=λ{x y z i} Z=>pS (l:=[x,y,z]) (by simpa using Z);refine⟨_,rfl,_,rfl,_,rfl,d,_,_,_,rfl,rfl,SqT.of h1,N,M,_,rfl,.inr (SqT.of G),rfl,yL _,_,rfl,?_⟩;rw[yY];by_cases n:q∈s
 ·rw[decide_eq_true n]
  rw[if_pos n]at k;have U:=fe n;refine yK ⟨_,rfl,_,rfl,d,_,_,_,rfl,rfl,SqT.of h1,N,.inr (.inl ⟨rfl,.inr ⟨_,G⟩⟩),_,rfl,M,s.map ci,q,s.idxOf q,rfl,rfl,SqT.of (by rw[G,qV]),kZ n,?_⟩;exact⟨b,_,_,_,rfl,rfl,m _,r (x:=0) (y:=2) (z:=4) (by omega),k⟩
 ·rw[decide_eq_false n]
  rw[if_neg n]at k;have I:=cd.resolve_left n;have U:=fe I;refine xE ⟨_,rfl,_,rfl,d,_,_,_,rfl,rfl,SqT.of h1,T,.inr (.inl ⟨rfl,.inr ⟨_,S⟩⟩),_,rfl,b2,u.map ci,p,u.idxOf p,rfl,rfl,SqT.of (by rw[S,qV]),kZ I,?_⟩;exact⟨a,_,_,_,rfl,rfl,g _,r (x:=3) (y:=5) (z:=1) (by omega),k⟩
end
section
inductive kLE(vs:List V)(H:Hp)(Q:VK)(Y:XK):Prop
 | mk:∀(w d:ay)(W D:Rows)(p x:Nat)(row rp:List Nat),(vs=[.ref w,.ref d,vn p])->(WebAt H w W)->(WebAt H d D)->(W[p]?=some row)->(D[p]?=some (x::rp))->x∈row->row.length<=42->(∀ q∈row,∃ rq,D[q]?=some rq/\rq.length<=3/\(q∈x::rp\/p∈rq))->(x::rp).length<=3->((rot row x).map (vL D p)).Pairwise (·<=·)->(∀ H',Same H H'->Q (.bl true) H')->kLE vs H Q Y
def cD(B:Fx):Hs "stand_in_turn" ["web","rows","place"] 2 (kLE):=by
 refine qI B.X B.d23 bY λ f a1 A J s0 H vs Q E nN M h=>?_;obtain⟨w,d,W,D,p,x,row,rp,rfl,hW,hD,er,T,hx,a2,ok,l3,O,k⟩:=h
 refine⟨_,(kD (fH (i:=3) (Nc:=["q","rows","place"]) (js:=[none,some 1,some 2]) rfl rfl nN rfl (AJ rfl) (vW (pf (kDY B) M (p2 (pix qC (pv 0) (pv 2)) (pix qC (pix qC (pv 1) (pv 2)) kN)))) (CS.of rfl rfl) rfl (λ C o r fp n=>(pgc 0)) (λ C o r fp n D L=>(qO (jB (pf (kIQ B) M (kE (pv 1) (kE (pv 2) (kE (pv 0) kU))))))))
   (kJ (kS (jR (kDR M.units) (pv 3) (kM mI rfl (B.z B.y8) wo (p1 (pv 3))) (qS _))))),?_⟩
 try dsimp only[qQ]
 obtain⟨ts,h1,a4,h3⟩:=hW.at;obtain⟨b1,e1,e2⟩:=h3 p row er;obtain⟨us,u1,a0,u3⟩:=hD.at;obtain⟨b2,f1,f2⟩:=u3 p _ T;have ml:∀ q,q∈rot row x↔q∈row:=λ q=>((gM row x).mem q).symm;have a3:(rot row x).length=row.length:=((gM row x).perm.length_eq).symm;refine⟨_,rfl,_,rfl,w,_,_,_,rfl,rfl,SqT.of h1,e1,_,rfl,_,rfl,d,_,_,_,rfl,rfl,SqT.of u1,f1,b2,_,_,_,rfl,rfl,SqT.of f2,(show atI (vn x::rp.map vn) 0=some (vn x) from jL (j:=0) rfl),b1,row,x,rfl,.inr e2,hx,by omega,λ t H1 Y Z=>?_⟩;refine⟨t,rfl,⟨_,SqT.of Z⟩,λ L nL=>?_⟩;refine yG (xs:=(rot row x).map vn) (λ j y m=>∃(u:Option V),y=[u,some (.ref d),some (vn p)]/\m L=some (.lst ((((rot row x).take j).map (vL D p)).map vn))/\Same H1 m) ⟨none,rfl,kB,kC nL _⟩ ?_ ?_ ?_
 ·rintro j y m _ ⟨u,rfl,_,g⟩
  exact SqT.of (g _ _ Z)
 ·rintro j v y m hv ⟨u,rfl,s,g⟩
  rw[bh]at hv;obtain⟨q,c,rfl⟩:=cv.mp hv;have hj:=(au.mp c).1;obtain⟨rq,G,S,cd⟩:=ok q ((ml q).mp (eA c));refine⟨_,rfl,_,rfl,_,rfl,d,D,p,q,_,rq,rfl,(hD.kept Y).kept g,T,G,l3,S,cd,?_⟩;refine⟨_,s,(by rw[aj,aj,eJ];exact kQ (by omega)),_,rfl,?_,kY nL g⟩;rw[jf,c,kB];simp
 ·rintro y m ⟨u,rfl,s,g⟩
  rw[aj,iW]at s;generalize(rot row x).map (vL D p)=N at *;refine⟨_,rfl,_,rfl,L,N.map ci,rfl,.inl (SqL.of (by rw[s,qV])),λ l I nl pm sr=>?_⟩;have en:I=N.map ci:=List.Perm.eq_of_pairwise (le:=(·<=·)) (λ a b _ _ h1 h2=>FV h1 h2) sr (ip.mpr (O.imp λ{a b} h=>by simp only[ci];omega)) pm;subst en;have U:=kC nl (.lst ((N.map ci).map V.int));refine⟨yR N,yR N,uN (U _ _ s),uN (by rw[qV];exact kB),wJ _,wJ _,?_⟩;rw[oV];exact k _ (Y.trans (g.trans U))
inductive kLH(vs:List V)(H:Hp)(Q:VK)(Y:XK):Prop
 | mk:∀(w z d:ay)(W D:Rows)(a b c k x:Nat)(row:List Nat),(vs=[.ref w,.ref z,.ref d,vn k])->(WebAt H w W)->(H z=some (.tup [vn a,vn b,vn c]))->(WebAt H d D)->([a,b,c][k]?=some x)->(W[x]?=some row)->row.length<=42->(∀ q∈row,isB a b c q=false->∃ rq,D[q]?=some rq/\rq[k]?=some x)->(∀ H',Same H H'->Q (.bl true) H')->kLH vs H Q Y
def kDS(B:Fx):Hs "lead_in" ["web","base","rows","k"] 1 (kLH):=by
 refine qI B.X B.d24 kCZ λ f a1 A G s0 H vs Q E nN hr h=>?_;obtain⟨w,z,d,W,D,a,b,c,k,x,row,rfl,hW,I,hD,ex,er,a2,ok,q0⟩:=h
 refine⟨_,(kD (pst 4 nN (pix qC (pv 1) (pv 3)))
   (kJ (kS (kM (xG rfl) rfl (B.z B.y12) ja (p1 (jF (Nc:=["q","corner","k","rows","base"]) (js:=[none,some 4,some 3,some 2,some 1]) rfl rfl (vW (pix qC (pv 0) (pv 4))) (CS.of rfl rfl) rfl (λ C p r fp o=>(yW (i:=0) (show AL (α:=Str) ["q","corner","k","rows","base"] by decide +kernel) rfl (AJ rfl))) (λ C p r fp o D L=>(yH (qJ (show OpR _ _ (rIn K true) from wV) (pv 0) (pv 4) rfl) (jB (jR kGG (pix (show IxR _ (rQ K) from qC) (pix (show IxR _ (rQ K) from qC) (pv 3) (pv 0)) (pv 2)) (pv 1) (qS _))))))))))),?_⟩
 try dsimp only[qQ]
 obtain⟨ts,h1,a3,h3⟩:=hW.at;obtain⟨b1,e1,M⟩:=h3 x row er;obtain⟨us,u1,a0,u3⟩:=hD.at;have S:atI [vn a,vn b,vn c] (k:Int)=some (vn x):=jL (by rw[show([vn a,vn b,vn c]:List V)=[a,b,c].map vn from rfl,bh,ex];rfl);refine⟨_,rfl,_,rfl,z,_,_,_,rfl,rfl,SqT.of I,S,?_⟩;refine⟨_,rfl,_,rfl,w,_,_,_,rfl,rfl,SqT.of h1,e1,b1,rfl,⟨_,SqT.of M⟩,λ L N=>?_⟩;refine yG (xs:=row.map vn) (λ j s l=>∃(u:Option V)(m:Nat),s=[u,some (vn x),some (vn k),some (.ref d),some (.ref z)]/\m<=j/\l L=some (.lst ((eQ m true).map V.bl))/\Same H l) ⟨none,0,rfl,bg _,kB,kC N _⟩ ?_ ?_ ?_
 ·rintro j s l _ ⟨u,m,rfl,_,_,g⟩
  exact SqT.of (g _ _ M)
 ·rintro j v s l O ⟨u,m,rfl,lm,y,g⟩
  rw[bh]at O;obtain⟨q,n,rfl⟩:=cv.mp O;have hj:=(au.mp n).1;refine⟨_,rfl,_,rfl,z,_,rfl,.inr (SqT.of (g _ _ I)),rfl,zC a b c,_,rfl,?_⟩;rw[wM]
  cases hB:isB a b c q with
  | true=>exact xE ⟨_,m,rfl,by omega,y,g⟩
  | false =>
   obtain⟨J,eD,Z⟩:=ok q (eA n) hB;obtain⟨U,T,Y⟩:=u3 q J eD;have ak:atI (J.map vn) (k:Int)=some (vn x):=jL (by rw[bh,Z];rfl);refine yK ⟨_,rfl,_,rfl,d,_,_,_,rfl,rfl,SqT.of (g _ _ u1),T,_,rfl,U,_,_,_,rfl,rfl,SqT.of (g _ _ Y),ak,_,rfl,rfl,?_⟩;rw[decide_eq_true rfl];refine⟨_,y,(by rw[aj,km];exact kQ (by omega)),_,m+1,rfl,by omega,(by rw[vj,eN];exact kB),kY N g⟩
 ·rintro s l ⟨u,m,rfl,_,y,g⟩
  refine⟨L,_,rfl,SqL.of y,?_⟩;rw[show(eQ m true).all id=true by simp];exact q0 l g
end
section
def bA(n:Nat):(eQ n true).all id=true:=by simp
inductive fV(vs:List V)(H:Hp)(Q:VK)(Y:XK):Prop
 | mk:∀(w z d:ay)(W D:Rows)(a b c:Nat),(vs=[.ref w,.ref z,.ref d])->(WebAt H w W)->(H z=some (.tup [vn a,vn b,vn c]))->(WebAt H d D)->Nb W->W.length<=42->(a<W.length/\b<W.length/\c<W.length)->Wds W a b c D->(∀ H',Same H H'->Q (.bl true) H')->fV vs H Q Y
def sF(B:Fx):Hs "are_woods" ["web","base","thing"] 4 (fV):=by
 refine qI B.X B.d25 rK λ f ax A as s0 H vs Q E nN hr h=>?_;obtain⟨w,z,d,W,D,a,b,c,rfl,hW,hz,hD,S,a6,a5,wd,k⟩:=h
 refine⟨_,(kD (xH (PW.pt (kGA (zZ (zJ (kM Own.call_isi rfl (B.z B.y9) uc (p2 (pv 2) (fJ (v:=.ty "tuple") rfl (B.z B.y5) ie rfl))))) (rR (qJ oP (kM kP rfl (B.z B.y0) eg (p1 (pv 2))) (kM kP rfl (B.z B.y0) eg (p1 (pv 0))) (qS _))))) (kJ (kS vJ)) qM)
   (kD (xH (zZ (zJ (kM (xG rfl) rfl (B.z B.y12) ja (p1 (jF (Nc:=["p","row","web","base"]) (js:=[none,none,some 0,some 1]) rfl rfl (rX false rfl (B.z B.y6) (p1 (pv 2))) (CS.of rfl rfl) rfl (λ C o r fp G=>(show PG _ _ (kBS K 2 _) from jU rfl (kR (yW (i:=0) (show AL (α:=Str) ["p","row","web","base"] by decide +kernel) rfl (AJ rfl)) (kR (yW (i:=1) (show AL (α:=Str) ["p","row","web","base"] by decide +kernel) rfl (AJ rfl)) qY)))) (λ C o r fp G D L=>(qO (jB (pf (mV B) hr (kE (pv 2) (kE (pv 3) (kE (pv 0) (kE (pv 1) kU))))))))))))) (kJ (kS vJ)) qM)
   (kD (xH (zZ (zJ (kM (xG rfl) rfl (B.z B.y12) ja (p1 (jF (Nc:=["tie","base","thing"]) (js:=[none,some 1,some 2]) rfl rfl (xC (pf (kGJ B) hr (p1 (pv 0)))) (CS.of rfl rfl) rfl (λ C o r fp G=>(pgc 0)) (λ C o r fp G D L=>(qO (jB (pf (cE B) hr (kE (pv 1) (kE (pv 2) (kE (pv 0) kU)))))))))))) (kJ (kS vJ)) qM)
   (kD (xH (zZ (zJ (kM (xG rfl) rfl (B.z B.y12) ja (p1 (jF (Nc:=["k","web","base","thing"]) (js:=[none,some 0,some 1,some 2]) rfl rfl (jT rfl (B.z B.y4) (p1 kN)) (CS.of rfl rfl) rfl (λ C o r fp G=>(yW (i:=0) (show AL (α:=Str) ["k","web","base","thing"] by decide +kernel) rfl (AJ rfl))) (λ C o r fp G D L=>(qO (jB (pf (kDS B) hr (kE (pv 1) (kE (pv 2) (kE (pv 3) (kE (pv 0) kU))))))))))))) (kJ (kS vJ)) qM)
   (kJ (kS (kM (xG rfl) rfl (B.z B.y12) ja (p1 (jF (Nc:=["p","web","thing"]) (js:=[none,some 0,some 2]) rfl rfl (xC (pf (vK B) hr (p2 (pv 0) (pv 1)))) (CS.of rfl rfl) rfl (λ C o r fp G=>(pgc 0)) (λ C o r fp G D L=>(qO (jB (pf (cD B) hr (kE (pv 1) (kE (pv 2) (kE (pv 0) kU)))))))))))))))),?_⟩
 try dsimp only[qQ]
 have lD:=wd.len;have a2:∀{p:Nat},p<W.length->∃ row,W[p]?=some row/\row.length<=42:=λ{p} hp=>⟨W[p],aa hp,by have:=S.len (aa hp);omega⟩;have g:∀{p:Nat},p<W.length->D[p]?=some (D.getD p []):=λ{p} hp=>by rw[ai,aa (by omega)];rfl
 obtain⟨ts,h1,aq,h3⟩:=hW.at;obtain⟨us,u1,ac,u3⟩:=id hD;refine⟨_,rfl,_,_,_,_,rfl,.tup u1,rfl,_,rfl,xE ?_⟩;refine⟨_,rfl,d,_,rfl,.inr (SqT.of u1),_,rfl,w,_,rfl,.inr (SqT.of h1),rfl,_,rfl,?_⟩;rw[decide_eq_true (show V.int (((us.map V.ref).length:Nat):Int)=V.int (((ts.map V.ref).length:Nat):Int) by rw[aj,aj,aq,ac,lD])]
 refine xE ?_
 refine⟨_,rfl,d,rfl,⟨_,SqT.of u1⟩,λ L nL=>?_⟩;refine nH (k:=false) (xs:=us.map V.ref) (λ j J H3=>∃(I x1:Option V),J=[I,x1,some (.ref w),some (.ref z)]/\H3 L=some (.lst ((eQ j true).map V.bl))/\Same H H3) ⟨none,none,rfl,kB,kC nL _⟩ ?_ ?_ ?_
 ·rintro j J H3 _ ⟨I,x1,rfl,_,g3⟩
  exact SqT.of (g3 _ _ u1)
 ·rintro j x T J H3 hx nT ⟨I,x1,rfl,hL,g3⟩
  rw[bh]at hx;obtain⟨u,eu,rfl⟩:=cv.mp hx;have M:j<W.length:=by rw[<-lD,<-ac];exact(au.mp eu).1
  obtain⟨row,er,lr⟩:=a2 M;have gT:=kC nT (.tup [.int j,.ref u]);obtain⟨n1,n2⟩:=wd.three M;have hu:=u3 j u _ eu (g M)
  have sub:∀ q∈D.getD j [],q∈row:=λ q Z=>by
   by_cases cb:j=a\/j=b\/j=c
   ·rw[wd.base j cb]at Z
    cases Z
   ·obtain⟨x,y,z,ak,e,a7,m1,m2,m3,_⟩:=wd.sorted S M (λ z=>cb (.inl z)) (λ z=>cb (.inr (.inl z))) (λ z=>cb (.inr (.inr z)))
    rw[er]at a7
    cases a7
    rw[e]at Z;simp only[cy,gj,or_false]at Z;rcases Z with rfl | rfl | rfl
    ·exact m1
    ·exact m2
    ·exact m3
  refine⟨T,_,rfl,SqT.of kB,rfl,_,_,rfl,_,_,rfl,rfl,?_⟩;have g4:=g3.trans gT;have am:=gT _ _ hL;generalize upd H3 T (.tup [.int j,.ref u])=H4 at *;refine⟨_,rfl,_,rfl,_,rfl,_,rfl,w,z,u,W,a,b,c,j,row,D.getD j [],rfl,hW.kept g4,g4 _ _ hz,g4 _ _ hu,er,n1,?_,sub,λ H5 g5=>?_⟩
  ·rw[n2]
   by_cases cb:j=a\/j=b\/j=c
   ·rw[if_pos cb,if_pos (isB_iff.mpr cb)]
   ·rw[if_neg cb,if_neg (λ q=>cb (isB_iff.mp q))]
  ·refine⟨_,g5 _ _ am,(by rw[aj,km];exact kQ (by omega)),_,_,rfl,(by rw[vj,eN];exact kB),kY nL (g4.trans g5)⟩
 rintro J H3 ⟨I,x1,rfl,hL,g3⟩;refine⟨L,_,rfl,SqL.of hL,_,rfl,?_⟩;rw[bA]
 refine xE ?_
 refine⟨_,rfl,w,W,rfl,hW.kept g3,S,a6,λ s H4 g4 ns pr=>?_⟩;obtain⟨ps,q1,q2,q3⟩:=id pr;have lt:(Fc.tiesS W).length<=1764:=fz (iS _ _) (uY S a6);have a9:=g3.trans g4;refine⟨s,rfl,⟨_,SqL.of q1⟩,λ L2 a4=>?_⟩;refine jM (xs:=ps.map V.ref) (λ j J H5=>∃(I:Option V),J=[I,some (.ref z),some (.ref d)]/\H5 L2=some (.lst ((eQ j true).map V.bl))/\Same H4 H5) ⟨none,rfl,kB,kC a4 _⟩ ?_ ?_ ?_
 ·rintro j J H5 _ ⟨I,rfl,_,g5⟩
  exact SqL.of (g5 _ _ q1)
 ·rintro j x J H5 hx ⟨I,rfl,a0,g5⟩
  rw[bh]at hx;obtain⟨u,eu,rfl⟩:=cv.mp hx;have M:j<(Fc.tiesS W).length:=by rw[<-q2];exact(au.mp eu).1
  have et:=aa M;have hu:=q3 j u _ eu et;have mt:(Fc.tiesS W)[j]∈Fc.stepsS W:=(iG.mp (gh M)).1;generalize(Fc.tiesS W)[j]=t at *;have eE:Tri.E W t.1 t.2:=Fc.mem_stepsS.mp mt;obtain⟨l1,l2,_⟩:=S.e eE;have gg:=a9.trans g5;refine⟨_,rfl,_,rfl,_,rfl,z,d,u,D,a,b,c,t.1,t.2,_,_,rfl,gg _ _ hz,hD.kept gg,g5 _ _ hu,g l1,g l2,?_,?_⟩
  ·rcases wd.tie t.1 t.2 eE with⟨c1,c2⟩ | c1
   ·exact .inl ⟨isB_iff.mpr c1,isB_iff.mpr c2⟩
   ·exact .inr c1
  ·exact⟨_,a0,(by rw[aj,km];exact gx (m:=1764) (by omega) (by decide)),_,rfl,(by rw[vj,eN];exact kB),kY a4 g5⟩
 rintro J H5 ⟨I,rfl,a0,g5⟩;refine⟨L2,_,rfl,SqL.of a0,_,rfl,?_⟩;rw[bA];refine xE ?_;have g6:=a9.trans g5
 clear q1 q2 q3 pr hL a0 nL a4 ns
 refine⟨3,rfl,by omega,by omega,λ L3 a3=>?_⟩;refine wQ (lo:=0) (n:=(3:Int).toNat) (λ j J H7=>∃(I:Option V),J=[I,some (.ref w),some (.ref z),some (.ref d)]/\H7 L3=some (.lst ((eQ j true).map V.bl))/\Same H5 H7) ⟨none,rfl,kB,kC a3 _⟩ ?_ ?_
 ·rintro j J H7 M ⟨I,rfl,a1,g7⟩
  have M:j<3:=M;have gg:=g6.trans g7;obtain⟨x,ex⟩ : ∃ x,[a,b,c][j]?=some x:=⟨_,aa M⟩
  have xl:x<W.length:=by
   have:=eA ex;simp only[cy,gj,or_false]at this;rcases this with rfl | rfl | rfl
   ·exact a5.1
   ·exact a5.2.1
   ·exact a5.2.2
  obtain⟨row,er,lr⟩:=a2 xl;refine⟨_,rfl,_,rfl,_,rfl,_,rfl,w,z,d,W,D,a,b,c,j,x,row,(by rw[Ak];rfl),hW.kept gg,gg _ _ hz,hD.kept gg,ex,er,lr,λ q Z hB=>?_,λ H8 g8=>?_⟩
  ·have eE:Tri.E W x q:=⟨row,er,Z⟩
   obtain⟨qa,qb,qc⟩:=uL hB;have ql:=(S.e eE).2.1;obtain⟨y0,y1,y2,A,B,C,ak,e,_⟩:=wd.row q ql qa qb qc;obtain⟨ah,ag,af⟩:=wd.lead q qa qb qc;refine⟨_,g ql,?_⟩;rw[e]at ah ag af ⊢
   match j,M,ex with
   | 0,_,ex=>cases ex;rw[<-ah eE];rfl
   | 1,_,ex=>cases ex;rw[<-ag eE];rfl
   | 2,_,ex=>cases ex;rw[<-af eE];rfl
  ·exact⟨_,g8 _ _ a1,(by rw[aj,km];exact kQ (by omega)),_,rfl,(by rw[vj,eN];exact kB),kY a3 (g7.trans g8)⟩
 rintro J H7 ⟨I,rfl,a1,g7⟩;refine⟨L3,_,rfl,SqL.of a1,_,rfl,?_⟩;rw[bA];refine xE ?_;have g8:=g6.trans g7
 clear a1 a3
 refine⟨_,rfl,_,rfl,w,z,W,a,b,c,rfl,hW.kept g8,a6,g8 _ _ hz,λ l H9 g9 nl hl=>?_⟩;have ab:=g8.trans g9;refine⟨l,rfl,⟨_,SqL.of hl⟩,λ L4 a8=>?_⟩
 have ln:(uP W.length a b c).length<=42:=by
  have:=iS (λ p=>!isB a b c p) (cz W.length);rw[eY]at this;unfold uP;omega
 have ap:∀ p∈uP W.length a b c,p<W.length/\p≠a/\p≠b/\p≠c:=λ p hp=>by
  obtain⟨m1,m2⟩:=iG.mp hp;exact⟨iB.mp m1,uL (by simpa using m2)⟩
 generalize uP W.length a b c=N at *;refine jM (xs:=N.map vn) (λ j J O=>∃(I:Option V),J=[I,some (.ref w),some (.ref d)]/\O L4=some (.lst ((eQ j true).map V.bl))/\Same H9 O) ⟨none,rfl,kB,kC a8 _⟩ ?_ ?_ ?_
 ·rintro j J O _ ⟨I,rfl,_,U⟩
  exact SqL.of (U _ _ hl)
 ·rintro j x J O hx ⟨I,rfl,Y,U⟩
  rw[bh]at hx;obtain⟨p,ep,rfl⟩:=cv.mp hx;have M:=(au.mp ep).1;obtain⟨pl,pa,pb,pc⟩:=ap p (eA ep);obtain⟨x,y,z',row,e,er,m1,m2,m3,an,all⟩:=wd.sorted S pl pa pb pc;have lr:=S.len er;have gg:=ab.trans U;have eD:=g pl;rw[e]at eD;rw[e]at all;refine⟨_,rfl,_,rfl,_,rfl,w,d,W,D,p,x,row,[y,z'],rfl,hW.kept gg,hD.kept gg,er,eD,m1,by omega,λ q Z=>?_,bg 3,an,λ aw al=>?_⟩
  ·have ql:=(S.rng _ _ _ er Z).1
   exact⟨_,g ql,wd.le3 ql,all q Z⟩
  ·exact⟨_,al _ _ Y,(by rw[aj,km];exact kQ (by omega)),_,rfl,(by rw[vj,eN];exact kB),kY a8 (U.trans al)⟩
 ·rintro J O ⟨I,rfl,Y,U⟩
  refine⟨L4,_,rfl,SqL.of Y,?_⟩;rw[bA];exact k O (ab.trans U)
inductive nZ(vs:List V)(H:Hp)(Q:VK)(Y:XK):Prop
 | mk:∀(w z d:ay)(W D:Rows)(a b c:Nat),(vs=[.ref w,.ref z,.ref d])->(WebAt H w W)->(H z=some (.tup [vn a,vn b,vn c]))->(WebAt H d D)->Tr W->(Tri.E W a c)->((nxt W (a,c)).2=b)->Wds W a b c D->(∀ H',Same H H'->Q (.bl true) H')->nZ vs H Q Y
def kQK{W:Rows}(T:Tr W){a b c:Nat}(d:Tri.E W a c)(f:(nxt W (a,c)).2=b):a<W.length/\b<W.length/\c<W.length:=by
 obtain⟨z,r,g,e⟩:=xO T.nb d;rw[g]at f;obtain rfl:z=b:=f;exact⟨(T.nb.e d).1,(T.nb.e e).2.1,(T.nb.e d).2.1⟩
def kAZ(B:Fx):Hs "is_woods" ["web","base","thing"] 7 (nZ):=by
 refine qI B.X B.d26 kAJ λ f u A i G H y Q E C m h=>?_;obtain⟨w,z,d,W,D,a,b,c,rfl,p,l,r,T,o,n,v,k⟩:=h
 refine⟨_,(kD (qK (pf (zO B) m (p2 (pv 0) (pv 1))))
   (kJ (kS (pf (sF B) m (kE (pv 0) (kE (pv 1) (kE (pv 2) kU))))))),?_⟩
 try dsimp only[qQ]
 refine⟨_,rfl,_,rfl,w,z,W,a,b,c,rfl,p,T,l,o,n,λ x g=>?_⟩;exact⟨_,rfl,_,rfl,_,rfl,w,z,d,W,D,a,b,c,rfl,p.kept g,g _ _ l,r.kept g,T.nb,T.le,kQK T o n,v,λ q s=>k q (g.trans s)⟩
end
section
inductive nW(vs:List V)(H:Hp)(Q:VK)(Y:XK):Prop
 | mk:∀(w z o:ay)(W:Rows)(ms:List Nat)(a b c:Nat)(Fs Ts:List (List Nat)),(vs=[.ref w,.ref z,.ref o])->(Gw H w z o W ms a b c)->Good W->((Tri.E W a c/\(nxt W (a,c)).2=b))->(yS W a b c ms=some (Fs,Ts))->(∀(t:ay)(H':Hp),Same H H'->WebAt H' t (wdF W.length a b c ms Fs)->Q (.ref t) H')->nW vs H Q Y
def oU{α:Type}(l:List α)(d:α):l=(cz l.length).map λ k=>l.getD k d:=by
 refine Ag λ i=>?_;rw[bh];rcases iA i l.length with c | c
 ·rw[wu c]
  show _=some (l.getD i d);rw[ai,aa c]
  rfl
 ·rw[iZ c,iZ (by rw[eY];omega)]
  rfl
def unL(b:List Nat)(a:List ay)(n:Nat):List (Key×V):=(cz n).map λ k=>(Dcl.kn (b.getD (k+2) 0),V.ref (a.getD k 0))
def kKI(a:List Nat)(b:List ay){n:Nat}(h:n+2=a.length):(unL a b n).map (λ p=>kV p.1)=(a.map vn).drop 2:=by
 have e:=oU (a.drop 2) 0;rw[iN,show a.length-2=n by omega]at e;rw[<-BJ,e];unfold unL;rw[uf,uf];refine zg λ k _=>?_;show vn (a.getD (k+2) 0)=vn ((a.drop 2).getD k 0);rw[ai,ai,EJ,EY 2 k]
def kKH(b:List Nat){a:List ay}{n:Nat}(h:a.length=n):(unL b a n).map (λ p=>p.2)=a.map V.ref:=by
 have e:=oU a 0;rw[h]at e
 conv=>rhs;rw[e]
 unfold unL;rw[uf,uf]
 rfl
def kRM{a:List Nat}(d:List ay){n:Nat}(h:n+2=a.length)(nd:a.Nodup):((unL a d n).map (·.1)).Nodup:=by
 unfold unL;rw[uf];refine ip.mpr (sj.imp_of_mem λ{i j} b c f e=>f ?_);have b:=iB.mp b;have c:=iB.mp c;have:=Fc.getD_inj nd (by omega) (by omega) (Dcl.kn_inj e);omega
def pJ(f l:Nat)(M:List Nat):xZ ((f::M++[l]).map vn) (some 1) (some (-1))=M.map vn:=by
 unfold xZ;have c:((f::M++[l]).map vn).length=M.length+2:=by simp
 have a:HT.sIx (M.length+2) 0 (some 1)=1:=by
  have:=HT.sIx_nat (M.length+2) 0 1;rw[show min 1 (M.length+2)=1 by omega]at this;exact this
 have b:HT.sIx (M.length+2) (M.length+2) (some (-1))=M.length+1:=by
  show(if(-1:Int)<0 then(-1+((M.length+2:Nat):Int)).toNat else min (-1:Int).toNat (M.length+2))=_;rw[if_pos (by decide)];omega
 rw[c,a,b];simp
structure OvI(ms:List Nat)(Fs:List (List Nat))(i m:Nat)(kvs:List (Key×V)):Prop where
 all:∀ j,j<i->∀ q∈(Fs.getD j []).tail.dropLast,qR kvs (Dcl.kn q)=some (vn (ms.getD (j+2) 0))
 now:∀ q∈((Fs.getD i []).tail.dropLast).take m,qR kvs (Dcl.kn q)=some (vn (ms.getD (i+2) 0))
 few:kvs.length<=50*i+m
def OvI.put{b:List Nat}{a:List (List Nat)}(once:∀ j k z,j<a.length->k<a.length->z∈(a.getD j []).tail.dropLast->z∈(a.getD k []).tail.dropLast->j=k){i m q:Nat}{kvs:List (Key×V)}(I:OvI b a i m kvs)(hi:i<a.length)(c:((a.getD i []).tail.dropLast)[m]?=some q):OvI b a i (m+1) (xB kvs (Dcl.kn q) (vn (b.getD (i+2) 0))):=by
 have d:=eA c;refine⟨λ j f p hp=>?_,λ p hp=>?_,?_⟩
 ·rw[wE,if_neg (λ e=>?_)]
  ·exact I.all j f p hp
  ·have:=Dcl.kn_inj e
   subst this;have:=once _ _ _ (by omega) hi hp d;omega
 ·rw[wE]
  by_cases e:Dcl.kn p=Dcl.kn q
  ·rw[if_pos e]
  ·rw[if_neg e]
   refine I.now p ?_;rw[jf,c]at hp;rcases bu.mp hp with z | z
   ·exact z
   ·exact absurd (by rw[de.mp z]) e
 ·have:=qP kvs (Dcl.kn q) (vn (b.getD (i+2) 0))
  have:=I.few;omega
def OvI.next{d:List Nat}{b:List (List Nat)}{i m:Nat}{kvs:List (Key×V)}(I:OvI d b i m kvs)(f:m=((b.getD i []).tail.dropLast).length)(g:m<=50):OvI d b (i+1) 0 kvs:=by
 refine⟨λ j h q a=>?_,λ q a=>(by simp at a),by have:=I.few;omega⟩;rcases iA j i with c | c
 ·exact I.all j c q a
 ·have:j=i:=by omega
  subst this;refine I.now q ?_;rw[f,iW];exact a
def kAV(B:Fx):Hs "woods_of" ["web","base","order"] 8 (nW):=by
 refine qI B.X B.d27 kAD λ f c5 A bx s0 H vs Q E nN hr h=>?_;obtain⟨w,z,o,W,v,a,b,c,s,Ts,rfl,GW,G,ac,hl,k⟩:=h
 refine⟨_,(kD (yO (pf (fA B) hr (kE (pv 0) (kE (pv 1) (kE (pv 2) kU)))) (jU (n:=2) rfl (kR (pgn 3 nN) (kR (pgn 4 nN) qY))))
   (kD (pst 5 nN (Dcl.pe_dictZ rfl rfl (B.z B.y16) rfl (B.z B.y14) (p2 (qG sl_tup (pv 2) (qH kN) jE) (pv 3))))
   (kD (pst 6 nN (kPG (Nc:=["v","stretch","q"]) (js:=[none,none,none]) rfl rfl (kAS (pv 5)) (CS.of rfl rfl) rfl (λ C S Y fp Z=>(show PG _ _ (kBS K 2 _) from jU rfl (kR (pgc 0) (kR (pgc 1) qY)))) (λ C S Y fp Z=>(show PI _ _ _ (kRC K _) from(xC (qG (show SlR _ (kSA K) from jZ) (pv 1) (qH kN) (qH (dC vO kN)))))) (λ C S Y fp Z=>(pgc 2)) (λ C S Y fp Z D L=>(qO (rY (yA hr) (pv 2) (pv 0))))))
   (kD (pst 7 nN (kPH (Nc:=["p","over","under"]) (js:=[none,some 6,some 5]) rfl rfl (xC (pf (vK B) hr (p2 (pv 0) (pv 1)))) (CS.of rfl rfl) rfl (λ C S Y fp Z=>(pgc 0)) (λ C S Y fp Z D L=>(qO (rY (yA hr) (pv 0) (jJ (kE (pix (show IxR _ (kMA K) from kW) (wU (yA hr) (pv 2) (pv 0) (λ _ _=>rfl)) kN) (kE (pix (show IxR _ (kMA K) from kW) (wU (yA hr) (pv 2) (pv 0) (λ _ _=>rfl)) (dC vO kN)) (kE (wU (yA hr) (pv 1) (pv 0) (λ _ _=>rfl)) kU)))))))))
   (kJ (kS (jC jK rfl (B.z B.y5) ie (p1 (jF (Nc:=["p","rows"]) (js:=[none,some 7]) rfl rfl (jT rfl (B.z B.y4) (p1 (kM kP rfl (B.z B.y0) eg (p1 (pv 0))))) (CS.of rfl rfl) rfl (λ C S Y fp Z=>(pgc 0)) (λ C S Y fp Z D L=>(qO (jB (kMK (yA hr) (pv 1) (pv 0) (jJ kU) ⟨rfl,rfl,rfl,rfl⟩))))))))))))),?_⟩
 try dsimp only[qQ]
 obtain⟨bz,rb,nb,_⟩:=xO GW.tr.nb ac.1
 have hb:R W c b a:=by
  have:=ac.2;rw[nb]at this;obtain rfl:bz=b:=this;exact rb
 have J:=Hist.of G GW.perm hb hl;have lf:=J.lf;have lm:v.length=W.length:=by rw[GW.perm.length_eq,eY]
 have le:=GW.tr.le;refine⟨_,rfl,_,rfl,_,rfl,w,z,o,W,v,a,b,c,s,Ts,rfl,GW,ac,hl,λ t f g I ga H1 g1 ht lF lG=>?_⟩;refine⟨t,_,rfl,SqT.of ht,rfl,_,_,rfl,_,_,rfl,rfl,?_⟩;have b8:=g1 _ _ GW.ord;refine⟨_,rfl,_,rfl,o,_,rfl,SqT.of b8,?_,λ so bq=>?_⟩
 ·have e1:HT.sIx v.length 0 (some 2)=2:=gK (k:=2) (by omega)
  rw[aj,e1];omega
 have cf:xZ (v.map vn) (some 2) none=(v.map vn).drop 2:=yM (k:=2) _ (by rw[aj];omega);rw[cf];have gs:=kC bq (.tup ((v.map vn).drop 2));have ba:=kB (H:=H1) (a:=so) (o:=.tup ((v.map vn).drop 2));have a3:=lF.kept gs;have g2:=g1.trans gs;generalize upd H1 so (.tup ((v.map vn).drop 2))=H2 at *;have b2:=kRM I lf J.msn;have bc:(unL v I s.length).length=s.length:=by unfold unL;rw[aj,eY]
 refine⟨_,rfl,so,f,unL v I s.length,rfl,(by rw[ba,kKI v I lf]),(by rw[a3.top,kKH v a3.len]),(by omega),λ U nU=>?_⟩;rw[Dcl.foldP_nd b2];have gU:=kC nU (.dK (unL v I s.length));have hU:=kB (H:=H2) (a:=U) (o:=.dK (unL v I s.length));have fU:H U=none:=g2.free nU;have hF:∀ k,k<s.length->H2 (I.getD k 0)=some (.lst ((s.getD k []).map vn)):=λ k hk=>a3.row k _ _ (by rw[ai,aa (by rw[a3.len];exact hk)];rfl) (by rw[ai,aa hk];rfl);have ah:∀ k,k<s.length->upd H2 U (.dK (unL v I s.length)) (I.getD k 0)=some (.lst ((s.getD k []).map vn)):=λ k hk=>gU _ _ (hF k hk);have g3:=g2.trans gU;generalize upd H2 U (.dK (unL v I s.length))=H3 at *
 refine⟨_,rfl,U,_,rfl,.inl ⟨hU,λ ob=>λ O nO=>?_⟩⟩
 have bo:∀ i kv,(unL v I s.length)[i]?=some kv->i<s.length/\kv=(Dcl.kn (v.getD (i+2) 0),V.ref (I.getD i 0)):=λ i kv e=>by
  have hi:=(au.mp e).1;rw[bc]at hi;unfold unL at e;rw[bh,wu hi]at e;exact⟨hi,(cc e).symm⟩
 have g4:Same H (upd H3 U (.frz ob (.dK (unL v I s.length)))):=kY fU g3;have a8:=kB (H:=H3) (a:=U) (o:=.frz ob (.dK (unL v I s.length)))
 have al:∀ k,k<s.length->upd H3 U (.frz ob (.dK (unL v I s.length))) (I.getD k 0)=some (.lst ((s.getD k []).map vn)):=λ k hk=>by
  rw[kK (λ e=>by have:=ah k hk;rw[e,hU]at this;cases this)];exact ah k hk
 have be:=g4 _ _ GW.base;have an:=GW.web.kept g4;generalize upd H3 U (.frz ob (.dK (unL v I s.length)))=H4 at *
 have c2:∀ i,i<s.length->((s.getD i []).tail.dropLast).length<=42:=λ i hi=>by
  obtain⟨nd,iT,_⟩:=J.inF hi;have:=eI nd (l₂:=v) λ x hx=>wc ((J.top i (by omega)).2 x (iT x hx));have h2:((s.getD i []).tail.dropLast).length<=(s.getD i []).length:=by rw[List.length_dropLast,Cm];omega
  omega
 refine kCO (kvs:=unL v I s.length) (λ i σ H5=>∃(x0 x1 x2:Option V)(d:List (Key×V)),σ=[x0,x1,x2]/\Same H4 H5/\H5 O=some (.dK d)/\OvI v s i 0 d) ⟨none,none,none,[],rfl,kC nO _,kB,⟨λ j hj=>absurd hj (AF j),λ q hq=>(by simp at hq),by simp⟩⟩ ?_ ?_ ?_
 ·rintro i σ H5 _ ⟨x0,x1,x2,d,rfl,g5,_⟩
  exact g5 _ _ a8
 ·rintro i kv T σ H5 bm nT ⟨x0,x1,x2,d,rfl,g5,hO,bi⟩
  obtain⟨hi,rfl⟩:=bo i kv bm;have gT:=kC nT (.tup [kV (Dcl.kn (v.getD (i+2) 0)),V.ref (I.getD i 0)]);have bn:=gT _ _ hO;refine⟨T,_,rfl,SqT.of kB,rfl,_,_,rfl,_,_,rfl,rfl,?_⟩;have g6:=g5.trans gT;generalize upd H5 T (.tup [kV (Dcl.kn (v.getD (i+2) 0)),V.ref (I.getD i 0)])=H6 at *;obtain⟨_,_,fi,M,li,eF,_⟩:=J.inF hi;have aw:=g6 _ _ (al i hi);have b4:=c2 i hi;rw[eF]at aw;refine⟨_,rfl,_,rfl,_,rfl,_,rfl,I.getD i 0,_,rfl,SqL.of aw,λ sp c4=>?_⟩;have eC:=pJ fi li M;rw[show(-1:Int) = -(1:Int) from rfl]at eC;rw[eC];have b9:=kC c4 (.lst (M.map vn));have b0:=kB (H:=H6) (a:=sp) (o:=.lst (M.map vn));have c3:=b9 _ _ bn;have g7:=g6.trans b9;generalize upd H6 sp (.lst (M.map vn))=H7 at *;have eM:(s.getD i []).tail.dropLast=M:=by rw[eF];exact yC
  rw[eM]at b4;refine⟨sp,rfl,⟨_,SqL.of b0⟩,?_⟩;refine jM (xs:=M.map vn) (λ m σ H8=>∃(x0 x1 x2:Option V)(d:List (Key×V)),σ=[some (vn (v.getD (i+2) 0)),x1,x2]/\Same H4 H8/\H8 sp=some (.lst (M.map vn))/\H8 O=some (.dK d)/\OvI v s i m d) ⟨none,_,_,d,rfl,g7,b0,c3,bi⟩ ?_ ?_ ?_
  ·rintro m σ H8 _ ⟨x0,x1,x2,d,rfl,g8,h8,_⟩
   exact SqL.of h8
  ·rintro m x σ H8 hx ⟨x0,x1,x2,d,rfl,g8,h8,a5,a6⟩
   rw[bh]at hx;obtain⟨q,eq,rfl⟩:=cv.mp hx;have hm:=(au.mp eq).1;have bt:=a6.few;refine⟨_,rfl,_,rfl,_,DPut.k (k:=Dcl.kn q) a5 (gx (m:=3000) (by omega) (by decide)),none,_,_,_,rfl,kY nO g8,?_,kB,a6.put (λ j k z h1 h2 h3 h4=>J.once h1 h2 h3 h4) hi (by rw[eM];exact eq)⟩;rw[kK (λ e=>by rw[e,a5]at h8;cases h8)];exact h8
  ·rintro σ H8 ⟨x0,x1,x2,d,rfl,g8,h8,a5,a6⟩
   exact⟨_,_,_,d,rfl,g8,a5,a6.next (by rw[eM,aj]) (by rw[aj];omega)⟩
 rintro σ H5 ⟨x0,x1,x2,ov,rfl,g5,hO,OI⟩;rw[bc]at OI;have aq:∀ k,k<s.length->H5 (I.getD k 0)=some (.lst ((s.getD k []).map vn)):=λ k hk=>g5 _ _ (al k hk);have b7:=g5 _ _ a8;have b5:=an.kept g5;have b3:=g5 _ _ be;have k5:=g4.trans g5
 clear al a8 an be g4 g5 hF ah hU gU g3 g2 gs lF a3 ba
 refine⟨_,rfl,_,rfl,w,z,W,a,b,c,rfl,b5,le,b3,λ l H6 g6 nl af=>?_⟩;refine⟨l,rfl,⟨_,SqL.of af⟩,λ R nR=>?_⟩
 have ab:∀ p,p∈uP W.length a b c↔p<W.length/\isB a b c p=false:=λ p=>by
  unfold uP;rw[iG,iB];simp
 have ln:(uP W.length a b c).length<=42:=by
  have:=iS (λ p=>!isB a b c p) (cz W.length);rw[eY]at this;unfold uP;omega
 have ak:∀ p,p<W.length->(wdF W.length a b c v s)[p]?=some ((wdF W.length a b c v s).getD p []):=λ p hp=>by
  rw[ai,aa (by unfold wdF;rw[aj,eY];exact hp)]
  rfl
 have lD:(wdF W.length a b c v s).length=W.length:=by unfold wdF;rw[aj,eY]
 have bD:∀ p,p<W.length->isB a b c p=true->(wdF W.length a b c v s).getD p []=[]:=λ p hp hB=>by rw[bV hp,if_pos (isB_iff.mp hB)]
 have bd:=λ k (hk:k+1<s.length)=>J.outs G hk;generalize wdF W.length a b c v s=D at *;generalize uP W.length a b c=N at *;refine jM (xs:=N.map vn) (λ j σ H7=>∃(x0:Option V)(d:List (Key×V)),σ=[x0,some (.ref O),some (.ref U)]/\Same H6 H7/\H7 R=some (.dK d)/\d.length<=j/\(∀ p∈N.take j,∃ t,qR d (Dcl.kn p)=some (.ref t)/\H7 t=some (.tup ((D.getD p []).map vn)))/\∀ p,p∉N.take j->qR d (Dcl.kn p)=none) ⟨none,[],rfl,kC nR _,kB,fj _,(λ p hp=>by simp at hp),λ p _=>rfl⟩ ?_ ?_ ?_
 ·rintro j σ H7 _ ⟨x0,d,rfl,g7,_⟩
  exact SqL.of (g7 _ _ af)
 ·rintro j x σ H7 hx ⟨x0,d,rfl,g7,hR,lk,ok,no⟩
  rw[bh]at hx;obtain⟨p,ep,rfl⟩:=cv.mp hx;have hj:=(au.mp ep).1;obtain⟨pl,pB⟩:=(ab p).mp (eA ep);obtain⟨pa,pb,pc⟩:=uL pB;obtain⟨kp,c1,b6⟩:=J.place pl pa pb pc;obtain⟨j2,f2,M2,l2,c6,bv,a7,e2,ax⟩:=bd kp c1;rw[<-b6]at a7 ax;have a9:=g6.trans g7;have br:=a9 _ _ b7;have bf:=a9 _ _ hO;have am:=a9 _ _ (aq kp (by omega));rw[e2]at am
  have vu:qR (unL v I s.length) (Dcl.kn p)=some (.ref (I.getD kp 0)):=Dcl.val_mem b2 (by
   unfold unL;exact iK.mpr ⟨kp,iB.mpr (by omega),by rw[<-b6]⟩)
  have du:DGet H7 U (vn p) (some (.ref (I.getD kp 0))):=.inl ⟨_,Dcl.kn p,.inr ⟨ob,br⟩,rfl,vu.symm⟩;have bw:DGet H7 O (vn p) (some (vn (v.getD (j2+2) 0))):=.inl ⟨_,Dcl.kn p,.inl bf,rfl,(OI.all j2 bv p a7).symm⟩;have a0:atI ((f2::M2++[l2]).map vn) 0=some (vn f2):=jL (j:=0) rfl;have a1:atI ((f2::M2++[l2]).map vn) (-1)=some (vn l2):=by rw[eN];exact zM _ _
  refine⟨_,rfl,_,rfl,_,rfl,U,_,rfl,du,I.getD kp 0,_,_,_,rfl,rfl,SqL.of am,a0,?_⟩;refine⟨_,rfl,_,rfl,U,_,rfl,du,_,rfl,I.getD kp 0,_,_,_,rfl,rfl,SqL.of am,a1,?_⟩;refine⟨_,rfl,_,rfl,O,_,rfl,bw,yS3,λ t nt=>?_⟩;have gt:=kC nt (.tup [vn f2,vn l2,vn (v.getD (j2+2) 0)]);have tR:t≠R:=(kF hR nt).symm;refine⟨_,DPut.k (k:=Dcl.kn p) (gt _ _ hR) (gx (m:=42) (by omega) (by decide)),_,_,rfl,kY nR (g7.trans gt),kB,?_,λ q hq=>?_,λ q hq=>?_⟩
  ·have:=qP d (Dcl.kn p) (.ref t)
   omega
  ·rw[wE]
   by_cases e:Dcl.kn q=Dcl.kn p
   ·rw[if_pos e]
    have:=Dcl.kn_inj e;subst this;refine⟨t,rfl,?_⟩;rw[kK tR,kB,ax]
    rfl
   ·rw[if_neg e]
    rw[jf,ep]at hq;rcases bu.mp hq with m | m
    ·obtain⟨t',v1,v2⟩:=ok q m
     refine⟨t',v1,?_⟩;rw[kK (λ e=>by rw[e,hR]at v2;cases v2)];exact gt _ _ v2
    ·exact absurd (by rw[de.mp m]) e
  ·rw[jf,ep]at hq
   rw[wE,if_neg (λ e=>hq (cw _ (by rw[Dcl.kn_inj e];simp)))];exact no q λ m=>hq (cj _ m)
 rintro σ H7 ⟨x0,d,rfl,g7,hR,lk,ok,no⟩;rw[aj,iW]at ok no;have k7:=(k5.trans g6).trans g7;have bl:=GW.web.kept k7;obtain⟨ws,w1,a4,_⟩:=id bl
 clear aq b7 b5 b3 OI bd g6 af hO
 refine⟨_,rfl,w,_,rfl,.inr (SqT.of w1),_,rfl,(by rw[aj,a4];omega),(by rw[aj,a4];omega),λ L nL=>?_⟩;refine wQ (lo:=0) (n:=((((ws.map V.ref).length:Nat):Int)).toNat) (λ j σ H8=>∃(x0:Option V)(ts:List ay),σ=[x0,some (.ref R)]/\Same H7 H8/\H8 L=some (.lst (ts.map V.ref))/\ts.length=j/\∀ i u,ts[i]?=some u->H8 u=some (.tup ((D.getD i []).map vn))) ⟨none,[],rfl,kC nL _,kB,rfl,λ i u e=>by simp at e⟩ ?_ ?_
 ·rintro j σ H8 hj ⟨x0,ts,rfl,g8,hL,a2,ag⟩
  have b1:j<W.length:=by rw[aj,iI,a4]at hj;exact hj
  have e0:V.int (0+(j:Int))=vn j:=by rw[Ak];rfl
  have ap:=g8 _ _ hR;refine⟨_,rfl,R,rfl,.inl ⟨_,.inl ap⟩,_,rfl,yS0,λ e ne=>?_⟩;have ge:=kC ne (.tup []);have dg:DGet (upd H8 e (.tup [])) R (.int (0+(j:Int))) (qR d (Dcl.kn j)):=.inl ⟨_,Dcl.kn j,.inl (ge _ _ ap),e0,rfl⟩;refine⟨_,dg,?_⟩
  obtain⟨t,et,as⟩ : ∃ t,(qR d (Dcl.kn j)).getD (.ref e)=.ref t/\upd H8 e (.tup []) t=some (.tup ((D.getD j []).map vn)):=by
   cases hB:isB a b c j with
   | true =>
    refine⟨e,?_,?_⟩
    ·rw[no j λ m=>by rw[((ab j).mp m).2]at hB;cases hB]
     rfl
    ·rw[kB,bD j b1 hB]
     rfl
   | false =>
    obtain⟨t,v1,v2⟩:=ok j ((ab j).mpr ⟨b1,hB⟩);exact⟨t,by rw[v1];rfl,ge _ _ (g8 _ _ v2)⟩
  rw[et];refine⟨_,ge _ _ hL,(by rw[aj];exact kQ (by omega)),_,ts++[t],rfl,kY nL (g8.trans ge),(by rw[eN];exact kB),(by rw[cq,a2];rfl),λ i u eu=>?_⟩;have nu:∀{u:ay}{xs:List V},upd H8 e (.tup []) u=some (.tup xs)->u≠L:=λ{u xs} h q=>by rw[q,ge _ _ hL]at h;cases h
  rcases snoc eu with⟨_,e1⟩ | ⟨e1,e2⟩
  ·have:=ge _ _ (ag i u e1)
   rw[kK (nu this)];exact this
  ·cases e2
   rw[e1,a2,kK (nu as)];exact as
 ·rintro σ H8 ⟨x0,ts,rfl,g8,hL,a2,ag⟩
  rw[aj,iI,a4]at a2;refine⟨L,_,rfl,.inl ⟨SqL.of hL,λ t nt=>?_⟩⟩;have gt:=kC nt (.tup (ts.map V.ref));refine k t _ (k7.trans (g8.trans gt)) ⟨ts,kB,by rw[a2,lD],λ i u row e1 e2=>?_⟩;have hi:i<W.length:=by rw[<-a2];exact(au.mp e1).1
  rw[ak i hi]at e2;cases e2
  exact gt _ _ (ag i u e1)
end
section
def zX(T:List Nat):List (Key×V):=T.map λ p=>(Dcl.kn p,V.bl true)
def rD{T:List Nat}(h:T.Nodup):((zX T).map (·.1)).Nodup:=by
 unfold zX;rw[uf];exact ip.mpr (h.imp λ{a b} c e=>c (Dcl.kn_inj e))
def kAB{T:List Nat}(h:T.Nodup)(q:Nat):(qR (zX T) (Dcl.kn q)).isSome=decide (q∈T):=by
 by_cases c:q∈T
 ·rw[Dcl.val_mem (rD h) (v:=.bl true) (iK.mpr ⟨q,c,rfl⟩),decide_eq_true c]
  rfl
 ·rw[Dcl.val_none λ m=>?_,decide_eq_false c]
  ·rfl
  ·unfold zX at m
   rw[uf]at m;obtain⟨p,hp,e⟩:=iK.mp m;exact c (Dcl.kn_inj e ▸ hp)
def cR(H:Hp)(l:ay)(n:Nat)(b:List Nat):Prop:=∃ a,H l=some (.dK a)/\a.length<=n/\∀ q,q<n->(qR a (Dcl.kn q)).isSome = !decide (q∈b)
inductive kFK(vs:List V)(H:Hp)(Q:VK)(Y:XK):Prop
 | mk:∀(w h l:ay)(W:Rows)(T off:List Nat),(vs=[.ref w,.ref h,.ref l])->WebAt H w W->Nb W->W.length<=42->H h=some (.lst (T.map vn))->T.Nodup->(∀ x∈T,x<W.length)->2<=T.length->cR H l W.length off->(∀(r:ay)(H':Hp),Same H H'->H r=none->H' r=some (.lst ((((cz (T.length-2)).filter (Fc.okF W T off)).map λ k=>T.getD (k+1) 0).map vn))->Q (.ref r) H')->kFK vs H Q Y
def mU(B:Fx):Hs "_law_may_go" ["_law_web_here","_law_here","_law_left"] 1 (kFK):=by
 refine qI B.X B.d38 mR λ f b0 A an s0 H vs Q E nN hr h=>?_;obtain⟨w,h,l,W,T,b,rfl,hW,S,b2,hh,nd,rng,l2,LF,k⟩:=h
 refine⟨_,(kD (pst 3 nN (jC (Dcl.call_dictL rfl) rfl (B.z B.y16) DE (p1 (jF (Nc:=["_law_place"]) (js:=[none]) rfl rfl (xC (pv 1)) (CS.of rfl rfl) rfl (λ C s v fp y=>(pgc 0)) (λ C s v fp y D L=>(qO (jB (jJ (p2 (pv 0) vJ)))))))))
   (kD (pst 4 nN (jQ kU))
   (kD (dZ (oM rfl (B.z B.y4) (p2 kN (qB wA (kM kP rfl (B.z B.y0) eg (p1 (pv 1))) kN))) (pgn 5 nN) (kD (pst 6 nN (jJ (p2 (pix kW (pv 1) (qB wA (pv 5) kN)) (pix kW (pv 1) (qB xU (pv 5) kN)))))
   (kJ (xH (zJ (kM (xG rfl) rfl (B.z B.y12) ja (p1 (jF (Nc:=["_law_q","_law_beside","_law_there","_law_left"]) (js:=[none,some 6,some 3,some 2]) rfl rfl (vW (pix qC (pv 0) (pix kW (pv 1) (pv 5)))) (CS.of rfl rfl) rfl (λ C s v fp y=>(yW (i:=0) (show AL (α:=Str) ["_law_q","_law_beside","_law_there","_law_left"] by decide +kernel) rfl (AJ rfl))) (λ C s v fp y D L=>(yH (kDJ (kMM (yA hr) (pv 0) (pv 3))) (jB (kQZ (jR (show OpR _ _ (rIn K false) from jD) (pv 0) (pv 1) rfl) (aD (kSL (oN (yA hr) (pv 0) (pv 2)))))))))))) (kJ (qK (jO iu iw xD (pv 4) (p1 (pix kW (pv 1) (pv 5)))))) qM))))
   (kJ (kS (pv 4)))))),?_⟩
 try dsimp only[qQ]
 have lT:T.length<=42:=by
  have:=eI nd (l₂:=cz W.length) λ x hx=>iB.mpr (rng x hx);rw[eY]at this;omega
 refine⟨_,rfl,h,rfl,⟨_,SqL.of hh⟩,λ D nD=>?_⟩;refine jM (xs:=T.map vn) (λ j r J=>∃(u:Option V)(O:List ay),r=[u]/\Same H J/\J D=some (.lst (O.map V.ref))/\O.length=j/\∀(i:Nat)(q:ay)(p:Nat),O[i]?=some q->T[i]?=some p->J q=some (.tup [vn p,.bl true])) ⟨none,[],rfl,kC nD _,kB,rfl,λ i q p e=>by simp at e⟩ ?_ ?_ ?_
 ·rintro j r J _ ⟨u,O,rfl,g1,_⟩
  exact SqL.of (g1 _ _ hh)
 ·rintro j x r J hx ⟨u,O,rfl,g1,hD,lq,oq⟩
  rw[bh]at hx;obtain⟨p,ep,rfl⟩:=cv.mp hx;have hj:=(au.mp ep).1;refine⟨_,rfl,yS2,λ t nt=>?_⟩;have gt:=kC nt (.tup [vn p,.bl true]);have tD:t≠D:=(kF hD nt).symm;refine⟨_,gt _ _ hD,(by rw[aj];exact kQ (by omega)),_,O++[t],rfl,kY nD (g1.trans gt),(by rw[eN];exact kB),(by rw[cq,lq];rfl),λ i q p' e1 I=>?_⟩;rcases snoc e1 with⟨_,e3⟩ | ⟨e3,e4⟩
  ·have:=oq i q p' e3 I
   rw[kK (λ z=>by rw[z,hD]at this;cases this)];exact gt _ _ this
  ·cases e4
   rw[e3,lq,ep]at I;cases I
   rw[kK tD];exact kB
 rintro r J ⟨u,O,rfl,g1,hD,lq,oq⟩;rw[aj]at lq;refine⟨D,O,zX T,rfl,hD,(by unfold zX;rw[aj,lq]),(λ i q p e1 I=>?_),(by unfold zX;rw[aj];omega),λ U af=>?_⟩
 ·unfold zX at I
  rw[bh]at I;obtain⟨p',e3,rfl⟩:=cv.mp I;exact oq i q p' e1 e3
 rw[Dcl.foldP_nd (rD nd)];have ag:=kC af (.dK (zX T));have ak:=kB (H:=J) (a:=U) (o:=.dK (zX T));have g2:=g1.trans ag;generalize upd J U (.dK (zX T))=H2 at *;refine⟨yS0,λ Z a5=>?_⟩;have a7:=kC a5 (.lst []);have ah:=kB (H:=H2) (a:=Z) (o:=.lst []);have g3:=g2.trans a7;have a8:=a7 _ _ ak;have ab:H Z=none:=g2.free a5;generalize upd H2 Z (.lst [])=H3 at *;have eL:((T.map vn).length:Int)=(T.length:Int):=by rw[aj]
 refine⟨_,rfl,h,_,rfl,.inl (SqL.of (g3 _ _ hh)),_,_,rfl,rfl,1,_,rfl,⟨by omega,by omega,by rw[eL];omega,by rw[eL];omega⟩,?_⟩;rw[eL];refine xP (lo:=1) (n:=((T.length:Int)-1-1).toNat) (λ i r N=>∃(x5 x6:Option V),r=[some (.ref w),some (.ref h),some (.ref l),some (.ref U),some (.ref Z),x5,x6]/\Same H N/\N U=some (.dK (zX T))/\N Z=some (.lst ((((cz i).filter (Fc.okF W T b)).map λ k=>T.getD (k+1) 0).map vn))) ⟨_,_,rfl,g3,a8,ah⟩ ?_ ?_
 ·rintro i r N hi ⟨x5,x6,rfl,g4,a9,d⟩
  have ap:i+2<T.length:=by omega
  have a6:=g4 _ _ hh;have a1:atI (T.map vn) (1+(i:Int)-1)=some (vn (T.getD i 0)):=by rw[show(1+(i:Int)-1)=(i:Int) by omega];exact pS (by omega)
  have a2:atI (T.map vn) (1+(i:Int)+1)=some (vn (T.getD (i+2) 0)):=by rw[show(1+(i:Int)+1)=((i+2:Nat):Int) by omega];exact pS ap
  have a3:atI (T.map vn) (1+(i:Int))=some (vn (T.getD (i+1) 0)):=by rw[show(1+(i:Int))=((i+1:Nat):Int) by omega];exact pS (by omega)
  refine⟨_,rfl,_,rfl,_,_,rfl,rfl,h,_,_,_,rfl,rfl,SqL.of a6,a1,_,rfl,_,rfl,_,_,rfl,rfl,h,_,_,_,rfl,rfl,SqL.of a6,a2,yS2,λ be as=>?_⟩;have Y:=kC as (.tup [vn (T.getD i 0),vn (T.getD (i+2) 0)]);have aw:=kB (H:=N) (a:=be) (o:=.tup [vn (T.getD i 0),vn (T.getD (i+2) 0)]);have c:=Y _ _ a9;have a4:=Y _ _ d;have g5:=g4.trans Y;generalize upd N be (.tup [vn (T.getD i 0),vn (T.getD (i+2) 0)])=H5 at *
  have vm:T.getD (i+1) 0∈T:=by
   rw[ai,aa (by omega)];exact gh _
  have vl:=rng _ vm;obtain⟨ts,h1,ax,h3⟩:=(hW.kept g5).at;have er:=aa vl;have lr:=S.len er;have inr:∀ q∈W[T.getD (i+1) 0],q<W.length:=λ q hq=>(S.rng _ _ _ er hq).1
  have am:Fc.okF W T b i=(W[T.getD (i+1) 0]).all λ q=>decide (q∈b) || (decide (q∈[T.getD i 0,T.getD (i+2) 0]) || !decide (q∈T)):=by
   unfold Fc.okF;rw[ai (l:=W),er]
   rfl
  obtain⟨b1,e1,I⟩:=h3 _ _ er;obtain⟨lk,al,_,lv⟩:=id LF;generalize W[T.getD (i+1) 0]=row at *;have rf:=gO (Fc.okF W T b) i;rw[rf];refine⟨_,rfl,_,rfl,_,rfl,h,_,_,_,rfl,rfl,SqL.of (g5 _ _ hh),a3,w,_,_,_,rfl,rfl,SqT.of h1,e1,b1,rfl,⟨_,SqT.of I⟩,λ L nL=>?_⟩;refine yG (xs:=row.map vn) (λ j r M=>∃(u:Option V)(bs:List Bool),r=[u,some (.ref be),some (.ref U),some (.ref l)]/\Same H5 M/\M L=some (.lst (bs.map V.bl))/\bs.length<=j/\bs.all id=(row.take j).all λ q=>decide (q∈b) || (decide (q∈[T.getD i 0,T.getD (i+2) 0]) || !decide (q∈T))) ⟨none,[],rfl,kC nL _,kB,bg _,rfl⟩ ?_ ?_ ?_
  ·rintro j r M _ ⟨u,bs,rfl,m,_⟩
   exact SqT.of (m _ _ I)
  ·rintro j x r M hx ⟨u,bs,rfl,m,hL,lb,eb⟩
   rw[bh]at hx;obtain⟨q,eq,rfl⟩:=cv.mp hx;have hj:=(au.mp eq).1;have ql:=inr q (eA eq);have aq:=g5.trans m;refine⟨_,rfl,_,rfl,l,_,rfl,.inl ⟨lk,Dcl.kn q,.inl (aq _ _ al),rfl,rfl⟩,_,rfl,?_⟩;rw[lv q ql]
   have nx:∀ G,(decide (q∈b) || (decide (q∈[T.getD i 0,T.getD (i+2) 0]) || !decide (q∈T)))=G->(row.take (j+1)).all (λ q=>decide (q∈b) || (decide (q∈[T.getD i 0,T.getD (i+2) 0]) || !decide (q∈T)))=(bs.all id && G):=λ G e=>by
    rw[jf,eq,FW,eb];rw[CB,Ds,List.all_nil,Gp,e]
   by_cases c1:q∈b
   ·rw[decide_eq_true c1]
    refine xE ⟨_,bs,rfl,m,hL,by omega,?_⟩;rw[nx true (by rw[decide_eq_true c1];rfl),Gp]
   ·rw[decide_eq_false c1]
    refine yK ?_
    have ac:∀ G,(decide (q∈b) || (decide (q∈[T.getD i 0,T.getD (i+2) 0]) || !decide (q∈T)))=G->∃ xs,M L=some (.lst xs)/\xs.length<sizeLine/\∃(u:Option V)(bs:List Bool),[some (vn q),some (V.ref be),some (.ref U),some (.ref l)]=[u,some (.ref be),some (.ref U),some (.ref l)]/\Same H5 (upd M L (.lst (xs++[.bl G])))/\upd M L (.lst (xs++[.bl G])) L=some (.lst (bs.map V.bl))/\bs.length<=j+1/\bs.all id=(row.take (j+1)).all λ q=>decide (q∈b) || (decide (q∈[T.getD i 0,T.getD (i+2) 0]) || !decide (q∈T)):=λ G e=>by
     refine⟨_,hL,(by rw[aj];exact kQ (by omega)),_,bs++[G],rfl,kY nL m,(by rw[kB,eN];rfl),(by rw[cq];exact Ez lb),?_⟩;rw[nx G e,FW];show _=_;simp
    refine⟨_,rfl,_,rfl,be,_,rfl,.inr (SqT.of (m _ _ aw)),rfl,yL [T.getD i 0,T.getD (i+2) 0],?_⟩;rw[show inV (vn q) [vn (T.getD i 0),vn (T.getD (i+2) 0)]=decide (q∈[T.getD i 0,T.getD (i+2) 0]) from yY q [T.getD i 0,T.getD (i+2) 0]];by_cases c2:q∈[T.getD i 0,T.getD (i+2) 0]
    ·rw[decide_eq_true c2]
     exact⟨_,rfl,yK (ac true (by rw[decide_eq_true c2,decide_eq_false c1];rfl))⟩
    ·rw[decide_eq_false c2]
     refine⟨_,rfl,xE ⟨_,rfl,_,rfl,U,_,rfl,.inl ⟨_,Dcl.kn q,.inl (m _ _ c),rfl,rfl⟩,?_⟩⟩;rw[kAB nd];exact ac _ (by rw[decide_eq_false c2,decide_eq_false c1];rfl)
  ·rintro r M ⟨u,bs,rfl,m,hL,lb,eb⟩
   rw[aj,iW,<-am]at eb;refine⟨L,_,rfl,SqL.of hL,_,rfl,?_⟩;rw[eb];have g:=m _ _ a4;have a0:=g5.trans m
   have lz:((((cz i).filter (Fc.okF W T b)).map λ k=>T.getD (k+1) 0).map vn).length<sizeLine:=by
    rw[aj,aj];have:=iS (Fc.okF W T b) (cz i);rw[eY]at this;exact kQ (by omega)
   cases Fc.okF W T b i with
   | false=>exact xE ⟨_,_,rfl,a0,m _ _ c,by rw[if_neg (by decide),iY];exact g⟩
   | true =>
    refine yK ⟨_,rfl,.inl ⟨rfl,_,SqL.of g⟩,_,rfl,_,rfl,h,_,_,_,rfl,rfl,SqL.of (a0 _ _ hh),a3,Z,_,_,rfl,rfl,g,lz,?_⟩;refine⟨_,_,rfl,kY ab a0,?_,?_⟩
    ·rw[kK (λ z=>by have:=m _ _ c;rw[z,g]at this;cases this)]
     exact m _ _ c
    ·rw[if_pos rfl,kB,eN,eN]
     rfl
 ·rintro r N ⟨x5,x6,rfl,g4,_,d⟩
  rw[show((T.length:Int)-1-1).toNat=T.length-2 by omega]at d;exact⟨_,rfl,k Z N g4 ab d⟩
end
section
def spL(rest:List Nat)(a:List ay):List (Key×V):=(rest.zip a).map λ e=>(Dcl.kn e.1,V.ref e.2)
def kFN{rest:List Nat}{a:List ay}(h:a.length=rest.length)(v:Nat)(s:ay):spL (rest++[v]) (a++[s])=spL rest a++[(Dcl.kn v,.ref s)]:=by
 unfold spL;rw[List.zip_append h.symm,eN]
 rfl
def fS{rest:List Nat}{a:List ay}(h:a.length=rest.length):(spL rest a).map (·.1)=rest.map Dcl.kn:=by
 unfold spL;rw[uf];have:(rest.zip a).map Bp=rest:=by rw[Co];omega
 conv=>rhs;rw[<-this,uf]
 rfl
def pX{rest:List Nat}{a:List ay}(h:a.length=rest.length):(spL rest a).length=rest.length:=by
 unfold spL;rw[aj,Bx];omega
def kLI{rest:List Nat}{c:List ay}(h:c.length=rest.length)(nd:rest.Nodup):((spL rest c).map (·.1)).Nodup:=by
 rw[fS h];exact ip.mpr (nd.imp λ{a b} d e=>d (Dcl.kn_inj e))
inductive kFF(vs:List V)(H:Hp)(Q:VK)(Y:XK):Prop
 | mk:∀(p w z:ay)(W:Rows)(a b c:Nat),(vs=[.ref p,.ref w,.ref z])->PotAt H p->WebAt H w W->Good W->W.length<=42->(H z=some (.tup [vn a,vn b,vn c]))->(Tri.E W a c)->((nxt W (a,c)).2=b) ->
  (∀(sp:ay)(rest:List Nat)(sa:List ay)(ss:List (List Nat))(H':Hp),SameBut p H H'->PotAt H' p->H sp=none->H' sp=some (.dK (spL rest sa))->sa.length=rest.length->(∀(i:Nat)(s:ay)(F:List Nat),sa[i]?=some s->ss[i]?=some F->H' s=some (.lst (F.map vn)))->Fc.PeelS W a b [a,c,b] [] rest ss->Q (.ref sp) H')->kFF vs H Q Y
def sC(B:Fx):Hs "_law_taken" ["_law_pot_here","_law_web_here","_law_base_here"] 2 (kFF):=by
 refine qI B.X B.d39 rF λ f f3 A el s0 H vs Q E nN hr h=>?_;obtain⟨p,w,z,W,a,b,c,rfl,hp,hW,G,et,hz,ef,ek,k⟩:=h
 refine⟨_,(kD (yO (pv 2) (jU (n:=3) rfl (kR (pgn 3 nN) (kR (pgn 4 nN) (kR (pgn 5 nN) qY)))))
   (kD (pst 6 nN (jQ (kE (pv 3) (kE (pv 5) (kE (pv 4) kU)))))
   (kD (pst 7 nN (jC (Dcl.call_dictL rfl) rfl (B.z B.y16) DE (p1 (jF (Nc:=["_law_place"]) (js:=[none]) rfl rfl (jT rfl (B.z B.y4) (p1 (kM kP rfl (B.z B.y0) eg (p1 (pv 1))))) (CS.of rfl rfl) rfl (λ C ak an fp aq=>(pgc 0)) (λ C ak an fp aq D L=>(qO (jB (jJ (p2 (pv 0) vJ)))))))))
   (kD (pst 8 nN kAT)
   (kD (dZ (jT rfl (B.z B.y4) (p1 (qB wA (kM kP rfl (B.z B.y0) eg (p1 (pv 1))) kN))) (pgn 9 nN) (kD (pst 10 nN (kPE (gX (qJ kRA (pv 9) kN (qS _)) (pf (mU B) hr (kE (pv 1) (kE (pv 6) (kE (pv 7) kU)))) (jQ (p1 (pv 5))))))
   (kD (pst 11 nN (pix kW (pv 10) (pf (jG B) hr (p2 (pv 0) (kM kP rfl (B.z B.y0) eg (p1 (pv 10)))))))
   (kD (qK (kMI (pv 7) (pv 11) ⟨rfl,rfl,rfl,rfl⟩))
   (kD (pst 12 nN (jO jg jh yI (pv 6) (p1 (pv 11))))
   (kD (pst 13 nN (dD mo mv mw zB (pix qC (pv 1) (pv 11)) (p1 (pix kW (pv 6) (qB wA (pv 12) kN)))))
   (kD (kGB (yA hr) (pv 8) (pv 11) (jF (Nc:=["_law_q","_law_left"]) (js:=[none,some 7]) rfl rfl (vW (qB kGH (qG rB (pix qC (pv 1) (pv 11)) (qH (pv 13)) jE) (qG rB (pix qC (pv 1) (pv 11)) jE (qH (pv 13))))) (CS.of rfl rfl) rfl (λ C ak an fp aq=>(pgc 0)) (λ C ak an fp aq D L=>(yH (kDJ (kMM (yA hr) (pv 0) (pv 1))) (jB (pv 0))))) rfl)
   (kJ (pst 6 nN (qB aF (qB aF (qG jZ (pv 6) jE (qH (qB wA (pv 12) kN))) (wU (yA hr) (pv 8) (pv 11) (λ _ _=>rfl))) (qG jZ (pv 6) (qH (qB xU (pv 12) kN)) jE)))))))))))
   (kJ (kS (pv 8)))))))),?_⟩
 try dsimp only[qQ]
 have S:=(Wb.of G).toNb;have l3:=G.three;obtain⟨bz,rb,nb,_⟩:=xO S ef
 have hb:Tri.R W c b a:=by
  have:=ek;rw[nb]at this;obtain rfl:bz=b:=this;exact rb
 obtain⟨eu,f2,ew⟩:=Fc.base_ne G hb;refine⟨_,rfl,z,_,rfl,SqT.of hz,rfl,_,_,rfl,_,_,rfl,_,_,rfl,rfl,?_⟩;refine⟨_,rfl,_,rfl,_,rfl,yS3,λ he d8=>?_⟩;have g1:=kC d8 (.lst [vn a,vn c,vn b]);have a0:=kB (H:=H) (a:=he) (o:=.lst [vn a,vn c,vn b])
 generalize upd H he (.lst [vn a,vn c,vn b])=H1 at *
 obtain⟨wt,d2,ap,_⟩:=id (hW.kept g1);refine⟨_,rfl,w,_,rfl,.inr (SqT.of d2),_,rfl,(by rw[aj,ap];omega),(by rw[aj,ap];omega),λ D nD=>?_⟩;refine wQ (lo:=0) (n:=((((wt.map V.ref).length:Nat):Int)).toNat) (λ j σ H2=>∃(x0:Option V)(qs:List ay),σ=[x0]/\Same H1 H2/\H2 D=some (.lst (qs.map V.ref))/\qs.length=j/\∀(i:Nat)(q:ay),qs[i]?=some q->H2 q=some (.tup [vn i,.bl true])) ⟨none,[],rfl,kC nD _,kB,rfl,λ i q e=>by simp at e⟩ ?_ ?_
 ·rintro j σ H2 hj ⟨x0,qs,rfl,g2,hD,lq,oq⟩
  have ez:j<W.length:=by rw[aj,iI,ap]at hj;exact hj
  refine⟨_,rfl,yS2,λ t nt=>?_⟩;have e0:V.int (0+(j:Int))=vn j:=by rw[Ak];rfl
  rw[e0];have gt:=kC nt (.tup [vn j,.bl true]);have tD:t≠D:=(kF hD nt).symm;refine⟨_,gt _ _ hD,(by rw[aj];exact kQ (by omega)),_,qs++[t],rfl,kY nD (g2.trans gt),(by rw[eN];exact kB),(by rw[cq,lq];rfl),λ i q e1=>?_⟩;rcases snoc e1 with⟨_,e3⟩ | ⟨e3,e4⟩
  ·have:=oq i q e3
   rw[kK (λ z=>by rw[z,hD]at this;cases this)];exact gt _ _ this
  ·cases e4
   rw[e3,lq,kK tD];exact kB
 rintro σ H2 ⟨x0,qs,rfl,g2,hD,lq,oq⟩;rw[aj,iI,ap]at lq;refine⟨D,qs,zX (cz W.length),rfl,hD,(by unfold zX;rw[aj,lq,eY]),(λ i q e e1 M=>?_),(by unfold zX;rw[aj,eY];omega),λ I bt=>?_⟩
 ·unfold zX at M
  rw[bh]at M;obtain⟨p',e3,rfl⟩:=cv.mp M;have hi:=(au.mp e3).1;rw[eY]at hi;rw[wu hi]at e3;cases e3
  exact oq i q e1
 rw[Dcl.foldP_nd (rD sj)];have ba:=kC bt (.dK (zX (cz W.length)));have bx:=kB (H:=H2) (a:=I) (o:=.dK (zX (cz W.length)));have g3:=g1.trans (g2.trans ba);have ch:=ba _ _ (g2 _ _ a0);have ei:cR (upd H2 I (.dK (zX (cz W.length)))) I W.length []:=⟨_,bx,by unfold zX;rw[aj,eY];exact bg _,λ q hq=>by rw[kAB sj,decide_eq_true (iB.mpr hq)];rfl⟩;generalize upd H2 I (.dK (zX (cz W.length)))=H3 at *;refine λ U ca=>?_;have c5:=kC ca (.dK []);have a3:=kB (H:=H3) (a:=U) (o:=.dK []);have g4:=g3.trans c5;have ds:=c5 _ _ ch;have b7:I≠U:=kF bx ca
 have es:cR (upd H3 U (.dK [])) I W.length []:=by
  obtain⟨kv,h1,h2⟩:=ei;exact⟨kv,c5 _ _ h1,h2⟩
 have ej:=hp.kept g4;obtain⟨px,py,ec,_⟩:=id hp;have aw:he≠p:=(kF ec d8).symm;have e8:H I=none:=(g1.trans g2).free bt;have frs:H U=none:=g3.free ca;generalize upd H3 U (.dK [])=H4 at *;obtain⟨e7,d3,a6,_⟩:=id (hW.kept g4);clear bx ba bt hD oq lq qs d2 ap;refine⟨_,rfl,w,_,rfl,.inr (SqT.of d3),_,_,rfl,rfl,_,rfl,(by rw[aj,a6];omega),(by rw[aj,a6];omega),?_⟩
 refine xP (lo:=0) (n:=(((((e7.map V.ref).length:Nat):Int))-2).toNat) (λ i σ H5=>∃(x9 bm bi c7 bn:Option V)(he:ay)(T g:List Nat)(Z:List ay)(ss:List (List Nat)),σ=[some (.ref p),some (.ref w),some (.ref z),some (vn a),some (vn b),some (vn c),some (.ref he),some (.ref I),some (.ref U),x9,bm,bi,c7,bn]/\SameBut p H H5/\PotAt H5 p/\H5 he=some (.lst (T.map vn))/\he≠p/\cR H5 I W.length g/\H5 U=some (.dK (spL g Z))/\Z.length=g.length/\(∀(i:Nat)(s:ay)(F:List Nat),Z[i]?=some s->ss[i]?=some F->H5 s=some (.lst (F.map vn)))/\p∉Z/\Fc.Pel W a b T g/\g.length=i/\(∀ x∈g,x<W.length)/\ss.length=g.length/\(i=0->T=[a,c,b])/\∀ rest a8,Fc.PeelS W a b T g rest a8->Fc.PeelS W a b [a,c,b] [] (g++rest) (ss++a8))
  ⟨_,_,_,_,_,he,[a,c,b],[],[],[],rfl,.of g4,ej,ds,aw,es,a3,rfl,(λ i s F e=>by simp at e),(by simp),Fc.Pel.start G hb,rfl,(λ x hx=>by cases hx),rfl,(λ _=>rfl),λ rest a8 q=>q⟩ ?_ ?_
 ·rintro i σ H5 hi ⟨x9,bm,bi,c7,bn,he,T,g,Z,ss,rfl,sb,pt,a0,aw,LF,a3,Y,b3,c3,PL,bc,be,bd,t0,af⟩
  have ep:g.length+2<W.length:=by
   rw[aj,a6]at hi;omega
  have T3:=PL.more G ep;have as:=PL.rng S
  have lT:T.length<=42:=by
   have:=eI PL.nd (l₂:=cz W.length) λ x hx=>iB.mpr (as x hx);rw[eY]at this;omega
  have d7:=hW.pot sb hp;obtain⟨qx,qy,ac,_⟩:=id pt;refine⟨λ x H6=>∃(so:ay)(N:List Nat),x=.ref so/\Same H5 H6/\H6 so=some (.lst (N.map vn))/\so≠p/\0<N.length/\N.length<=42/\∀ v∈N,∃ k,k+2<T.length/\v=T.getD (k+1) 0/\∀ z∈T,Tri.E W v z->z=T.getD k 0\/z=T.getD (k+2) 0,?_,?_⟩
  ·refine⟨_,rfl,_,_,rfl,rfl,_,rfl,kEE (λ c0=>?_) (λ c0=>?_)⟩
   ·refine⟨_,rfl,_,rfl,_,rfl,w,he,I,W,T,g,rfl,d7,S,et,a0,PL.nd,as,PL.two,LF,λ r H6 g6 nr e5=>?_⟩
    obtain⟨k0,ey,ea⟩:=PL.some_ok G T3;have m0:k0∈(cz (T.length-2)).filter (Fc.okF W T g):=iG.mpr ⟨iB.mpr (by omega),ea⟩;refine⟨r,_,rfl,g6,e5,?_,?_,?_,λ v hv=>?_⟩
    ·exact(kF ac nr).symm
    ·rw[aj]
     exact List.length_pos_of_mem m0
    ·rw[aj]
     have:=iS (Fc.okF W T g) (cz (T.length-2));rw[eY]at this;omega
    ·obtain⟨k1,dv,rfl⟩:=iK.mp hv
     obtain⟨m1,m2⟩:=iG.mp dv;have:=iB.mp m1;exact⟨k1,by omega,rfl,Fc.okF_lo PL m2⟩
   ·have i0:i=0:=by
     have c0:¬ (0:Int)<0+(i:Int):=λ q=>c0 (decide_eq_true q);omega
    have eT:=t0 i0;refine⟨_,rfl,yS1,λ so dd=>⟨so,[c],rfl,kC dd _,kB,(kF ac dd).symm,Nat.one_pos,(show 1<=42 by decide),λ v hv=>?_⟩⟩;rw[de.mp hv,eT];refine⟨0,(show 2<3 by decide),rfl,λ z hz e=>?_⟩;simp only[cy,gj,or_false]at hz;rcases hz with rfl | rfl | rfl
    ·exact .inl rfl
    ·exact absurd rfl (S.e e).2.2
    ·exact .inr rfl
  rintro x H6 ⟨so,N,rfl,g6,c6,cl,N0,dx,ok⟩;refine⟨_,rfl,_,rfl,_,rfl,so,_,rfl,.inl (SqL.of c6),p,_,rfl,pt.kept g6,(by rw[aj];omega),mW (by rw[aj];exact gx (m:=42) (by omega) (by decide)),λ d H7 d0 d1 s7 p7=>?_⟩;rw[aj]at d1;obtain⟨dn,rfl⟩:=pd d0;have br:dn<N.length:=by omega
  refine⟨so,_,_,_,rfl,rfl,SqL.of (s7 _ _ cl c6),pS br,?_⟩;obtain⟨kk,f0,ev,lo⟩:=ok (N.getD dn 0) (eA (by rw[ai,aa br];rfl));generalize N.getD dn 0=v at *;clear ok c6 cl N0 dx br d0 d1;have d9:SameBut p H H7:=sb.trans ((SameBut.of g6).trans s7);have k7:∀ b o,b≠p->H5 b=some o->H7 b=some o:=λ b o nb e=>s7 b o nb (g6 b o e);have ag:=Fc.cut3 (T:=T) (i:=kk+1) (by omega) (by omega);rw[show kk+1-1=kk by omega,<-ev,show kk+1+1=kk+2 by omega,show kk+1+2=kk+3 by omega]at ag;have vT:v∈T:=by rw[ag];simp
  have vl:=as v vT;have er:=aa vl;have lr:=S.len er;obtain⟨du,b9,um,d5,turn⟩:=Fc.PeelS.turn G PL ag lo er;have d4:v∉g:=PL.out v vT;obtain⟨lk,ab,da,lv⟩:=id LF;have ct:I≠p:=λ q=>by rw[q,ac]at ab;cases ab
  have dm:U≠p:=λ q=>by rw[q,ac]at a3;cases a3
  have c8:=k7 _ _ ct ab;obtain⟨bv,d6⟩:=zh.mp (show(qR lk (Dcl.kn v)).isSome=true by rw[lv v vl,decide_eq_false d4];rfl);refine⟨_,rfl,I,rfl,.inl ⟨_,.inl c8⟩,_,rfl,lk,Dcl.kn v,bv,c8,rfl,d6,?_⟩;have k8:∀ b o,b≠I->H7 b=some o->upd H7 I (.dK (xX lk (Dcl.kn v))) b=some o:=λ b o nb e=>by rw[kK nb];exact e
  have J:=k8 _ _ (λ q=>by rw[q,ab]at a0;cases a0) (k7 _ _ aw a0);have a2:=k8 _ _ b7.symm (k7 _ _ dm a3)
  have dp:cR (upd H7 I (.dK (xX lk (Dcl.kn v)))) I W.length (g++[v]):=⟨_,kB,fz (Dcl.drop_len _) da,λ q hq=>by
   rw[Dcl.val_drop];by_cases e:Dcl.kn q=Dcl.kn v
   ·rw[if_pos e,Dcl.kn_inj e,decide_eq_true (by simp)]
    rfl
   ·have nq:q≠v:=λ z=>e (by rw[z])
    rw[if_neg e,lv q hq]
    congr 1
    simp[nq]⟩
  have bo:SameBut p H (upd H7 I (.dK (xX lk (Dcl.kn v)))):=λ b o nb e=>k8 b o (λ q=>by rw[q,e8]at e;cases e) (d9 b o nb e)
  have bq:PotAt (upd H7 I (.dK (xX lk (Dcl.kn v)))) p:=by
   obtain⟨x,y,e,M⟩:=p7;exact⟨x,y,k8 _ _ (qe ct) e,M⟩
  have b5:∀(i:Nat)(s:ay)(F:List Nat),Z[i]?=some s->ss[i]?=some F->upd H7 I (.dK (xX lk (Dcl.kn v))) s=some (.lst (F.map vn)):=λ i s F e1 M=>by
   have:=b3 i s F e1 M;exact k8 _ _ (λ q=>by rw[q,ab]at this;cases this) (k7 _ _ (λ q=>c3 (q ▸ eA e1)) this)
  have cp:=hW.pot bo hp;clear LF ab c8 d6 lv da k7 a3 a0 b3 pt sb d7 ac k8 d9 p7 s7 g6
  generalize upd H7 I (.dK (xX lk (Dcl.kn v)))=H8 at *
  have ix:T.idxOf v=kk+1:=by
   rw[ag,show T.take kk++[T.getD kk 0,v,T.getD (kk+2) 0]++T.drop (kk+3)=(T.take kk++[T.getD kk 0])++v::(T.getD (kk+2) 0::T.drop (kk+3)) by simp];have nd:=PL.nd;rw[ag,show T.take kk++[T.getD kk 0,v,T.getD (kk+2) 0]++T.drop (kk+3)=(T.take kk++[T.getD kk 0])++v::(T.getD (kk+2) 0::T.drop (kk+3)) by simp]at nd;rw[lN (λ q=>(bj.mp nd).2.2 v q v (by simp) rfl),cq,eJ];simp;omega
  have fa:uO (T.map ci) (v:Int) (kk+1):=by
   rw[<-ix];exact kZ vT
  refine⟨_,rfl,.inl ⟨rfl,_,SqL.of J⟩,_,rfl,he,T.map ci,v,kk+1,rfl,rfl,(by rw[J,qV]),fa,?_⟩;obtain⟨ts,h1,f1,h3⟩:=cp.at;obtain⟨b1,e1,M⟩:=h3 v _ er;generalize W[v]=row at *;have ul:=fe um;have a1:atI (T.map vn) (((kk+1:Nat):Int)-1)=some (vn (T.getD kk 0)):=by rw[show(((kk+1:Nat):Int)-1)=(kk:Int) by omega];exact pS (by omega)
  refine⟨_,rfl,_,rfl,w,_,_,_,rfl,rfl,SqT.of h1,e1,.inr (.inl ⟨rfl,.inr ⟨_,M⟩⟩),_,rfl,_,rfl,_,_,rfl,rfl,he,_,_,_,rfl,rfl,SqL.of J,a1,b1,row.map ci,T.getD kk 0,row.idxOf (T.getD kk 0),rfl,rfl,SqT.of (by rw[M,qV]),kZ um,?_⟩
  refine⟨_,rfl,_,rfl,w,_,_,_,rfl,rfl,SqT.of h1,e1,_,rfl,_,rfl,b1,_,rfl,M,λ p1 H9 g9 c4=>?_⟩;have g9:Same H8 H9:=g9;rw[yM _ (by rw[aj];omega)]at c4;refine⟨_,rfl,_,rfl,w,_,_,_,rfl,rfl,SqT.of (g9 _ _ h1),e1,_,rfl,_,rfl,b1,_,rfl,g9 _ _ M,λ p2 db b0 c2=>?_⟩;have b0:Same H9 db:=b0;rw[wB _ (by rw[aj];omega)]at c2;refine⟨p1,p2,_,_,rfl,rfl,b0 _ _ c4,c2,(by simp only[aj,iN,eJ];exact kl (kQ (by omega))),λ p3 cr bw ax=>?_⟩;have bw:Same db cr:=bw;rw[rO]at ax;have a7:=g9.trans (b0.trans bw);obtain⟨cb,bf,ce,cs⟩:=id dp;have b8:=a7 _ _ bf
  have lR:(rot row (T.getD kk 0)).length<=42:=by
   rw[<-(gM row (T.getD kk 0)).perm.length_eq];omega
  have Rr:∀ q∈rot row (T.getD kk 0),q<W.length:=λ q hq=>(S.rng _ _ _ er (((gM row (T.getD kk 0)).mem q).mpr hq)).1;generalize hF:T.getD kk 0::du++[T.getD (kk+2) 0]=F at *;generalize rot row (T.getD kk 0)=R at *;refine⟨p3,rfl,⟨_,SqT.of ax⟩,λ D2 b2=>?_⟩;refine yG (xs:=R.map vn) (λ j σ l=>∃(x0:Option V),σ=[x0,some (.ref I)]/\Same cr l/\l D2=some (.lst (((R.take j).filter λ q=>decide (q∉g++[v])).map vn))) ⟨none,rfl,kC b2 _,kB⟩ ?_ ?_ ?_
  ·rintro j σ l _ ⟨x0,rfl,a5,_⟩
   exact SqT.of (a5 _ _ ax)
  ·rintro j u σ l hv ⟨x0,rfl,a5,a9⟩
   rw[bh]at hv;obtain⟨q,eq,rfl⟩:=cv.mp hv;have hj:=(au.mp eq).1;have ql:=Rr q (eA eq)
   have lz:(((R.take j).filter λ q=>decide (q∉g++[v])).map vn).length<sizeLine:=by
    rw[aj];have:=iS (λ q=>decide (q∉g++[v])) (R.take j);rw[eJ]at this;exact kQ (by omega)
   refine⟨_,rfl,_,rfl,I,_,rfl,.inl ⟨cb,Dcl.kn q,.inl (a5 _ _ b8),rfl,rfl⟩,_,rfl,?_⟩;rw[cs q ql,jf,eq,CB,uj];by_cases c1:q∈g++[v]
   ·rw[decide_eq_true c1,show[q].filter (λ q=>decide (q∉g++[v]))=[] by rw[tz (by simpa using λ z=>(bu.mp c1).resolve_left z |> de.mp),CC],iY]
    exact xE ⟨_,rfl,a5,a9⟩
   ·rw[decide_eq_false c1,show[q].filter (λ q=>decide (q∉g++[v]))=[q] by rw[ua (by simpa using c1),CC]]
    refine yK ⟨_,rfl,_,a9,lz,⟨_,rfl,kY b2 a5,?_⟩⟩;rw[kB,eN]
    rfl
  rintro σ l ⟨x0,rfl,a5,a9⟩;rw[aj,iW,b9]at a9;have O:=a7.trans a5;have am:=O _ _ a2
  have dg:qR (spL g Z) (Dcl.kn v)=none:=Dcl.val_none λ m=>by
   rw[fS Y]at m;obtain⟨q,hq,e⟩:=iK.mp m;exact d4 (Dcl.kn_inj e ▸ hq)
  refine⟨_,rfl,_,rfl,U,_,rfl,DPut.k (k:=Dcl.kn v) am (by rw[pX Y];exact kQ (by omega)),?_⟩;rw[kAR _ dg,<-kFN Y];obtain⟨ox,oy,co,_⟩:=id bq;have dy:D2≠p:=(kF (a7 _ _ co) b2).symm;have dz:D2≠U:=(kF (a7 _ _ a2) b2).symm;have a4:∀ b o,b≠U->l b=some o->upd l U (.dK (spL (g++[v]) (Z++[D2]))) b=some o:=λ b o nb e=>by rw[kK nb];exact e
  have al:=kB (H:=l) (a:=U) (o:=.dK (spL (g++[v]) (Z++[D2])));have b4:=a4 _ _ dz a9;have ah:=a4 _ _ (λ q=>by rw[q,a2]at J;cases J) (O _ _ J);have cf:cR (upd l U (.dK (spL (g++[v]) (Z++[D2])))) I W.length (g++[v]):=⟨cb,a4 _ _ b7 (O _ _ bf),ce,cs⟩
  have b6:PotAt (upd l U (.dK (spL (g++[v]) (Z++[D2])))) p:=by
   obtain⟨x,y,e,M⟩:=bq;exact⟨x,y,a4 _ _ (qe dm) (O _ _ e),M⟩
  have cd:SameBut p H (upd l U (.dK (spL (g++[v]) (Z++[D2])))):=λ b o nb e=>a4 b o (λ q=>by rw[q,frs]at e;cases e) (O _ _ (bo b o nb e))
  have c9:∀(i:Nat)(s:ay)(G:List Nat),(Z++[D2])[i]?=some s->(ss++[F])[i]?=some G->upd l U (.dK (spL (g++[v]) (Z++[D2]))) s=some (.lst (G.map vn)):=λ i s G e1 M=>by
   rcases snoc e1 with⟨l1,e3⟩ | ⟨l1,e3⟩
   ·rw[cm (by omega)]at M
    have:=b5 i s G e3 M;exact a4 _ _ (λ q=>by rw[q,a2]at this;cases this) (O _ _ this)
   ·cases e3
    rw[l1,Y,<-bd,gn]at M;cases M
    exact b4
  generalize upd l U (.dK (spL (g++[v]) (Z++[D2])))=ex at *
  clear b5 dp bf b8 am a2 a9 J bo bq co cp a4 h1 e1 M h3 c4 c2 ax
  have lF:F.length<=42:=by
   rw[<-b9];exact fz (iS _ _) lR
  refine⟨_,rfl,_,rfl,_,_,rfl,rfl,_,rfl,he,_,rfl,SqL.of ah,λ q1 en=>?_⟩;rw[show(((kk+1:Nat):Int)-1)=(kk:Int) by omega,wB _ (by rw[aj];omega),<-AB];have j1:=kC en (.lst ((T.take kk).map vn));refine⟨_,rfl,_,rfl,U,_,rfl,.inl ⟨_,Dcl.kn v,.inl (j1 _ _ al),rfl,(Dcl.val_mem (kLI (by rw[cq,cq,Y];rfl) d5.nof) (v:=.ref D2) (by rw[kFN Y];simp)).symm⟩,?_⟩;refine⟨q1,D2,_,_,rfl,rfl,kB,j1 _ _ b4,(by rw[aj,aj,eJ];exact kl (kQ (by omega))),λ q2 e6=>?_⟩;rw[<-eN];have j2:=kC e6 (.lst ((T.take kk++F).map vn));refine⟨_,rfl,_,rfl,_,_,rfl,rfl,_,rfl,he,_,rfl,SqL.of (j2 _ _ (j1 _ _ ah)),λ q3 eb=>?_⟩;rw[show(((kk+1:Nat):Int)+2)=((kk+3:Nat):Int) by omega,yM _ (by rw[aj];omega),<-BJ];have j3:=kC eb (.lst ((T.drop (kk+3)).map vn));refine⟨q2,q3,_,_,rfl,rfl,j3 _ _ kB,kB,(by rw[aj,aj,cq,eJ,iN];exact kl (kQ (by omega))),λ q4 dk=>?_⟩;rw[<-eN];have j4:=kC dk (.lst ((T.take kk++F++T.drop (kk+3)).map vn));have jj:=j1.trans (j2.trans (j3.trans j4));obtain⟨rx,ry,e9,_⟩:=id b6;have ee:q4≠p:=(kF (j3 _ _ (j2 _ _ (j1 _ _ e9))) dk).symm;refine⟨_,_,_,_,_,q4,_,g++[v],Z++[D2],ss++[F],rfl,cd.trans (.of jj),b6.kept jj,kB,ee,?_,jj _ _ al,(by rw[cq,cq,Y];rfl),(λ i s G e1 M=>jj _ _ (c9 i s G e1 M)),?_,d5,(by rw[cq,bc];rfl),(λ x hx=>?_),(by rw[cq,cq,bd];rfl),(λ z=>by omega),λ rest a8 q=>?_⟩
  ·obtain⟨kv,h1,h2⟩:=cf
   exact⟨kv,jj _ _ h1,h2⟩
  ·intro m
   rcases bu.mp m with q | q
   ·exact c3 q
   ·exact dy (de.mp q).symm
  ·rcases bu.mp hx with q | q
   ·exact be x q
   ·rw[de.mp q];exact vl
  ·have:=af (v::rest) (F::a8) (turn rest a8 q)
   rw[dr,dr];exact this
 ·rintro σ H5 ⟨x9,bm,bi,c7,bn,he,T,g,Z,ss,rfl,sb,pt,a0,aw,LF,a3,Y,b3,c3,PL,bc,be,bd,t0,af⟩
  have e:=PL.none_left G (by rw[bc,aj,a6];omega) be;subst e;have:=af [] [] (.done PL);rw[iY,iY]at this;exact⟨_,rfl,k U g Z ss H5 sb pt frs a3 Y b3 this⟩
end
section
inductive kFJ(vs:List V)(H:Hp)(Q:VK)(Y:XK):Prop
 | mk:∀(z sp:ay)(a b c:Nat)(rest:List Nat)(sa:List ay),(vs=[.ref z,.ref sp])->(H z=some (.tup [vn a,vn b,vn c]))->Rd H sp (.dK (spL rest sa))->sa.length=rest.length->rest.length<=42->(∀(t:ay)(H':Hp),Same H H'->H' t=some (.tup ((a::b::rest.reverse).map vn))->Q (.ref t) H')->kFJ vs H Q Y
def sE(B:Fx):Hs "_law_order" ["_law_base_here","_law_spans"] 1 (kFJ):=by
 refine qI B.X B.d40 rG λ f N A n Z H T Q E Y U h=>?_;obtain⟨z,r,a,b,c,rest,v,rfl,G,I,g,O,k⟩:=h;refine⟨_,(kJ (kS (qB kGH (qG rB (pv 0) jE (qH kN)) (kSJ rfl rfl (B.z B.y5) rfl (B.z B.y17) (p1 (jC (kEO rfl) rfl (B.z B.y13) DD (p1 (pv 1)))))))),?_⟩
 try dsimp only[qQ]
 refine⟨_,rfl,_,rfl,z,_,rfl,G,λ p1 s d i=>?_⟩;have d:Same H s:=d;have y:xZ [vn a,vn b,vn c] none (some 2)=[vn a,vn b]:=wB (k:=2) [vn a,vn b,vn c] (by show 2<=3;decide);rw[y]at i;have p:Rd s r (.dK (spL rest v)):=I.elim (λ e=>.inl (d _ _ e)) λ⟨o,e⟩=>.inr ⟨o,d _ _ e⟩;refine⟨_,rfl,r,_,rfl,p,(by rw[pX g];omega),λ l M=>?_⟩
 have J:(spL rest v).map (λ D=>kV D.1)=rest.map vn:=by
  have:=congrArg (List.map kV) (fS g);rw[uf,uf]at this;exact this
 rw[J];have u:=kC M (.lst (rest.map vn));refine⟨l,_,rfl,SqL.of kB,(by rw[aj];omega),λ t C=>?_⟩;rw[<-List.map_reverse];have q:=kC C (.tup (rest.reverse.map vn));refine⟨p1,t,_,_,rfl,rfl,q _ _ (u _ _ i),kB,(by rw[aj,yp];exact kl (kQ (by simp;omega))),λ L x S m=>?_⟩;exact k L x (d.trans (u.trans (q.trans S))) m
def kAP{α:Type}{l:List α}{d:α}{k:Nat}(h:k<l.length):l.reverse.getD k d=l.getD (l.length-1-k) d:=by
 rw[ai,Ap h,ai]
inductive tY(vs:List V)(H:Hp)(Q:VK)(Y:XK):Prop
 | mk:∀(w z sp:ay)(W:Rows)(a b c:Nat)(rest:List Nat)(sa:List ay)(ss Ts:List (List Nat)),(vs=[.ref w,.ref z,.ref sp])->WebAt H w W->W.length<=42->(H z=some (.tup [vn a,vn b,vn c]))->H sp=some (.dK (spL rest sa))->sa.length=rest.length->(∀(i:Nat)(s:ay)(F:List Nat),sa[i]?=some s->ss[i]?=some F->H s=some (.lst (F.map vn)))->ss.length=rest.length->Good W->Hist W (a::b::rest.reverse) a b c ss.reverse Ts->(∀(t:ay)(H':Hp),(∀ b o,b≠sp->H b=some o->H' b=some o)->Rd H' sp (.dK (spL rest sa))->WebAt H' t (wdF W.length a b c (a::b::rest.reverse) ss.reverse)->Q (.ref t) H')->tY vs H Q Y
def sB(B:Fx):Hs "_law_woods" ["_law_web_here","_law_base_here","_law_spans"] 1 (tY):=by
 refine qI B.X B.d41 rE λ f cs A cb s0 H vs Q E nN hr h=>?_;obtain⟨w,z,v,W,a,b,c,rest,r,C,Ts,rfl,hW,ct,hz,aq,b3,bn,b4,G,g,k⟩:=h
 refine⟨_,(kD (pst 3 nN kAT)
   (kD (dZ (kAS (pv 2)) (jU (n:=2) rfl (kR (pgn 4 nN) (kR (pgn 5 nN) qY))) (kJ (dZ (xC (qG jZ (pv 5) (qH kN) (qH (dC vO kN)))) (pgn 6 nN) (kJ (kGB (yA hr) (pv 3) (pv 6) (pv 4) rfl)))))
   (kD (pst 7 nN (jQ kU))
   (kD (dZ (jT rfl (B.z B.y4) (p1 (kM kP rfl (B.z B.y0) eg (p1 (pv 0))))) (pgn 8 nN) (kJ (xH (qJ jD (pv 8) (pv 1) rfl) (kJ (qK (jO iu iw xD (pv 7) (p1 (jJ kU))))) (kJ (qK (jO iu iw xD (pv 7) (p1 (jJ (kE (pix kW (wU (yA hr) (pv 2) (pv 8) (λ _ _=>rfl)) kN) (kE (pix kW (wU (yA hr) (pv 2) (pv 8) (λ _ _=>rfl)) (dC vO kN)) (kE (wU (yA hr) (pv 3) (pv 8) (λ _ _=>rfl)) kU)))))))))))
   (kJ (kS (jC jK rfl (B.z B.y5) ie (p1 (pv 7))))))))),?_⟩
 try dsimp only[qQ]
 have lf:=g.lf;have lm:(a::b::rest.reverse).length=rest.length+2:=by simp
 have lW:rest.length+2<=42:=by
  have:=eI g.msn (l₂:=cz W.length) λ x hx=>iB.mpr ((g.all x).mp hx);rw[eY]at this;omega
 have cp:C.reverse.length=rest.length:=by rw[yp,b4]
 have eF:∀ k,k<rest.length->C.getD k []=C.reverse.getD (rest.length-1-k) []:=λ k hk=>by rw[kAP (by omega),b4];congr 1;omega
 have eM:∀ k,k<rest.length->rest.getD k 0=(a::b::rest.reverse).getD (rest.length-1-k+2) 0:=λ k hk=>by
  show _=rest.reverse.getD (rest.length-1-k) 0;rw[kAP (by omega)]
  congr 1
  omega
 have once:∀ j k z,j<C.length->k<C.length->z∈(C.getD j []).tail.dropLast->z∈(C.getD k []).tail.dropLast->j=k:=λ j k z h1 h2 h3 h4=>by
  rw[eF j (by omega)]at h3;rw[eF k (by omega)]at h4;have:=g.once (by omega) (by omega) h3 h4;omega
 refine λ J ap=>?_;have as:=kC ap (.dK []);have b5:=kB (H:=H) (a:=J) (o:=.dK []);have an:=as _ _ aq;have ac:J≠v:=(kF aq ap).symm;generalize upd H J (.dK [])=H1 at *;refine⟨_,rfl,v,_,rfl,.inl ⟨an,λ ob=>?_⟩⟩;have k2:∀ b o,b≠v->H1 b=some o->upd H1 v (.frz ob (.dK (spL rest r))) b=some o:=λ b o y e=>by rw[kK y];exact e
 have a6:=kB (H:=H1) (a:=v) (o:=.frz ob (.dK (spL rest r)));have a2:=k2 _ _ ac b5;have kH:∀ b o,b≠v->H b=some o->upd H1 v (.frz ob (.dK (spL rest r))) b=some o:=λ b o y e=>k2 b o y (as b o e);have ag:∀{b:ay}{o:HO},H b=some o->(∀ d,o≠.dK d)->b≠v:=λ{b o} e n q=>by rw[q,aq]at e;cases e;exact n _ rfl
 have b6:=kH _ _ (ag hz (λ _ q=>by cases q)) hz
 have br:WebAt (upd H1 v (.frz ob (.dK (spL rest r)))) w W:=by
  obtain⟨ts,h1,h2,h3⟩:=hW;exact⟨ts,kH _ _ (ag h1 (λ _ q=>by cases q)) h1,h2,λ j a row Z e2=>kH _ _ (ag (h3 j a row Z e2) (λ _ q=>by cases q)) (h3 j a row Z e2)⟩
 have al:∀(i:Nat)(s:ay)(F:List Nat),r[i]?=some s->C[i]?=some F->upd H1 v (.frz ob (.dK (spL rest r))) s=some (.lst (F.map vn)):=λ i s F Z e2=>kH _ _ (ag (bn i s F Z e2) (λ _ q=>by cases q)) (bn i s F Z e2);have oF:∀ i,i<rest.length->upd H1 v (.frz ob (.dK (spL rest r))) (r.getD i 0)=some (.lst ((C.getD i []).map vn)):=λ i hi=>al i _ _ (by rw[ai,aa (by omega)];rfl) (by rw[ai,aa (by omega)];rfl);have b7:H J=none:=ap;generalize upd H1 v (.frz ob (.dK (spL rest r)))=H2 at *;have b1:=pX b3
 have bf:∀ i kv,(spL rest r)[i]?=some kv->i<rest.length/\kv=(Dcl.kn (rest.getD i 0),V.ref (r.getD i 0)):=λ i kv e=>by
  have hi:=(au.mp e).1;rw[b1]at hi;unfold spL at e;rw[bh]at e;obtain⟨t,Z,rfl⟩:=cv.mp e;obtain⟨q1,q2⟩:=qk.mp Z;exact⟨hi,by rw[ai,q1,ai,q2];rfl⟩
 have cf:∀ i,i<rest.length->∃ f M l,C.getD i []=f::M++[l]/\M.length<=42:=λ i hi=>by
  obtain⟨nd,iT,f,M,l,e,_⟩:=g.inF (k:=rest.length-1-i) (by omega);rw[<-eF i hi]at nd iT e;have:=eI nd (l₂:=a::b::rest.reverse) λ x hx=>wc ((g.top _ (by omega)).2 x (iT x hx));rw[lm,e]at this;refine⟨f,M,l,e,?_⟩;simp only[cq,eh]at this;omega
 refine kJJ (kvs:=spL rest r) (λ i σ H5=>∃(x4 S O x7 U:Option V)(d:List (Key×V)),σ=[some (.ref w),some (.ref z),some (.ref v),some (.ref J),x4,S,O,x7,U]/\(∀ b o,b≠J->H2 b=some o->H5 b=some o)/\H5 J=some (.dK d)/\OvI (0::0::rest) C i 0 d) ⟨_,_,_,_,_,[],rfl,λ b o _ e=>e,a2,⟨λ j hj=>absurd hj (AF j),λ q hq=>(by simp at hq),by simp⟩⟩ ?_ ?_ ?_
 ·rintro i σ H5 _ ⟨x4,S,O,x7,U,d,rfl,g5,_⟩
  exact g5 _ _ (qe ac) a6
 ·rintro i kv T σ H5 c2 nT ⟨x4,S,O,x7,U,d,rfl,g5,hO,bw⟩
  obtain⟨hi,rfl⟩:=bf i kv c2;have gT:=kC nT (.tup [kV (Dcl.kn (rest.getD i 0)),V.ref (r.getD i 0)]);have c4:=gT _ _ hO;refine⟨T,_,rfl,SqT.of kB,rfl,_,_,rfl,_,_,rfl,rfl,?_⟩;have g6:∀ b o,b≠J->H2 b=some o->upd H5 T (.tup [kV (Dcl.kn (rest.getD i 0)),V.ref (r.getD i 0)]) b=some o:=λ b o y e=>gT _ _ (g5 b o y e);generalize upd H5 T (.tup [kV (Dcl.kn (rest.getD i 0)),V.ref (r.getD i 0)])=H6 at *;obtain⟨fi,M,li,eS,lM⟩:=cf i hi;have b8:=g6 _ _ (λ q=>by have:=oF i hi;rw[q,a2]at this;cases this) (oF i hi);rw[eS]at b8;refine⟨_,rfl,_,rfl,_,rfl,_,rfl,r.getD i 0,_,rfl,SqL.of b8,λ st ce=>?_⟩;have eC:=pJ fi li M;rw[show(-1:Int) = -(1:Int) from rfl]at eC;rw[eC];have b2:=kC ce (.lst (M.map vn));have b9:=kB (H:=H6) (a:=st) (o:=.lst (M.map vn));have b0:=b2 _ _ c4;have g7:∀ b o,b≠J->H2 b=some o->upd H6 st (.lst (M.map vn)) b=some o:=λ b o y e=>b2 _ _ (g6 b o y e);generalize upd H6 st (.lst (M.map vn))=H7 at *;have bt:(C.getD i []).tail.dropLast=M:=by rw[eS];exact yC
  refine⟨st,rfl,⟨_,SqL.of b9⟩,?_⟩;refine kBT (xs:=M.map vn) (λ m σ I=>∃(S O x7 U:Option V)(d:List (Key×V)),σ=[some (.ref w),some (.ref z),some (.ref v),some (.ref J),some (vn (rest.getD i 0)),S,O,x7,U]/\(∀ b o,b≠J->H2 b=some o->I b=some o)/\I st=some (.lst (M.map vn))/\I J=some (.dK d)/\OvI (0::0::rest) C i m d) ⟨_,_,_,_,d,rfl,g7,b9,b0,bw⟩ ?_ ?_ ?_
  ·rintro m σ I _ ⟨S,O,x7,U,d,rfl,g8,h8,_⟩
   exact SqL.of h8
  ·rintro m x σ I hx ⟨S,O,x7,U,d,rfl,g8,h8,a3,ah⟩
   rw[bh]at hx;obtain⟨q,eq,rfl⟩:=cv.mp hx;have hm:=(au.mp eq).1;have c9:=ah.few;refine⟨_,rfl,_,rfl,_,rfl,J,_,rfl,DPut.k (k:=Dcl.kn q) a3 (gx (m:=3000) (by omega) (by decide)),_,_,_,_,_,rfl,(λ b o y e=>by rw[kK y];exact g8 b o y e),?_,kB,ah.put once (by omega) (by rw[bt];exact eq)⟩;rw[kK (λ e=>by rw[e,a3]at h8;cases h8)];exact h8
  ·rintro σ I ⟨S,O,x7,U,d,rfl,g8,h8,a3,ah⟩
   exact⟨_,_,_,_,_,d,rfl,g8,a3,ah.next (by rw[bt,aj]) (by rw[aj];omega)⟩
 rintro σ H5 ⟨x4,S,O,x7,U,ov,rfl,g5,hO,OI⟩;rw[b1]at OI;have nz:∀{b:ay}{o:HO},H2 b=some o->o≠.dK []->H5 b=some o:=λ{b o} e n=>g5 b o (λ q=>by rw[q,a2]at e;cases e;exact n rfl) e;have c5:=nz b6 (by simp);have a9:=g5 _ _ (qe ac) a6;have bi:=λ i hi=>nz (oF i hi) (by simp)
 have c7:WebAt H5 w W:=by
  obtain⟨ts,h1,h2,h3⟩:=br;exact⟨ts,nz h1 (by simp),h2,λ j a row Z e2=>nz (h3 j a row Z e2) (by simp)⟩
 have bc:∀ b o,b≠v->H b=some o->H5 b=some o:=λ b o y e=>g5 b o (λ q=>by rw[q,b7]at e;cases e) (kH b o y e)
 clear a2 a6 oF br b6 g5 al kH k2 as b5 an nz
 refine⟨yS0,λ L nL=>?_⟩;have gL:=kC nL (.lst []);have hL:=kB (H:=H5) (a:=L) (o:=.lst []);have b0:=gL _ _ hO;have bl:=gL _ _ c5;have ak:=gL _ _ a9;have co:=λ i hi=>gL _ _ (bi i hi);have bz:∀ b o,b≠v->H b=some o->upd H5 L (.lst []) b=some o:=λ b o y e=>gL _ _ (bc b o y e);have bv:=c7.kept gL;have a8:∀{b:ay}{o:HO},H5 b=some o->b≠L:=λ{b o} e=>kF e nL;generalize upd H5 L (.lst [])=H6 at *;obtain⟨ws,w1,af,_⟩:=id bv;have nn:∀{b:ay}{xs:List V},H6 b=some (.tup xs)->b≠L:=λ{b xs} e q=>by rw[q,hL]at e;cases e
 have lD:(wdF W.length a b c (a::b::rest.reverse) C.reverse).length=W.length:=by unfold wdF;rw[aj,eY]
 have bD:∀ p,p<W.length->isB a b c p=true->(wdF W.length a b c (a::b::rest.reverse) C.reverse).getD p []=[]:=λ p hp hB=>by rw[bV hp,if_pos (isB_iff.mp hB)]
 have ch:=λ k (hk:k+1<C.reverse.length)=>g.outs G hk;generalize wdF W.length a b c (a::b::rest.reverse) C.reverse=D at *;refine⟨_,rfl,w,_,rfl,.inr (SqT.of w1),_,rfl,(by rw[aj,af];omega),(by rw[aj,af];omega),?_⟩;refine xP (lo:=0) (n:=((((ws.map V.ref).length:Nat):Int)).toNat) (λ j σ I=>∃(x4 S O U:Option V)(ts:List ay),σ=[some (.ref w),some (.ref z),some (.ref v),some (.ref J),x4,S,O,some (.ref L),U]/\(∀ b o,b≠L->H6 b=some o->I b=some o)/\I L=some (.lst (ts.map V.ref))/\ts.length=j/\∀ i u,ts[i]?=some u->I u=some (.tup ((D.getD i []).map vn))) ⟨_,_,_,_,[],rfl,λ b o _ e=>e,hL,rfl,λ i u e=>by simp at e⟩ ?_ ?_
 ·rintro j σ I hj ⟨x4,S,O,U,ts,rfl,g8,N,a7,ax⟩
  have be:j<W.length:=by rw[aj,iI,af]at hj;exact hj
  have e0:V.int (0+(j:Int))=vn j:=by rw[Ak];rfl
  have c8:=g8 _ _ (nn bl) bl
  have bq:∀(t:ay),I t=none->∃(x4 S O U:Option V)(Y:List ay),[some (V.ref w),some (.ref z),some (.ref v),some (.ref J),x4,S,O,some (.ref L),U]=[some (.ref w),some (.ref z),some (.ref v),some (.ref J),x4,S,O,some (.ref L),U]/\(∀ b o,b≠L->H6 b=some o->upd (upd I t (.tup ((D.getD j []).map vn))) L (.lst (ts.map V.ref++[.ref t])) b=some o)/\upd (upd I t (.tup ((D.getD j []).map vn))) L (.lst (ts.map V.ref++[.ref t])) L=some (.lst (Y.map V.ref))/\Y.length=j+1/\∀ i u,Y[i]?=some u->upd (upd I t (.tup ((D.getD j []).map vn))) L (.lst (ts.map V.ref++[.ref t])) u=some (.tup ((D.getD i []).map vn)):=λ t nt=>by
   have gt:=kC nt (.tup ((D.getD j []).map vn));refine⟨none,none,none,none,ts++[t],rfl,(λ b o y e=>by rw[kK y];exact gt _ _ (g8 b o y e)),(by rw[kB,eN];rfl),(by rw[cq,a7];rfl),λ i u eu=>?_⟩;rcases snoc eu with⟨_,Z⟩ | ⟨Z,e2⟩
   ·have:=ax i u Z
    rw[kK (λ q=>by rw[q,N]at this;cases this)];exact gt _ _ this
   ·cases e2
    rw[Z,a7,kK (kF N nt).symm];exact kB
  refine⟨_,rfl,_,rfl,z,_,rfl,.inr (SqT.of c8),rfl,zC a b c,_,rfl,?_⟩;rw[e0,wM]
  cases hB:isB a b c j with
  | true =>
   refine yK ⟨_,rfl,.inl ⟨rfl,_,SqL.of N⟩,yS0,λ t nt=>?_⟩;have f1:=bq t nt;rw[bD j be hB]at f1;obtain⟨_,_,_,_,Y,_,f2,f3,f4,f5⟩:=f1;have gt:=kC nt (.tup []);refine⟨L,_,_,rfl,rfl,gt _ _ N,(by rw[aj];exact kQ (by omega)),?_⟩;exact⟨_,_,_,_,Y,rfl,f2,f3,f4,f5⟩
  | false =>
   obtain⟨pa,pb,pc⟩:=uL hB;obtain⟨kp,cd,bo⟩:=g.place be pa pb pc;obtain⟨j2,f2,M2,l2,d0,cr,am,e2,bd⟩:=ch kp cd;rw[<-bo]at am bd;have a4:rest.length-1-kp<rest.length:=by omega
   have c3:rest.getD (rest.length-1-kp) 0=j:=by rw[eM _ a4,show rest.length-1-(rest.length-1-kp)=kp by omega];exact bo.symm
   have bx:C.getD (rest.length-1-kp) []=f2::M2++[l2]:=by rw[eF _ a4,show rest.length-1-(rest.length-1-kp)=kp by omega];exact e2
   have aw:rest.length-1-j2<rest.length:=by omega
   have cl:j∈(C.getD (rest.length-1-j2) []).tail.dropLast:=by rw[eF _ aw,show rest.length-1-(rest.length-1-j2)=j2 by omega];exact am
   have bm:=OI.all _ aw j cl
   have c1:(0::0::rest).getD (rest.length-1-j2+2) 0=(a::b::rest.reverse).getD (j2+2) 0:=by
    show rest.getD (rest.length-1-j2) 0=_;rw[eM _ aw]
    congr 1
    omega
   rw[c1]at bm;have a5:=co _ a4;rw[bx]at a5;have a5:=g8 _ _ (a8 (bi _ a4)) a5;have ba:=g8 _ _ (a8 a9) ak;have a3:=g8 _ _ (a8 hO) b0
   have rnd:rest.Nodup:=by
    have:=g.msn;rw[eK,eK]at this;exact(Ah rest).nodup_iff.mp this.2.2
   have vs:qR (spL rest r) (Dcl.kn j)=some (.ref (r.getD (rest.length-1-kp) 0)):=Dcl.val_mem (kLI b3 rnd) (by
    unfold spL;refine iK.mpr ⟨(j,r.getD (rest.length-1-kp) 0),eA (i:=rest.length-1-kp) (qk.mpr ⟨?_,?_⟩),rfl⟩
    ·rw[<-c3,ai,aa a4]
     rfl
    ·rw[ai,aa (by omega)]
     rfl)
   have du:DGet I v (vn j) (some (.ref (r.getD (rest.length-1-kp) 0))):=.inl ⟨_,Dcl.kn j,.inr ⟨ob,ba⟩,rfl,vs.symm⟩;have ca:DGet I J (vn j) (some (vn ((a::b::rest.reverse).getD (j2+2) 0))):=.inl ⟨_,Dcl.kn j,.inl a3,rfl,bm.symm⟩;have a0:atI ((f2::M2++[l2]).map vn) 0=some (vn f2):=jL (j:=0) rfl;have a1:atI ((f2::M2++[l2]).map vn) (-1)=some (vn l2):=by rw[eN];exact zM _ _
   refine xE ⟨_,rfl,.inl ⟨rfl,_,SqL.of N⟩,?_⟩;refine⟨_,rfl,_,rfl,v,_,rfl,du,r.getD (rest.length-1-kp) 0,_,_,_,rfl,rfl,SqL.of a5,a0,?_⟩;refine⟨_,rfl,_,rfl,v,_,rfl,du,_,rfl,r.getD (rest.length-1-kp) 0,_,_,_,rfl,rfl,SqL.of a5,a1,?_⟩;refine⟨_,rfl,_,rfl,J,_,rfl,ca,yS3,λ t nt=>?_⟩;have f1:=bq t nt;rw[bd]at f1;obtain⟨_,_,_,_,Y,_,c6,f3,f4,f5⟩:=f1;have gt:=kC nt (.tup ([f2,l2,(a::b::rest.reverse).getD (j2+2) 0].map vn));refine⟨L,_,_,rfl,rfl,gt _ _ N,(by rw[aj];exact kQ (by omega)),?_⟩;exact⟨_,_,_,_,Y,rfl,c6,f3,f4,f5⟩
 ·rintro σ I ⟨x4,S,O,U,ts,rfl,g8,N,a7,ax⟩
  rw[aj,iI,af]at a7;refine⟨_,rfl,L,_,rfl,.inl ⟨SqL.of N,λ t nt=>?_⟩⟩;have gt:=kC nt (.tup (ts.map V.ref));refine k t _ (λ b o y e=>gt _ _ (g8 b o (a8 (bc b o y e)) (bz b o y e))) (.inr ⟨ob,gt _ _ (g8 _ _ (a8 a9) ak)⟩) ⟨ts,kB,by rw[a7,lD],λ i u row Z e2=>?_⟩;have hi:i<D.length:=(au.mp e2).1;have:=gt _ _ (ax i u Z);rw[ai,e2]at this;exact this
end
section
def kEW{xs:List Bn}{B n:Nat}(h:((jd xs).map (·.length)).sum<=B)(h':(jd xs).length=n):(PyData.tuple xs).shown.length<=B+2*n+3:=by
 rw[HB];have:=PySem.tupleText_len_le (jd xs);omega
def kJF{l:List Nat}(h:∀ n∈l,n<1024):AN (l.map λ n:Nat=>ig (n:Int))=true/\Al (l.map λ n:Nat=>ig (n:Int))=false/\((jd (l.map λ n:Nat=>ig (n:Int))).map (·.length)).sum<=11*l.length/\(jd (l.map λ n:Nat=>ig (n:Int))).length=l.length:=by
 induction l with
 | nil=>exact⟨rfl,rfl,by simp[jd],rfl⟩
 | cons n l ih =>
  obtain⟨d,f,o,g⟩:=ih λ m b=>h m (dq _ b);have i:=h n eV
  have a:((n:Int)).natAbs.log2<10:=by
   rw[EM];by_cases z:n=0
   ·rw[z];decide
   ·exact(HL z).mpr i
  have s:(gw (toString (n:Int))).length<=11:=by
   have:=PySem.int_text_length_le (k:=10) (by decide) a;rw[PySem.ofString_length];exact this
  have c:(ig (n:Int)).showable=true:=by
   simp[DP];have:(n:Int).natAbs=n:=EM n;rw[this]at a;omega
  refine⟨?_,?_,?_,?_⟩
  ·rw[eX,AN,c,d];rfl
  ·rw[eX,Al,f];rfl
  ·rw[eX,jd,eX,Dc,eh,HB];omega
  ·rw[eX,jd,eh,g];rfl
def kHQ{D:Rows}(h:∀ r∈D,r.length<=3/\∀ n∈r,n<1024)(i:D.length<=42):(fO D).showable=true/\(fO D).hasDict=false/\(fO D).depth<=60/\(fO D).shown.length<=sizeLine:=by
 have all:∀{D:Rows},(∀ r∈D,r.length<=3/\∀ n∈r,n<1024)->AN (D.map aA)=true/\Al (D.map aA)=false/\((jd (D.map aA)).map (·.length)).sum<=42*D.length/\(jd (D.map aA)).length=D.length:=λ{D} h=>by
  induction D with
  | nil=>exact⟨rfl,rfl,by simp[jd],rfl⟩
  | cons r D ih =>
   obtain⟨a,b,d,c⟩:=ih λ m f=>h m (dq _ f);obtain⟨u,ok⟩:=h r eV;obtain⟨g,p,l,o⟩:=kJF ok;have s:=kEW l o;refine⟨?_,?_,?_,?_⟩
   ·rw[eX,AN,a]
    unfold aA;rw[DP,g]
    rfl
   ·rw[eX,Al,b]
    unfold aA;rw[GF,p]
    rfl
   ·rw[eX,jd,eX,Dc,eh]
    have:(aA r).shown.length<=11*r.length+2*r.length+3:=s;omega
   ·rw[eX,jd,eh,c];rfl
 obtain⟨a,b,d,c⟩:=all h;have q:=(kKF D).2;refine⟨?_,?_,?_,?_⟩
 ·unfold fO;rw[DP,a]
 ·unfold fO;rw[GF,b]
 ·unfold fO;rw[rj];omega
 ·have:=kEW d c
  exact fz this (fz (show _<=3000 by omega) (by decide))
def kGR{H d a:Hp}{p:ay}(g:Same H d)(n:H p=none)(b:SameBut p d a):Same H a:=λ c o e=>b c o (kF e n) (g c o e)
def kSQ(B:Fx){f:ay}{fd:ur}(F:Fun K "law" "law" kFU f fd):FnOk P w K mg base CX0 10 f fd ["_law_script"] (nY K):=by
 refine F.ok sc_law (λ vs H Q E h=>?_) (λ b4 A as s H vs Q E m h=>?_)
 ·obtain⟨a,X,rfl,_⟩:=h
  rfl
 obtain⟨a,X,rfl,hS,aq,q⟩:=h
 refine⟨_,(kD (dZ (jT rfl (B.z B.y4) (p1 (kM (pK rfl) rfl (B.z B.y1) DW (p2 kN (kM (kJV rfl) rfl (B.z B.y7) DX (p2 kN (kM kP rfl (B.z B.y0) eg (p1 (pv 0))))))))) (pgn 1 sc_law.nd) (kD (pst 2 sc_law.nd (pf (kDU B) m (p2 (pv 0) (pv 1))))
   (kD (pst 3 sc_law.nd (pf (kDT B) m (p2 (pv 2) (qB xU kN (pf (jG B) m (p2 (pv 2) kN))))))
   (kD (pst 4 sc_law.nd (pf (kAY B) m (p2 (pv 2) (pv 3))))
   (kD (pst 5 sc_law.nd (pf (sC B) m (kE (pv 2) (kE (pv 3) (kE (pv 4) kU)))))
   (kD (pst 6 sc_law.nd (pf (sB B) m (kE (pv 3) (kE (pv 4) (kE (pv 5) kU)))))
   (kD (pst 7 sc_law.nd (pf (kAV B) m (kE (pv 3) (kE (pv 4) (kE (pf (sE B) m (p2 (pv 4) (pv 5))) kU)))))
   (kJ (xH (PW.pt (kGA (qJ oP (kM (mJ m.gd m.units) rfl (B.z B.y18) DF (p1 (pv 7))) (kM (mJ m.gd m.units) rfl (B.z B.y18) DF (p1 (pv 6))) (qS _)) (rR (qJ kIP (pf (kAZ B) m (kE (pv 3) (kE (pv 4) (kE (pv 7) kU)))) vJ (qS _))))) (kJ (kS vJ)) qM)))))))))
   (kJ (kS vJ))),?_⟩
 try dsimp only[qQ]
 have hl:(X.map V.int).length=X.length:=aj _;refine⟨_,rfl,a,_,rfl,.inl hS,3,_,rfl,1,_,rfl,?_⟩;rw[hl];generalize hj:(if(if(X.length:Int)<3 then(X.length:Int) else 3)>1 then(if(X.length:Int)<3 then(X.length:Int) else 3) else 1)=j;have j0:0<=j:=by rw[<-hj];split<;>omega
 have j1:j<=63:=by
  rw[<-hj]
  split
  ·split<;>omega
  ·omega
 refine⟨j,rfl,by omega,by omega,xP (lo:=0) (n:=j.toNat) (λ i σ H2=>∃(x1 x2 x3 x4 x5 x6 x7:Option V),σ=[some (.ref a),x1,x2,x3,x4,x5,x6,x7]/\Same H H2)
  ⟨none,none,none,none,none,none,none,rfl,Same.refl H⟩ ?_ ?_⟩
 ·rintro i σ H2 hi ⟨x1,x2,x3,x4,x5,x6,x7,rfl,g⟩
  refine⟨_,rfl,_,rfl,a,X,_,rfl,g.seq hS,aq,(by omega),(by omega),λ p x y H3 hx g3 U hp=>?_⟩;have M:H p=none:=g.free U;have gA:Same H H3:=g.trans g3;have pA:PotAt H3 p:=⟨x,y,hp,hx⟩;refine⟨_,rfl,_,rfl,p,12,rfl,pA,by decide,mW (by decide),λ d H4 d0 d1 s4 p4=>⟨_,_,rfl,rfl,?_⟩⟩;obtain⟨dn,rfl⟩:=pd d0;have g4:=kGR gA M s4;refine⟨p,3+dn,rfl,p4,by omega,by omega,λ w W H5 s5 p5 hW lW G b3=>?_⟩;have g5:=kGR g4 M s5;have L:W.length<=42:=by omega
  refine⟨_,rfl,_,rfl,p,w,W,rfl,p5,hW,G,L,λ z l c C H6 s6 p6 nz hz I v=>?_⟩;have g6:=kGR g5 M s6;have Y:=hW.pot s6 p5;refine⟨_,rfl,_,rfl,_,rfl,p,w,z,W,l,c,C,rfl,p6,Y,G,L,hz,I,v,λ sp rest sa ss H7 s7 p7 af a2 a5 a7 PS=>?_⟩;have g7:=kGR g6 M s7;have a0:=Y.pot s7 p6;obtain⟨px,py,am,_⟩:=id p6;have a1:=s7 z _ (λ e=>by rw[e,am]at hz;cases hz) hz;have S:=(Wb.of G).toNb;obtain⟨bz,rb,nb,b0⟩:=xO S I
  have hb:Tri.R W C c l:=by
   have:=v;rw[nb]at this;obtain rfl:bz=c:=this;exact rb
  obtain⟨pm,Ts,la⟩:=PS.laid G hb;have O:=Hist.of G pm hb la;have wd:=O.woods G hb;have ab:=PS.len;refine⟨_,rfl,_,rfl,_,rfl,w,z,sp,W,l,c,C,rest,sa,ss,Ts,rfl,a0,L,a1,a2,a5,a7,ab,G,O,λ du H8 k8 ak ax=>?_⟩;have ap:H sp=none:=g6.free af;have g8:Same H H8:=λ b o e=>k8 b o (kF e ap) (g7 b o e);have Z:∀{b:ay}{o:HO},H7 b=some o->(∀ ah,o≠.dK ah)->H8 b=some o:=λ{b o} e n=>k8 b o (λ q=>by rw[q,a2]at e;cases e;exact n _ rfl) e;have a3:=Z a1 (λ _ q=>by cases q)
  have a6:WebAt H8 w W:=by
   obtain⟨ts,h1,h2,h3⟩:=a0;exact⟨ts,Z h1 (λ _ q=>by cases q),h2,λ j a row e1 e2=>Z (h3 j a row e1 e2) (λ _ q=>by cases q)⟩
  have T:Tr W:=⟨S,L,(zK G).1,(zK G).2⟩
  have lr:rest.length<=42:=by
   have:=pm.length_eq;simp at this;omega
  have ac:Tri.E W l c:=by
   obtain⟨z',m1,m2,m3,e1,e2⟩:=kEY S T.three I;rw[m1]at v;obtain rfl:z'=c:=v;exact S.sym _ _ e2
  clear hW Y a0 hz a1 a7 a2;refine⟨_,rfl,_,rfl,_,rfl,_,rfl,z,sp,l,c,C,rest,sa,rfl,a3,ak,a5,lr,λ o H9 g9 ho=>?_⟩;have GG:Gw H9 w z o W (l::c::rest.reverse) l c C:=⟨a6.kept g9,T,g9 _ _ a3,ho,pm,G.three,ac⟩;refine⟨w,z,o,W,_,l,c,C,ss.reverse,Ts,rfl,GG,G,⟨I,v⟩,la,λ N b2 ag J=>?_⟩;have u:=g9.trans ag;have a4:=ax.kept u
  have al:∀ r∈wdF W.length l c C (l::c::rest.reverse) ss.reverse,r.length<=3/\∀ n∈r,n<1024:=λ r m=>by
   obtain⟨i,hi,e⟩:=wy m;have a8:i<W.length:=by rw[<-wd.len];exact hi
   have er:(wdF W.length l c C (l::c::rest.reverse) ss.reverse).getD i []=r:=by rw[ai,aa hi];exact e
   refine⟨by rw[<-er];exact wd.le3 a8,λ n U=>?_⟩;rw[<-er]at U;by_cases cb:i=l\/i=c\/i=C
   ·rw[wd.base i cb]at U
    cases U
   ·obtain⟨x,y,z',row,e2,aw,m1,m2,m3,_⟩:=wd.sorted S a8 (λ q=>cb (.inl q)) (λ q=>cb (.inr (.inl q))) (λ q=>cb (.inr (.inr q)))
    have rg:=λ x hx=>(S.rng _ _ x aw hx).1;rw[e2]at U;simp only[cy,gj,or_false]at U;rcases U with rfl | rfl | rfl
    ·have:=rg _ m1;omega
    ·have:=rg _ m2;omega
    ·have:=rg _ m3;omega
  obtain⟨s1,s2,s3,a9⟩:=kHQ al (by rw[wd.len];exact L);generalize wdF W.length l c C (l::c::rest.reverse) ss.reverse=D at *;refine⟨_,rfl,N,fO D,rfl,J.dt,s1,s2,s3,a9,_,rfl,du,fO D,rfl,a4.dt,s1,s2,s3,a9,rfl,_,rfl,?_⟩;rw[decide_eq_true rfl];refine xE ?_;refine⟨_,rfl,_,rfl,_,rfl,w,z,N,W,D,l,c,C,rfl,a6.kept u,u _ _ a3,J,T,I,v,wd,λ b1 an=>?_⟩;exact⟨true,true,rfl,rfl,_,rfl,xE ⟨_,_,_,_,_,_,_,rfl,g8.trans (u.trans an)⟩⟩
 ·rintro σ H2 ⟨x1,x2,x3,x4,x5,x6,x7,rfl,g⟩
  exact q H2
end
def all_mk{l:DH}{w:gk}{K:bb}{h:iD}{mg:Str->Option ao}{a:ay}(X:K.In h)(G:h.Ns ed mg)(b:mg "law" = some (.ref a))(B:FxG K mg):∃ fd:ur,(∀(s:av)(v:ao),ET s fd ⟨[v],[]⟩ [("_law_script",v)])/\∀ base:iD,K.In base->base.Ns ed mg->FnOk l.prog w K mg base CX0 10 a fd ["_law_script"] (nY K):=by
 obtain⟨f,fd,e,F⟩:=B.d42
 cases b.symm.trans (Du X G e)
 refine⟨fd,λ s v=>?_,λ base _ _=>?_⟩
 ·obtain⟨A,q,kV,c,x,y,g,u,d,rfl,_⟩:=F.ex
  exact .of_eq rfl
 refine iH λ n=>?_;obtain⟨p,r,i,m,o⟩ : Bad c0:=Classical.epsilon_spec ⟨⟨l.prog,w,K,mg,base⟩,B,a,fd,F,n⟩;exact o (kSQ p m)
def walk{l:DH}{q:eU}{loose:List Str}{o:(Str->Option ao)->iD->Prop}{g:gk->iD->Prop}{d:DefRec}{K:HV->bb}(v:l.most=some 63)(b:d.params.defaults=[])
  (r:∀(w:gk)(h:iD),g w h->(K w.params).In h)
  (F:∀(w:gk)(mg:Str->Option ao)(c:ay)(h:iD),(K w.params).In h->h.Ns ed mg->mg d.name=some (.ref c) ->
   ∃ fd:ur,(∀(s:av)(u:ao),ET s fd ⟨[u],[]⟩ [("_law_script",u)])/\∀ base:iD,(K w.params).In base->base.Ns ed mg->FnOk l.prog w (K w.params) mg base CX0 10 c fd ["_law_script"] (nY (K w.params))) :
  Gj q loose o g l.row.toRowW d [] (λ f vs=>Fw f vs) :=
 L2.walk_of (n:=63) (k:=10) (x:="_law_script") (CX:=λ _=>CX0) (sp:=λ w=>nY (K w.params)) v (by decide) b ⟨rfl,by decide,by decide,rfl⟩ r F (λ _ _ a m i _ p=>⟨a,m,rfl,p,i,λ _=>rfl⟩) λ _ _ _ _ _ z=>z
end Prf
namespace PySem.W.Fast
def tw4251510160947205547:=0
def tw17122448701445301029:=0
def tw14060600143929700463:=0
def tw7290938967893001737:=0
def tw12300899651336028220:=0
def tw9067360230950607112:=0
def tw9987215787243056772:=0
def tw6616414235769809387:=0
def tw15641984341874133177:=0
def tw4499429103328983993:=0
def tw7635185034001395812:=0
def tw16258423477121294028:=0
def tw5813290162838420891:=0
def tw11027082606794390186:=0
def tw18402120213690851013:=0
def tw16327858479753259436:=0
def tw2338445928407497140:=0
def tw11943749327323463479:=0
def tw14953835769954237637:=0
def tw12931119306499483693:=0
def tw9694767329474962401:=0
def tw5168191604203237829:=0
def tw16613310290876422378:=0
def tw4127302032019417424:=0
def tw14831830118461555609:=0
def tw18396116135604458895:=0
def tw509630865702070692:=0
def tw13788003154673493775:=0
def tw5391290512723573860:=0
def tw1593111505644672700:=0
def tw3344194692388445832:=0
def tw9857470927223109673:=0
def tw14980763044635963123:=0
def tw18378344205757506845:=0
def tw11626779111700602180:=0
def tw3038658701885267018:=0
def tw7802252710082178874:=0
def tw14210980511118214084:=0
def tw11912603147403416551:=0
def tw710968266996949939:=0
def tw8861413514478242433:=0
def tw8825605582941281983:=0
def tw16621542264752447501:=0
def tw16108061844047637596:=0
def tw15340757097605920739:=0
def tw11824432194723992272:=0
def tw3124190106580238718:=0
def tw13068079738132308951:=0
def tw4242557802856155019:=0
def tw18429837820085264195:=0
def tw14762472479867578069:=0
def tw10113399481969045565:=0
def tw57348576034051944:=0
def tw5306413466449455817:=0
def tw16602556529363349671:=0
def tw13500474109720735510:=0
def tw4321063947059191567:=0
def tw9197670656265435543:=0
def tw5651688398894284652:=0
def tw8526198533342727429:=0
def tw8743701589993550406:=0
def tw14829123439802739214:=0
def tw10285789513362628442:=0
def tw17688521585850589172:=0
def tw6176020536936562134:=0
def tw5488249162813652696:=0
def tw12240912844552284822:=0
def tw9583006118101763493:=0
def tw10013592577541676710:=0
def tw7929458408962735460:=0
def tw5381759713108222467:=0
def tw6585898057044642629:=0
def tw7743989604959575595:=0
def tw18027290225156620941:=0
def tw6651583302544198703:=0
def tw8733315568871084463:=0
def tw17195780958111924816:=0
def tw16886300747710629905:=0
def tw11174497212841333714:=0
def tw6175693949547973812:=0
def tw15846309329268679991:=0
def tw12831600216694701753:=0
def tw12085242270662043641:=0
def tw2851049406622882714:=0
end PySem.W.Fast
open PySem PySem.W PyProof.Rows
set_option maxRecDepth 100000 in
set_option maxHeartbeats 0 in
theorem PySem.Challenge.cw_restdraw_k71_woods_of_an_order_holds : PySem.Challenge.rw_restdraw_k71_woods_of_an_order.Holds := by
 w_on;o_law;k_head;(case hw=>w_witness2)
 k_fill
 refine Prf.walk (l:=CD) rfl rfl (λ w h Y=>PySem.W.kIn_of Y) ?F
 case F =>
  intro w mg fa h KX G hmg;refine' Prf.all_mk KX G hmg ?_;apply Prf.FxG.mk ⟨_,KX,G⟩<;>first | (refine' L2.df_mk ?a ?l ?c ?k;(case a=>k_is);(case l=>k_is);(case c=>k_is);(case k=>k_is)) | (refine' L2.cn_mk ?a ?l ?v;(case a=>k_is);(case l=>k_is);(case v=>first | rfl | decide)) | k_is
