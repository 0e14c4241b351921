import PyProof.Rows.All
import Wide.All
import OpenK.AllK
import Wide.FinOn
import Lean
import PyProof.EqAt
import PyProof.EqKinds
import PyProof.TupleCall
import PyProof.Rows.SortRunsK
import PyProof.Rows.Walk
import KE.KSortTup
import PyProof.ListRange
import PyProof.Rows.SetFrom
import PySem.Challenge.RW_restdraw_k66_whole_mirrored_and_renamed
set_option Elab.async false
set_option linter.all false
set_option maxRecDepth 100000
local macro_rules | `(tactic| omega)=>`(tactic| lia)
noncomputable section
open List renaming getElem?_eq_getElem->ae,length_map->aj,getElem?_eq_some_iff->ak,getD_eq_getElem?_getD->ao,getElem?_map->bb,getElem?_append_left->bq,length_append->bu,mem_append->bz,range->cf,mem_singleton->cg,getElem?_append_right->cq,map_append->cu,nodup_append->cy,mem_append_right->dc,mem_append_left->df,mem_of_getElem?->dh,append_assoc->di,length_take->dq,getElem?_concat_length->dr,mem_cons_of_mem->du,mem_cons->eA,pairwise_append->eD,dropLast_concat_getLast->eK,mem_iff_getElem->eO,mem_cons_self->eP,getElem?_set_ne->eW,size_toArray->eY,map_cons->eZ,getLast?_eq_some_getLast->eo,reverse->fc,mem_map->fe,length_singleton->fj,idxOf_lt_length_of_mem->fq,length_range->fu,take_append_drop->fv,nodup_cons->gh,replicate->gj,length_cons->iJ,take_length->iL,mem_range->iP,getElem_mem->iR,getLastD_eq_getLast?->iS,length_drop->iZ,getLast?_cons_cons->ig,mem_filter->ip,append_nil->iq,length->jb,take_succ->jd,getElem?_eq_none->jr,getLast?_append->kh,getElem?_zip_eq_some->kj,getElem?_set_self->kl,perm_append_comm->lj,take_of_length_le->md,pairwise_map->me,cons_append->mj,not_mem_nil->ml,length_filter_le->og,drop_eq_nil_of_le->oq,mem_reverse->ou,nil_append->pd,length_eq_zero_iff->pe,pairwise_singleton->ph,pairwise_iff_getElem->qb,flatMap_append->qi,perm_ext_iff_of_nodup->qj,nodup_range->qk,mem_of_mem_tail->ql,extract_eq_take_drop->qm,getElem?_take_of_lt->sd,map_map->sh,Nodup->tz,getElem?_range->ua,filter_append->ud,map_congr_left->um,length_replicate->uo,getLast?_eq_getElem?->uq,find?_cons->uw,mem_of_mem_take->uz,reverse_cons->vf,all_eq_true->vg,mem_flatMap->vh,filter_cons->vy,mem_of_getLast?->wb,foldl_cons->wg,length_flatMap->wk,length_pos_iff->wo,replicate_succ->wu,range'_succ->wx,length_reverse->wz,map_take->xb,filter_cons_of_pos->xc,filter_cons_of_neg->xg,take_append_of_le_length->xi,take_sublist->xm,flatMap_singleton->xu,flatten_cons->yf,idxOf_append->yh,getElem?_inj->yj,filterMap_cons->ym,length_nil->yo,take_left'->yq,reverse_append->yt,nodup_nil->yx,zipIdx_cons->yy,getElem_map->yz,map_snd_zip->zd,drop_eq_getElem_cons->zf,take_succ_cons->zh,append_of_mem->zo,of_mem_zip->zx,forIn_cons->zy,getElem_idxOf->AF,getElem_inj->AH,range'->AJ,eraseIdx_append_of_length_le->AK,drop_drop->AR,getElem_take->AU,ext_getElem?->AV,reverse_perm->AW,filter_eq_nil_iff->AY,flatMap_cons->AZ,map_drop->Aa,pairwise_reverse->Ac,mem_iff_getElem?->Ae,lookup_cons->Ag,drop_append->Ai,map_fst_zip->Am,length_zip->An,any_cons->Ao,sum_cons->Ap,cons_ne_nil->Aw,reverse_reverse->Ax,drop_append_of_le_length->Ay,length_set->BA,zipIdx_nil->BC,mergeSort_perm->BI,forIn_nil->BX,range_succ->BY,nodup_iff_pairwise_ne->Ba,take_take->Bb,pairwise_cons->Be,zip_cons_cons->Bf,find?_eq_none->Bg,getElem?_drop->Bh,mem_replicate->Bj,filter_nil->Bk,getElem_drop->Bv,getLast?_map->Bw,ext_getElem->CK,perm_middle->CL,take_zero->CM,pairwise_lt_range->Cc,length_eq_one_iff->Cd,drop_left'->Cm,pairwise_flatMap->Ct,getElem?_reverse->Cu,mem_of_mem_drop->Cz,idxOf_cons_self->DC,replicate_succ'->DF,filter_eq_self->DI,map_eq_nil_iff->DJ,mem_filterMap->DU,filterMap_map->DV,getElem?_take->Dc,map_singleton->De,map_nil->Do,foldl_append->EA,mem_of_head?->EF,any_eq_true->EO,flatMap_def->ER,sum_append->Ec,zip_append->Ee,foldl->Ep,drop_take->Ex,drop_zero->Ey,tail_cons->FA,all_cons->Fe,map_tail->Fk,take->Fy,all_map->GF,map_id->GZ,drop->Gm
open PySem renaming wpAny_bind->ai,Value->au,Addr->av,Shared->az,wpAny_pure->bg,wpAny->dj,Program->eX,boot_len->fb,Around->fk,mainGlobals->gn,World->iN,wpAny_newObj_type->iO,wpAny_field->iQ,Heap->iV,Expr->iW,wpAny_callSpecial?_slot->jc,wpAny_seqItems->jz,wpAny_setField_rec->km,wpAny_holding->kr,wpAny_call_entry->ky,mem_of_lookup->oh,wpAny_comprehension_free->ox,Stmt->oz,wpAny_truthy_bool->qe,wpAny_newFunctionEnv->sj,wpAny_dictEntries->so,FuncData->ue,NameKind->uf,wpAny_passesOwn->uu,Fin->ux,wpAny_mono->we,wpAny_onRaise->wj,Scope->wq,IsZip->xh,wpAny_pyIter_tuple->xk,wpAny_rule->xp,wpAny_standAt->ya,IsPair->yd,wpAny_typeOf->yw,Model->zi,wpAny_attempt->zr,Builtin->AA,wpAny_loadPart'->AB,tupleKind_room_in1->AE,call_meets->Af,wpAny_forIn_list->Ah,wpAny_pyIter_zip->Al,wpAny_updateSeq_pair->As,wpAny_letGo->Au,wpAny_execs_nil->Az,wpAny_dictEpoch->BF,sizeLine->BN,wpAny_Call_Name_kw->BS,wpAny_letOwnedTupleGo_zip->Bm,wpAny_assign_Name->Bp,wpAny_pyIter_list->Bq,sizeLine_eq->Br,wpAny_sequenceKey->Bs,noFill_tuple_add->CH,DictEntry->CI,wpAny_isInstance->CO,IsPart->CT,PyData->CY,wpAny_specialOf->Ck,size_of_entries->Cp,wpAny_isTrue_Compare1->Cr,exec_Assign_Name_used->Cs,wpAny_newTuple->Cy,seq_tuple_add->DL,evalPart_none->DN,Comprehension->DO,wpAny_newList->DP,BindsTo->Dh,codeAny_mono->Di,concat_meets->Dj,seqIndex_neg->Dk,slot_list_getitem->Dl,callType_new->Dr,wpAny_pyIter_enum->Ds,arm_eval_DictComp->Dv,atKey_none_of_get->EC,wpAny_eqBool_int->EH,wpAny_execs_cons->EI,seqIndex_of->ET,Draws->EU,wpAny_tests_nil->EY,codeAny_builtin->Ed,Keyword->Ef,Paired->Eg,wpAny_Name->Eh,typeIs_int->Eo,fitsIndex_both->Er,call->Es,wpAny_setField->Et,isSubtype_stop->Ez,PassesOwn->Fn,Within->Fz,CmpOp->GS,Params->Gc,Code->Gk
open PySem.Heap renaming get?_push_of_some->ar,lt_size->cj,get?_push_size->ck,size_push->ir,SameBut->iz,get?_update_self->qz,get?_update_ne->zg,get?_update_other->CV,get?_push_cases->Cw
open PySem.W renaming Frag->be,nsIn->ju,kia_one->mo,fnOf->vd,keepIn->AL,codeIn->BU,methodObj->Bn,cellsFrom_some->CQ,instObj->Ci,OpenLaw->Cj,lookIn->Cv,kitx_list->Df,kitx_dict->Dg,plainGet->EJ,findIn->Ek,kitOne->El,WalkO->Ff,mg_of->Fg
open Nat renaming le_refl->bf,lt_of_lt_of_le->cv,ne_of_lt->dw,le_of_lt->gk,zero_le->iH,lt_or_ge->iY,ne_of_gt->ja,lt_of_le_of_lt->jj,le_trans->jt,min_eq_left->ni,lt_irrefl->rj,sub_add_cancel->uk,add_assoc->yc,lt_trichotomy->yg,lt_succ_of_lt->yi,add_comm->AN,le_succ->Aq,strongRecOn->BG,lt_succ_self->CJ,zero_add->CZ,mul_le_mul_left->DK,add_sub_cancel->Da,add_zero->Dy,sub_self->Dz,sub_zero->EE,le_of_eq->GC,div_one->GY
open Option.some renaming inj->bh,injEq->Gi
open PyProof.Rows renaming Keyed->bj,wpS_bind->cm,pendingOf->cw,arrOf->cx,wpS_pure->de,SortSt->eN,boot_tuple->gy,slot_tuple_getitem->iD,callWith_type1->iu,wpS_forRange->jw,SortKind->oy,wpS_modify->qa,boot_sorted->si,wpS_mono->vi,failedOf->vj,boot_isinstance->xx,wpS_get->AC,boot_all->Ad,reverseSlice'_eq->Aj,get?_update_seq->BD,entry_tuple_getitem->BH,slicePart_none->BV,args_tuple_getitem->BW,AllBare->Bo,listUpdate_at->CA,subscriptTail_builtinR->CU,boot_list->Ce,tupleItemsOf_->DM,Subscript_->DW,IntsAre->Dm,listItems_at->EB,callWith_builtin1->EK,IsTup->ES,seqEpoch_at->EV,boot_range->Ej,Call_->Fv,args_cons->GE,boot_bool->GH,args_nil->GK,boot_max->GM,boot_abs->GN,boot_min->GO,boot_int->GP,wpS_lift->GX,lt_int->Gb
open Option renaming map_eq_some_iff->bp,toList_some->rh,map_some->xw,isSome_iff_exists->zj,getD_some->CP,map_eq_none_iff->Cf,isSome_map->Dq,getD_none->EL,none->GU,map->Gg
open Bool renaming false_ne_true->eC,false_eq_true->eE,and_eq_true->iI,eq_iff_iff->iX,not_true->zq,or_eq_true->Co,not_eq_true'->Dx,false_and->Ei,not_false->Ew
open Classical renaming byContradiction->eR,choose_spec->rg,choose->xa
open List.Nodup renaming length_le_of_subset->eV
open PySem.Builtin.SmallTypes renaming nextOf->gv,ownedTupleIsFree->iA,ownedTupleHandOut->om
open Sum renaming inl->gw,inr->DG
open Array renaming length_toList->iE,toList_append->iG,size_push->iw,size_extract->ko,getElem?_toList->ow,mem_toList_iff->va,toList_extract->vk,toList_push->vw,size_append->yk,toList_reverse->yr,toList_setIfInBounds->Bc,getElem_mem->Bu,size_setIfInBounds->Bz,toList_modify->DH,size_reverse->DZ,isEmpty_iff->ED,toList->GA,getD->Gf
open PySem.PyData renaming eqvAll->iU,eqv->ie,canLayAll0->jh,canLay0->ka,int->kb,depthAll->kq,depth->nj,tuple->Cg
open ForInStep renaming yield->je,done->yp
open PySem.SeqAt renaming shaped->jg,EqAt->Em
open PySem.Builtin.Tuple renaming tupleExact->ji,tupleItemsOf->yn,tupleIsExact->Eu,tupleHashOf->FM
open PySem.F renaming slot_list_append->jo,type_list_append->jq,slot_list_index->mf,type_list_index->mh,slot_zip_next->tw,slot_tuple_iterator_next->uj,args_tuple_add_2->zk,plainAttrs_tuple->zt,slot_tuple_index->zu,type_tuple_index->zw,entry_tuple_add->AI,slot_tuple_add->AM,args_zip_next_1->AX,entry_zip_next->Ak,slot_dict_itemiterator_iter->Av,args_tuple_iterator_next_1->BB,entry_tuple_iterator_next->BK,slot_dict_update->CB,slot_list_insert->CC,type_list_insert->CD,slot_list_remove->CF,type_list_remove->CG,slot_dict_items->Du,slot_int_rmul->EX,entry_zip_new->EZ,called_zip->GD
open PySem.Heap.SameBut renaming update->jv,refl->AO
open PySem.Value renaming ref->jx,int->ur,none->AD,bool->BO,type->BP,str->EG,isStrOf->FO,isInt->GQ,float->GR
open Int renaming toNat_natCast->kg,eq_ofNat_of_zero_le->qc,zero_add->wc,fdiv_eq_ediv_of_nonneg->BR,emod_lt_of_pos->Bi,emod_nonneg->Cq,ediv_one->GB
open PySem.Builtin.Slice renaming slicePlaces->ki,sliceApplied->ug,sliceAdjust->ze,sliceFields->Bl,slicePartIndex->EW
open Prod renaming snd->qh,ext->qv,fst->BZ
open Std.Legacy.Range renaming forIn_eq_forIn_range'->sk,size->Ab
open True renaming intro->tm
open Ne renaming symm->ub
open PySem.Obj renaming mapSeq->uh,data_mapDictKeys->yu,isFreed_of_dict->BJ,data_mapFields->DY,data_mapDict->EN
open Or renaming inl->ui,inr->EM
open List.Perm renaming trans->uy,append_right->xt,append_left->ye,refl->AQ,swap->DB
open PySem.Str renaming ofString->ve
open PySem.Paired renaming length->wd,snoc->GV
open False renaming elim->xj
open PySem.Builtin.List renaming listTooLong->zm,listExtendWith->BM
open Sum.inl renaming inj->AG
open PySem.Shared renaming heap->Ar
open PySem.Builtin.Dict renaming entriesForEmpty->BE,updateFrom->CN,mergeDict->Cb,quietEq->DA,readDirectly->FN,selfAndRest->Fi,addKeywords->Fj,showsAll->GJ,merge->Gh
open Iff renaming rfl->BL
open PySem.Calls renaming Name_function_global->BQ,callWith_builtin->CW
open List.Pairwise renaming nil->Bt,imp_of_mem->By,of_map->DD,map->Dw
open PySem.NameKind renaming free->Bx
open PyProof.Rows.SortSt renaming mk'->Ca
open PySem.SeqAt.EqAt renaming int_str->DQ,str_int->DR
open PySem.Heap.IsSliceOf renaming new->DX
open PySem.PassesOwn renaming never->Ea
open PySem.Heap.DictOf renaming new->Eb
open PySem.EqNone renaming eq_none_none->FB,eq_none_bool->FC,eq_bool_none->FD,ne_none_none->FG,ne_none_bool->FH,ne_bool_none->FJ,eq_none_int->FP,eq_none_str->FQ,eq_int_none->FR,eq_str_none->FU,ne_none_int->FW,ne_none_str->FX,ne_int_none->FY,ne_str_none->Fb
open PySem.EqMixed renaming eq_bool_str->FE,eq_str_bool->FF,ne_bool_str->FK,ne_str_bool->FL,eq_int_str->FS,eq_str_int->FV,ne_int_str->FZ,ne_str_int->Fd
open PySem.W.Looks renaming of_pure->Fh
open List.cons renaming inj->Fm
open PySem.Builtin.Range renaming rangeSize->Fo
open And renaming intro->Fw
open PySem.IsRange renaming new->GT
open PySem.MeetsSeq.EqGives renaming int->GW
open PySem.Builtin.Int renaming intBits->Ga
open PySem.W.WShape renaming has->Gd
open PUnit renaming unit->Ge
open PySem.W.WData renaming int->Gj
def yS0:0<=BN:=by decide
def yS1:1<=BN:=by decide
def yS2:2<=BN:=by decide
def yS3:3<=BN:=by decide
namespace L2
open PySem PySem.Spec PyProof.Rows
abbrev Key:=Sum Int Str
def mE:Key->au->Bool
 | .inl k,v=>GQ k v
 | .inr x,v=>FO x v
def kWJ(w:iN):Key->Int
 | .inl k=>hashInt k
 | .inr x=>hashStr w x
def qZ:∀{k:Key}{v:au},mE k v=true->(∃ i t,k=gw i/\v=ur i t)\/(∃ x t,k=DG x/\v=EG x t)
 | .inl i,v,h=>by
  obtain⟨t,e⟩:=Value.isInt_shape (k:=i) (v:=v) h;exact .inl ⟨i,t,rfl,e⟩
 | .inr x,v,h=>by
  obtain⟨t,e⟩:=Value.isStrOf_shape (x:=x) (v:=v) h;exact .inr ⟨x,t,rfl,e⟩
def kIM(i:Int)(t:Tok):mE (.inl i) (.int i t)=true:=by simp[mE,GQ]
def kIL(x:Str)(t:Tok):mE (.inr x) (.str x t)=true:=by simp[mE,FO]
def kTC(a b:Int):decide ((gw a:Key)=gw b)=(a == b):=by
 by_cases e:a=b
 ·subst e;simp
 ·have h:¬ (gw a:Key)=gw b:=λ q=>e (AG q)
  rw[decide_eq_false h];exact(beq_eq_false_iff_ne.mpr e).symm
def kSZ(a b:Str):decide ((DG a:Key)=DG b)=decide (a=b):=by
 by_cases e:a=b
 ·subst e;simp
 ·have h:¬ (DG a:Key)=DG b:=λ q=>e (Sum.inr.inj q)
  rw[decide_eq_false h,decide_eq_false e]
def kTB(a:Int)(b:Str):decide ((gw a:Key)=DG b)=false:=decide_eq_false (λ q=>nomatch q)
def kTA(a:Str)(b:Int):decide ((DG a:Key)=gw b)=false:=decide_eq_false (λ q=>nomatch q)
def qH(prog:eX)(w:iN):PySem.KeyKind prog w Key where
 is:=mE
 hash:=kWJ w
 inj:=λ v a b f d=>by
  rcases qZ f with⟨i,t,rfl,rfl⟩ | ⟨x,t,rfl,rfl⟩
  ·rcases qZ d with⟨j,u,rfl,e⟩ | ⟨y,u,rfl,e⟩
   ·injection e with e1 _;rw[e1]
   ·exact nomatch e
  ·rcases qZ d with⟨j,u,rfl,e⟩ | ⟨y,u,rfl,e⟩
   ·exact nomatch e
   ·injection e with e1 _;rw[e1]
 byValue:=λ k v h=>by
  rcases qZ h with⟨i,t,rfl,rfl⟩ | ⟨x,t,rfl,rfl⟩<;>rfl
 pyHash:=λ c h=>by
  rcases qZ c with⟨i,t,rfl,rfl⟩ | ⟨x,t,rfl,rfl⟩
  ·exact wpAny_pyHash_int h
  ·exact wpAny_pyHash_str h
 eqBool:=λ g c h=>by
  rcases qZ g with⟨i,t,rfl,rfl⟩ | ⟨x,t,rfl,rfl⟩
  ·rcases qZ c with⟨j,u,rfl,rfl⟩ | ⟨y,u,rfl,rfl⟩
   ·rw[kTC]at h;exact EH h
   ·rw[kTB]at h;exact DQ i t y u _ _ _ _ h
  ·rcases qZ c with⟨j,u,rfl,rfl⟩ | ⟨y,u,rfl,rfl⟩
   ·rw[kTA]at h;exact DR x t j u _ _ _ _ h
   ·rw[kSZ]at h;exact wpAny_eqBool_str h
 «strs»:=λ k x t v h=>by
  rcases qZ h with⟨i,u,rfl,e⟩ | ⟨y,u,rfl,e⟩
  ·exact nomatch e
  ·injection e with e1 _
   subst e1;cases v<;>rfl
def kDI(prog:eX)(w:iN)(k:Key)(v:au):(qH prog w).is k v=mE k v:=rfl
def kAY(prog:eX)(w:iN)(i:Int)(t:Tok):(qH prog w).is (.inl i) (.int i t)=true:=kIM i t
def kAX(prog:eX)(w:iN)(x:Str)(t:Tok):(qH prog w).is (.inr x) (.str x t)=true:=kIL x t
inductive V where
 | non | bl (b:Bool) | int (i:Int) | str (x:Str) | byt (b:Array UInt8) | flt (b:UInt64) | ref (a:av) | ty (n:String)
 deriving DecidableEq
def RelV:V->au->Prop
 | .non,u=>u=AD
 | .bl b,u=>u=BO b
 | .int i,u=>∃ t,u=ur i t
 | .str x,u=>∃ t,u=EG x t
 | .byt b,u=>∃ t,u=Value.bytes b t
 | .flt b,u=>∃ t,u=GR b t
 | .ref a,u=>u=jx a
 | .ty n,u=>u=BP n
abbrev Vals:List V->List au->Prop:=Eg RelV
theorem Vals.length{xs:List V}{a:List au}(r:Vals xs a):xs.length=a.length:=wd r
theorem Vals.get:∀{xs:List V}{a:List au}{i:Nat}{x:V},Vals xs a->xs[i]?=some x->∃ u,a[i]?=some u/\RelV x u
 | _,_,_,_,.nil,e=>by simp at e
 | _,_,0,_,.cons r _,e=>by simp at e;subst e;exact⟨_,rfl,r⟩
 | _,_,i+1,x,.cons _ t,e=>by
  obtain⟨u,h1,b⟩:=Vals.get (i:=i) (x:=x) t (by simpa using e);exact⟨u,by simpa using h1,b⟩
theorem Vals.set{x:V}{u:au}(r:RelV x u):∀{xs:List V}{a:List au}(i:Nat),Vals xs a->Vals (xs.set i x) (a.set i u)
 | _,_,_,.nil=>.nil
 | _,_,0,.cons _ t=>.cons r t
 | _,_,i+1,.cons q t=>.cons q (Vals.set r i t)
theorem Vals.append:∀{xs ys:List V}{b a:List au},Vals xs b->Vals ys a->Vals (xs++ys) (b++a)
 | _,_,_,_,.nil,s=>s
 | _,_,_,_,.cons r t,s=>.cons r (Vals.append t s)
theorem Vals.take:∀{xs:List V}{a:List au}(n:Nat),Vals xs a->Vals (xs.take n) (a.take n)
 | _,_,0,_=>.nil
 | _,_,_+1,.nil=>.nil
 | _,_,n+1,.cons r t=>.cons r (Vals.take n t)
theorem Vals.drop:∀{xs:List V}{a:List au}(n:Nat),Vals xs a->Vals (xs.drop n) (a.drop n)
 | _,_,0,r=>r
 | _,_,_+1,.nil=>.nil
 | _,_,n+1,.cons _ t=>Vals.drop n t
def RelO:Option V->Option au->Prop
 | some v,some u=>RelV v u
 | none,none=>True
 | _,_=>False
def KV{a:Type}:List (a×V)->List (a×au)->Prop:=Eg λ(p:a×V) (q:a×au)=>p.1=q.1/\RelV p.2 q.2
def kV:Key->V
 | .inl i=>.int i
 | .inr x=>.str x
inductive HO where
 | lst (xs:List V)
 | tup (xs:List V)
 | dK (kvs:List (Key×V)) | dT (kvs:List (List Key×V))
 | set (S:Int->Bool) (n:Nat)
 | ins (C dx:av) (fs:List (Str×V))
 | own (x:av)
 | xd (fs:List (Str×V))
 | met (f x:av)
 | rng (lo hi:Int)
 | frz (o:Obj) (u:HO)
 | tbl (ps:Array au)
 | ext (φ:iV->Prop)
abbrev Hp:=av->Option HO
def upd(H:Hp)(a:av)(o:HO):Hp:=λ b=>if b=a then some o else H b
def kA{H:Hp}{a:av}{o:HO}:upd H a o a=some o:=by unfold upd;rw[if_pos rfl]
def kL{H:Hp}{a b:av}{o:HO}(h:b≠a):upd H a o b=H b:=by unfold upd;rw[if_neg h]
def wP{H:Hp}{a b:av}{o u:HO}(h:H a=some o)(h':H b=some u)(d:o≠u):a≠b:=by
 intro e;subst e;rw[h]at h';exact d (bh h')
def kP{H:Hp}{a b:av}{o:HO}(h:H a=some o)(h':H b=none):a≠b:=by
 intro e;subst e;rw[h]at h';cases h'
section
def IsTupN(h:iV)(a:av)(b:Array au):Prop:=∃ o,h.get? a=some o/\o.cls=.type "tuple"/\∃ n,o.data=.seq b n/\o.dict=none
def IsTupN.isTup{h:iV}{a:av}{b:Array au}:IsTupN h a b->ES h a b:=λ⟨o,e,c,n,d,_⟩=>⟨o,e,c,n,d⟩
theorem IsTupN.lt{h:iV}{a:av}{b:Array au}(x:IsTupN h a b):a<h.objs.size:=x.isTup.lt
def IsTupN.new(h:iV)(a:Array au):IsTupN (h.push {cls:=.type "tuple",data:=.seq a}) h.objs.size a:=⟨_,ck _ rfl,rfl,_,rfl,rfl⟩
variable (P:eX) (w:iN)
def ObjOk(H:Hp)(h:iV)(a:av):HO->Prop
 | .lst c=>c.length<=sizeLine/\∃(b:List au)(n:Nat),Vals c b/\h.get? a=some {cls:=.type "list",data:=.seq b.toArray n}
 | .tup c=>c.length<=sizeLine/\∃ b:List au,Vals c b/\IsTupN h a b.toArray
 | .dK kvs=>kvs.length<=sizeLine/\(a == sysModules)=false/\∃ j,KV kvs j/\h.DictOf (qH P w) a j
 | .dT kvs=>kvs.length<=sizeLine/\(a == sysModules)=false/\∃ c:List (List Key×av×au),
   Eg (λ(p:List Key×V) (q:List Key×av×au)=>p.1=q.1/\H q.2.1=some (.tup (p.1.map kV))/\RelV p.2 q.2.2) kvs c /\
   ∃ o i l,h.get? a=some o/\o.ExactDict/\o.data=.dict i l/\i.toList=c.map (entryOfKey (tupleKind (qH P w)))/\(c.map (·.1)).Nodup
 | .set S n=>h.SetOf (intKind P w) a S n
 | .ins C dx fs=>H dx=some (.own a)/\fs.length<=1000/\dx≠a/\h.get? a=some (Ci C dx) /\
   ∃ d,h.Ns1 dx d/\(∀ f,RelO (fs.lookup f) (d f))/\Fz d (fs.map (·.1))
 | .own _=>∃ o,h.get? a=some o
 | .xd fs=>∃ d,h.Ns1 a d/\∀ f,RelO (fs.lookup f) (d f)
 | .rng lo hi=>∃ t u v,h.get? a=some {cls:=.type "range",data:=.fields #[.int lo t,.int hi u,.int 1 v]}
 | .frz o u=>h.get? a=some o/\ObjOk H h a u
 | .tbl ps=>h.get? a=some {cls:=.none,data:=.fields ps}
 | .met f x=>h.get? a=some (Bn (.ref f) (.ref x))
 | .ext φ=>φ h/\(∃ o,h.get? a=some o)/\∀ h1 g:iV,φ h1->(∀ o,h1.get? a=some o->g.get? a=some o)->φ g
def HOk(H:Hp)(h:iV):Prop:=∀ a o,H a=some o->ObjOk P w H h a o
end
section
variable {P:eX} {w:iN} {H H':Hp} {h h':iV} {a:av} {o:HO}
theorem ObjOk.lt(x:ObjOk P w H h a o):a<h.objs.size:=by
 cases o with
 | lst xs=>obtain⟨_,_,_,_,e⟩:=x;exact cj e
 | tup xs=>obtain⟨_,_,_,p⟩:=x;exact p.lt
 | dK kvs=>obtain⟨_,_,_,_,o,_,_,e,_⟩:=x;exact cj e
 | dT kvs=>obtain⟨_,_,_,_,o,_,_,e,_⟩:=x;exact cj e
 | set S n=>obtain⟨o,_,_,_,e,_⟩:=x;exact cj e
 | ins C dx fs=>obtain⟨_,_,_,e,_⟩:=x;exact cj e
 | own y=>obtain⟨_,e⟩:=x;exact cj e
 | xd fs=>obtain⟨_,⟨_,_,_,e,_⟩,_⟩:=x;exact cj e
 | rng lo hi=>obtain⟨_,_,_,e⟩:=x;exact cj e
 | frz ob u=>obtain⟨e,_⟩:=x;exact cj e
 | tbl ps=>exact cj (show h.get? a=some _ from x)
 | met f y=>exact cj (show h.get? a=some _ from x)
 | ext φ=>obtain⟨_,⟨_,e⟩,_⟩:=x;exact cj e
theorem Paired.mapP{α β:Type}{F G:α->β->Prop}:∀{l₁:List α}{l₂:List β},Eg F l₁ l₂->(∀ a b,F a b->G a b)->Eg G l₁ l₂
 | _,_,.nil,_=>.nil
 | _,_,.cons r t,f=>.cons (f _ _ r) (Paired.mapP t f)
def ObjOk.stay(x:ObjOk P w H h a o)(k:∀ b u,(b=a\/H b=some (.own a))->h.get? b=some u->h'.get? b=some u)
  (I:∀ b,H b=some (.own a)->H' b=some (.own a)) (D:∀ b xs,H b=some (.tup xs)->H' b=some (.tup xs)):ObjOk P w H' h' a o:=by
 induction o with
 | lst xs=>obtain⟨z,l,n,r,e⟩:=x;exact⟨z,l,n,r,k _ _ (.inl rfl) e⟩
 | tup xs=>obtain⟨z,l,r,g,e,c⟩:=x;exact⟨z,l,r,g,k _ _ (.inl rfl) e,c⟩
 | dK kvs=>obtain⟨z,y,G,r,g,i,j,e,c⟩:=x;exact⟨z,y,G,r,g,i,j,k _ _ (.inl rfl) e,c⟩
 | dT kvs =>
  obtain⟨z,y,xs,r,g,i,j,e,c⟩:=x;exact⟨z,y,xs,Paired.mapP r λ p q z=>⟨z.1,D _ _ z.2.1,z.2.2⟩,g,i,j,k _ _ (.inl rfl) e,c⟩
 | set S n=>obtain⟨g,i,j,t,e,c⟩:=x;exact⟨g,i,j,t,k _ _ (.inl rfl) e,c⟩
 | ins C dx fs =>
  obtain⟨d,z,A,e,m,⟨s,i,j,B,c⟩,r⟩:=x;exact⟨I _ d,z,A,k _ _ (.inl rfl) e,m,⟨s,i,j,k _ _ (.inr d) B,c⟩,r⟩
 | own y=>obtain⟨g,e⟩:=x;exact⟨g,k _ _ (.inl rfl) e⟩
 | xd fs=>obtain⟨m,⟨s,i,j,e,c⟩,r⟩:=x;exact⟨m,⟨s,i,j,k _ _ (.inl rfl) e,c⟩,r⟩
 | rng lo hi=>obtain⟨t,u,v,e⟩:=x;exact⟨t,u,v,k _ _ (.inl rfl) e⟩
 | frz g u ih=>obtain⟨e,q⟩:=x;exact⟨k _ _ (.inl rfl) e,ih q⟩
 | tbl ps =>
  have e:h.get? a=some {cls:=.none,data:=.fields ps}:=x;show h'.get? a=some {cls:=.none,data:=.fields ps};exact k a _ (.inl rfl) e
 | met f y =>
  have e:h.get? a=some (Bn (.ref f) (.ref y)):=x;show h'.get? a=some (Bn (.ref f) (.ref y));exact k a _ (.inl rfl) e
 | ext φ=>obtain⟨p,⟨o,e⟩,st⟩:=x;exact⟨st _ _ p λ o q=>k _ _ (.inl rfl) q,⟨o,k _ _ (.inl rfl) e⟩,st⟩
theorem HOk.lt(x:HOk P w H h)(e:H a=some o):a<h.objs.size:=(x a o e).lt
def HOk.fresh(x:HOk P w H h)(e:h.objs.size<=a):H a=none:=by
 cases q:H a with
 | none=>rfl
 | some u=>exact absurd (cv (x.lt q) e) (rj _)
def HOk.kept(x:HOk P w H h)(k:∀ b u,h.get? b=some u->h'.get? b=some u):HOk P w H h':=λ a o e =>
 (x a o e).stay (λ b u _ q=>k b u q) (λ _ q=>q) λ _ _ q=>q
def HOk.laid(x:HOk P w H h)(k:∀ b u,h.get? b=some u->h'.get? b=some u)(hp:h.objs.size<=a)(new:ObjOk P w (upd H a o) h' a o):HOk P w (upd H a o) h':=λ b u e=>by
 have d:=x.fresh hp;by_cases f:b=a
 ·subst f;rw[kA]at e;cases e;exact new
 ·rw[kL f]at e
  exact(x b u e).stay (λ c v _ q=>k c v q) (λ c q=>by rw[kL (kP q d)];exact q) λ c g q=>by rw[kL (kP q d)];exact q
end
def Rd(H:Hp)(a:av)(u:HO):Prop:=H a=some u\/∃ o,H a=some (.frz o u)
def Rd.ok{P:eX}{w:iN}{H:Hp}{h:iV}{a:av}{u:HO}(r:Rd H a u)(x:HOk P w H h):ObjOk P w H h a u:=by
 rcases r with r | ⟨o,r⟩
 ·exact x a u r
 ·obtain⟨_,q⟩:=x a _ r
  exact q
def Mut:Option HO->Prop
 | some (.lst _)=>True
 | some (.dK _)=>True
 | some (.dT _)=>True
 | some (.set _ _)=>True
 | some (.ins _ _ _)=>True
 | some (.ext _)=>True
 | _=>False
section
variable {P:eX} {w:iN} {H:Hp} {h h':iV} {x e:av} {o':HO}
def HOk.write(ok:HOk P w H h)(i:Mut (H x))(n:e=x\/H e=some (.own x))(k:∀ b u,b≠e->h.get? b=some u->h'.get? b=some u)(m:∃ u,h'.get? e=some u)
  (new:ObjOk P w (upd H x o') h' x o'):HOk P w (upd H x o') h':=λ b u q=>by
 have d:∀ c y,H c=some (.own y)->c≠x:=λ c y r z=>by subst z;rw[r]at i;exact i
 have f:∀ c g,H c=some (.tup g)->c≠x:=λ c g r z=>by subst z;rw[r]at i;exact i
 by_cases l:b=x
 ·subst l;rw[kA]at q;cases q;exact new
 ·rw[kL l]at q
  by_cases a:b=e
  ·have o:H b=some (.own x):=by
    rcases n with z | z
    ·exact absurd (a.trans z) l
    ·rw[a];exact z
   rw[q]at o;cases o;obtain⟨v,p⟩:=m;exact⟨v,by rw[a];exact p⟩
  ·refine(ok b u q).stay (λ c v j r=>k c v ?_ r) (λ c r=>by rw[kL (d c b r)];exact r) λ c g r=>by rw[kL (f c g r)];exact r
   rcases j with rfl | j
   ·exact a
   ·rintro rfl
    rcases n with z | z
    ·exact d c b j z
    ·rw[j]at z;cases z;exact l rfl
end
structure Un(fs ex:List av)(H H':Hp)(h h':iV):Prop where
 keep:∀ b o,h.get? b=some o->H b=none->b∉fs->b∉ex->h'.get? b=some o
 slot:∀ b o,h.get? b=some o->H b=none->b∈fs->b∉ex->∃ sl,h'.get? b=some {o with slots:=sl}
 free:∀ b o,h.get? b=some o->H b=none->b∉ex->H' b=none
 there:∀ b o,h.get? b=some o->b∉ex->∃ o',h'.get? b=some o'
 tups:∀ b xs,H b=some (.tup xs)->H' b=some (.tup xs)
 frzs:∀ b o u,H b=some (.frz o u)->H' b=some (.frz o u)
 tbls:∀ b ps,H b=some (.tbl ps)->∃ more,H' b=some (.tbl (ps++more))
section
variable {fs fs' ex ex':List av} {H H1 H2:Hp} {h h1 h2 h':iV} {a x e:av} {o:HO}
def Un.any(u:Un fs ex H H1 h h1){b:av}{ob:Obj}(q:h.get? b=some ob)(n:H b=none)(c:b∉ex):∃ sl,h1.get? b=some {ob with slots:=sl}:=by
 by_cases a:b∈fs
 ·exact u.slot b ob q n a c
 ·exact⟨ob.slots,u.keep b ob q n a c⟩
def Un.kept(k:∀ b u,h.get? b=some u->h'.get? b=some u):Un fs ex H H h h' :=
 ⟨λ b a q _ _ _=>k b a q,λ b a q _ _ _=>⟨a.slots,k b a q⟩,λ _ _ _ n _=>n,λ b a q _=>⟨a,k b a q⟩,λ _ _ q=>q,λ _ _ _ q=>q,λ _ ps q=>⟨#[],by rw[q];simp⟩⟩
def Un.refl:Un fs ex H H h h:=Un.kept λ _ _ q=>q
def Un.laid(k:∀ b u,h.get? b=some u->h'.get? b=some u)(hp:h.objs.size<=a)(c:H a=none):Un fs ex H (upd H a o) h h' where
 keep:=λ b u q _ _ _=>k b u q
 slot:=λ b u q _ _ _=>⟨u.slots,k b u q⟩
 free:=λ b u q n _=>by rw[kL (dw (cv (cj q) hp))];exact n
 there:=λ b u q _=>⟨u,k b u q⟩
 tups:=λ b d q=>by rw[kL (kP q c)];exact q
 frzs:=λ b u d q=>by rw[kL (kP q c)];exact q
 tbls:=λ b ps q=>⟨#[],by rw[kL (kP q c),q];simp⟩
def Un.write(c:Mut (H x))(l:e=x\/H e=some (.own x))(k:∀ b u,b≠e->h.get? b=some u->h'.get? b=some u)(d:∃ u,h'.get? e=some u):Un fs ex H (upd H x o) h h':=by
 have g:∀ b,H b=none->b≠x:=λ b n z=>by subst z;rw[n]at c;exact c
 have i:∀ b,H b=none->b≠e:=λ b n z=>by
  subst z;rcases l with r | r
  ·exact g b n r
  ·rw[n]at r;cases r
 have f:∀ b u,H b=some u->¬ Mut (some u)->b≠x:=λ b u q m z=>by subst z;rw[q]at c;exact m c
 refine⟨λ b u q n _ _=>k b u (i b n) q,λ b u q n _ _=>⟨u.slots,k b u (i b n) q⟩,λ b u q n _=>by rw[kL (g b n)];exact n,λ b u q _=>?_,
  λ b j q=>by rw[kL (f b _ q λ z=>z)];exact q,λ b u j q=>by rw[kL (f b _ q λ z=>z)];exact q,λ b ps q=>⟨#[],by rw[kL (f b _ q λ z=>z),q];simp⟩⟩
 by_cases a:b=e
 ·subst a;exact d
 ·exact⟨u,k b u a q⟩
end
def trk(h:iV)(H:Hp):List av:=(cf h.objs.size).filter λ a=>(H a).isSome
def sH(h:iV)(H:Hp):iV:=PySem.W.hideAll h (trk h H)
def kIR(h:iV)(H:Hp):(sH h H).objs.size=h.objs.size:=PySem.W.hideAll_size _ _
def kMR{h:iV}{H:Hp}{b:av}{o:Obj}(e:h.get? b=some o)(n:H b=none):(sH h H).get? b=some o :=
 PySem.W.hideAll_get _ e λ a=>by
  have q:(H b).isSome=true:=(ip.mp a).2;rw[n]at q;simp at q
def kPJ{h:iV}{H:Hp}{b:av}{o:Obj}(e:(sH h H).get? b=some o):h.get? b=some o/\H b=none:=by
 have a:h.get? b=some o:=PySem.W.of_hideAll (trk h H) e;refine⟨a,?_⟩
 cases q:H b with
 | none=>rfl
 | some x =>
  have c:b∈trk h H:=ip.mpr ⟨iP.mpr (cj a),by simp[q]⟩;have z:(sH h H).get? b=none:=PySem.W.hideAll_none (trk h H) c;rw[z]at e;cases e
structure Mod(K:be)(mg:Str->Option au)(base:iV):Prop where
 kin:K.In base
 glob:base.Ns gn mg
 blt:∃ mb,base.Ns builtinsNs mb/\∀ x:Str,x≠"__name__"->mb x=bootBuiltins x
 nolimit:base.NoLimit
structure Cx where
 prog:eX
 w:iN
 K:be
 mg:Str->Option au
 base:iV
 A:fk
 N:List Str
 s₀:az
 H₀:Hp
 env:Env
 outer:List Env
 stack:List Env
 ex:List av
 fn:Str->Bool
 calm:Bool
 pn:List (av×Obj)
 xe:au->az->Prop
def frs(l:List Env):List av:=l.filterMap (·.frame)
abbrev Cx.fs(X:Cx):List av:=frs X.outer
def Vis(a:wq)(x:Str):Prop:=a.names.lookup x=some .local\/a.names.lookup x=some .cell\/a.names.lookup x=some .free
def Loc(a:wq)(x:Str):Prop:=a.names.lookup x=some .local\/a.names.lookup x=some .cell
def kWO(env:Env)(h:iV)(m:Str->Option au)(x:Str)(u:au):Prop :=
 (env.kindOf x=some .local/\m x=some u)\/((env.kindOf x=some .cell\/env.kindOf x=some .free)/\∃ c,env.cells.lookup x=some c/\h.IsCell c (some u))
structure Cx.Ok(X:Cx):Prop where
 mod:Mod X.K X.mg X.base
 kind:X.env.scope.kind=.function
 glob:X.env.globals=gn
 blt:X.env.builtins=builtinsNs
 above:X.s₀.heap.objs.size<=X.env.locals
 inj:∀ x y c,X.env.cells.lookup x=some c->X.env.cells.lookup y=some c->x=y
 has:∀ x,(X.env.kindOf x=some .cell\/X.env.kindOf x=some .free)->∃ c,X.env.cells.lookup x=some c
 cab:∀ x c,X.fn x=true->X.env.cells.lookup x=some c->X.s₀.heap.objs.size<=c
 hd:X.calm=true->X.A.handled=none
 frames:X.A.frames=some X.stack
 stk:X.stack=X.outer\/(X.stack=X.env::X.outer/\X.env.frame=some X.env.locals)
 exf:∀ b∈X.ex,b≠X.env.locals/\∀ x c,X.env.cells.lookup x=some c->c≠b
 bs:∀ b o,X.base.get? b=some o->X.s₀.heap.get? b=some o/\X.H₀ b=none
 bsz:X.base.objs.size<=X.s₀.heap.objs.size
 noex:∀ b o,X.base.get? b=some o->b∉X.ex
 exfs:∀ b∈X.ex,b∉X.fs
 funs:X.s₀.heap.FunFrames X.base X.outer
 frf:∀ b∈X.fs,X.H₀ b=none
structure Inv(X:Cx)(pins:List (av×Obj))(σ:List (Option V))(H:Hp)(s:az):Prop where
 ok:X.Ok
 os:s.os=X.s₀.os
 bare:Bo s.gens
 base:Un X.fs X.ex X.H₀ H X.s₀.heap s.heap
 loc:∃ m,s.heap.Ns X.env.locals m/\∀(i:Nat)(x:Str)(v:V),X.N[i]?=some x->σ[i]?=some (some v)->Vis X.env.scope x->∃ u,RelV v u/\kWO X.env s.heap m x u
 cell:∀ x c,X.env.cells.lookup x=some c->∃ v,s.heap.IsCell c v
 free:H X.env.locals=none
 freeC:∀ x c,X.env.cells.lookup x=some c->H c=none
 pin:∀ p∈X.pn++pins,s.heap.get? p.1=some p.2/\H p.1=none/\p.1≠X.env.locals/\p.1∉X.fs/\∀ v,p.2.data≠.cell v
 hok:HOk X.prog X.w H s.heap
 len:σ.length=X.N.length
section
variable {X:Cx} {pins:List (av×Obj)} {σ:List (Option V)} {H H':Hp} {s:az} {h':iV}
def Cx.Ok.nofr(ok:X.Ok){b:av}{o:Obj}(e:X.base.get? b=some o):b∉X.fs:=λ a=>by
 have:=(ok.funs.mem a).1;rw[e]at this;cases this
theorem Inv.bs(I:Inv X pins σ H s):∀ b o,X.base.get? b=some o->s.heap.get? b=some o/\H b=none:=λ b o e =>
 ⟨I.base.keep b o (I.ok.bs b o e).1 (I.ok.bs b o e).2 (I.ok.nofr e) (I.ok.noex b o e),I.base.free b o (I.ok.bs b o e).1 (I.ok.bs b o e).2 (I.ok.noex b o e)⟩
def Inv.bk(I:Inv X pins σ H s):∀ b o,X.base.get? b=some o->s.heap.get? b=some o:=λ b o e=>(I.bs b o e).1
theorem Inv.mod(I:Inv X pins σ H s):Mod X.K X.mg X.base:=I.ok.mod
def Inv.kIn(I:Inv X pins σ H s):X.K.In s.heap:=I.ok.mod.kin.keeps I.bk
theorem Inv.lt(I:Inv X pins σ H s):X.env.locals<s.heap.objs.size:=let ⟨_,hn,_⟩:=I.loc;hn.lt
def Inv.sz(I:Inv X pins σ H s):X.s₀.heap.objs.size<=s.heap.objs.size:=jt I.ok.above (gk I.lt)
def Inv.nofs(I:Inv X pins σ H s){a:av}(h:s.heap.objs.size<=a):a∉X.fs:=λ c=>by
 obtain⟨_,o,b,_⟩:=I.ok.funs.mem c;exact absurd (cv (cj b) (jt I.sz h)) (rj _)
def Inv.cne(I:Inv X pins σ H s):∀ x c,X.env.cells.lookup x=some c->c≠X.env.locals:=λ x c e z=>by
 obtain⟨v,o,f,d⟩:=I.cell x c e;obtain⟨m,⟨g,h,i,b,a,_⟩,_⟩:=I.loc;rw[z,b]at f;cases f;rw[a]at d;cases d
theorem Inv.funs(I:Inv X pins σ H s):s.heap.FunFrames X.base X.outer:=by
 have all:∀(l:List Env),(∀ b∈frs l,b∈X.fs)->X.s₀.heap.FunFrames X.base l->s.heap.FunFrames X.base l:=by
  intro l
  induction l with
  | nil=>intro _ _;trivial
  | cons env r ih =>
   intro f h;obtain⟨j,⟨L,o,d,m,n,i⟩,g⟩:=h;have a:L∈X.fs:=f L (by unfold frs;rw[ym,d];exact eP);obtain⟨p,e⟩:=I.base.slot L o n (I.ok.frf L a) a λ z=>I.ok.exfs L z a;exact⟨j,⟨L,_,d,m,e,i⟩,ih (λ b c=>f b (by unfold frs;rw[ym,d];exact du _ c)) g⟩
 exact all X.outer (λ _ c=>c) I.ok.funs
theorem Inv.stack(I:Inv X pins σ H s):s.heap.FunFrames X.base X.stack:=by
 rcases I.ok.stk with e | ⟨e,a⟩
 ·rw[e];exact I.funs
 ·rw[e]
  obtain⟨m,b,_⟩:=I.loc;refine .cons (by rw[I.ok.kind];decide) a b ?_ I.funs;exact Heap.get?_none_of_le (jt I.ok.bsz I.ok.above)
def Inv.stkSub(I:Inv X pins σ H s):∀ b∈frs X.stack,b∈X.env.locals::X.fs:=λ b a=>by
 rcases I.ok.stk with e | ⟨e,c⟩
 ·rw[e]at a;exact du _ a
 ·rw[e]at a
  unfold frs at a;rw[ym,c]at a;exact a
def Inv.stkFree(I:Inv X pins σ H s):∀ b∈frs X.stack,H b=none:=λ b a=>by
 rcases eA.mp (I.stkSub b a) with e | a
 ·rw[e];exact I.free
 ·obtain⟨_,o,c,_⟩:=I.ok.funs.mem a
  exact I.base.free b o c (I.ok.frf b a) λ z=>I.ok.exfs b z a
def Inv.step{g':Array GenState}{t':Nat}{d':Drawn}{ch:List av}(I:Inv X pins σ H s)
  (g:∀ b∈ch,(b∈X.ex\/X.s₀.heap.objs.size<=b)/\b≠X.env.locals/\(∀ x c,X.env.cells.lookup x=some c->c≠b)/\∀ p∈X.pn++pins,p.1≠b)
  (keep:∀ b o,b≠X.env.locals->b∉X.fs->b∉ch->s.heap.get? b=some o->H b=none->h'.get? b=some o)
  (h:∀ b o,b≠X.env.locals->b∈X.fs->b∉ch->s.heap.get? b=some o->H b=none->∃ sl,h'.get? b=some {o with slots:=sl}) (free:∀ b o,b∉ch->s.heap.get? b=some o->H b=none->H' b=none)
  (there:∀ b o,b∉ch->s.heap.get? b=some o->∃ o',h'.get? b=some o')
  (D:∀ b xs,H b=some (.tup xs)->H' b=some (.tup xs)) (B:∀ b o u,H b=some (.frz o u)->H' b=some (.frz o u)) (C:∀ b ps,H b=some (.tbl ps)->∃ more,H' b=some (.tbl (ps++more)))
  (ns:∀ m,s.heap.Ns X.env.locals m->h'.Ns X.env.locals m) (N:HOk X.prog X.w H' h') (hg:Bo g') :
  Inv X pins σ H' {s with heap:=h',gens:=g',drawn:=d',toks:=t'}:=by
 have M:∀ b o,X.s₀.heap.get? b=some o->b≠X.env.locals:=λ b o e=>dw (cv (cj e) I.ok.above)
 have y:∀ b o,X.s₀.heap.get? b=some o->b∉X.ex->b∉ch:=λ b o e a G=>by
  rcases(g b G).1 with z | z
  ·exact a z
  ·exact absurd (cv (cj e) z) (rj _)
 have j:∀ x c,X.env.cells.lookup x=some c->∀ v,s.heap.IsCell c v->h'.IsCell c v:=λ x c e v ⟨o,J,O⟩=>by
  have f:c∉ch:=λ z=>(g c z).2.2.1 x c e rfl;by_cases U:c∈X.fs
  ·obtain⟨sl,q⟩:=h c o (I.cne x c e) U f J (I.freeC x c e)
   exact⟨_,q,O⟩
  ·exact⟨o,keep c o (I.cne x c e) U f J (I.freeC x c e),O⟩
 refine⟨I.ok,I.os,hg,⟨λ b o e n G a=>?_,λ b o e n G a=>?_,λ b o e n a=>?_,λ b o e a=>?_,λ b xs e=>D b xs (I.base.tups b xs e),λ b o xs e=>B b o xs (I.base.frzs b o xs e),λ b ps e=>?_⟩,?_,λ x c e=>?_,?_,λ x c e=>?_,λ p hp=>?_,N,I.len⟩
 ·exact keep b o (M b o e) G (y b o e a) (I.base.keep b o e n G a) (I.base.free b o e n a)
 ·obtain⟨sl,A⟩:=I.base.slot b o e n G a
  obtain⟨Q,L⟩:=h b _ (M b o e) G (y b o e a) A (I.base.free b o e n a);exact⟨Q,L⟩
 ·obtain⟨o',A⟩:=I.base.there b o e a
  exact free b o' (y b o e a) A (I.base.free b o e n a)
 ·obtain⟨o',A⟩:=I.base.there b o e a
  exact there b o' (y b o e a) A
 ·obtain⟨Z,A⟩:=I.base.tbls b ps e
  obtain⟨m2,L⟩:=C b _ A;exact⟨Z++m2,by rw[L,Array.append_assoc]⟩
 ·obtain⟨m,Y,hl⟩:=I.loc
  refine⟨m,ns m Y,λ i x v A L e3=>?_⟩;obtain⟨u,r,l⟩:=hl i x v A L e3;refine⟨u,r,?_⟩;rcases l with l | ⟨k,c,e,z⟩
  ·exact .inl l
  ·exact .inr ⟨k,c,e,j x c e _ z⟩
 ·obtain⟨v,z⟩:=I.cell x c e
  exact⟨v,j x c e v z⟩
 ·obtain⟨m,⟨o,_,_,J,_⟩,_⟩:=I.loc
  exact free _ o (λ z=>(g _ z).2.1 rfl) J I.free
 ·obtain⟨v,o,J,O⟩:=I.cell x c e
  exact free c o (λ z=>(g c z).2.2.1 x c e rfl) J (I.freeC x c e)
 ·obtain⟨e,n,S,T,d⟩:=I.pin p hp
  have f:p.1∉ch:=λ z=>(g p.1 z).2.2.2 p hp rfl;exact⟨keep p.1 p.2 S T f e n,free p.1 p.2 f e n,S,T,d⟩
def Inv.un{t':Nat}(I:Inv X pins σ H s)(u:Un X.fs [] H H' s.heap h')(f:HOk X.prog X.w H' h'):Inv X pins σ H' {s with heap:=h',toks:=t'}:=by
 obtain⟨m,⟨o,q,x,h,r⟩,_⟩:=id I.loc;obtain⟨y,i⟩:=u.any h I.free (by simp)
 exact I.step (g':=s.gens) (d':=s.drawn) (ch:=[]) (λ _ z=>nomatch z) (λ b o _ d _ e n=>u.keep b o e n d (by simp)) (λ b o _ d _ e n=>u.slot b o e n d (by simp)) (λ b o _ e n=>u.free b o e n (by simp)) (λ b o _ e=>u.there b o e (by simp)) u.tups u.frzs u.tbls (λ v j=>by
  obtain⟨p,g,c,a,l⟩:=j;rw[h]at a;cases a;exact⟨_,g,c,i,l⟩) f I.bare
def Inv.call{g':Array GenState}{t':Nat}{d':Drawn}{ch:List av}(I:Inv X pins σ H s)(u:Un (frs X.stack) ch H H' s.heap h')(i:HOk X.prog X.w H' h')(A:Bo g')
  (f:∀ b∈ch,(b∈X.ex\/X.s₀.heap.objs.size<=b)/\b≠X.env.locals/\(∀ x c,X.env.cells.lookup x=some c->c≠b)/\∀ p∈X.pn++pins,p.1≠b) :
  Inv X pins σ H' {s with heap:=h',gens:=g',drawn:=d',toks:=t'}:=by
 obtain⟨m,⟨o,C,G,l,r⟩,_⟩:=id I.loc;obtain⟨J,h⟩:=u.any l I.free λ z=>(f _ z).2.1 rfl
 exact I.step (ch:=ch) f (λ b o h q a e n=>u.keep b o e n (λ z=>(eA.mp (I.stkSub b z)).elim h q) a) (λ b o _ _ a e n=>u.any e n a) (λ b o a e n=>u.free b o e n a) (λ b o a e=>u.there b o e a) u.tups u.frzs u.tbls (λ D v=>by
  obtain⟨B,j,g,d,y⟩:=v;rw[l]at d;cases d;exact⟨_,j,g,h,y⟩) i A
def Inv.turned{t':Nat}{it:av}(I:Inv X pins σ H s)(k:∀ b o,b≠it->s.heap.get? b=some o->h'.get? b=some o)(l:H it=none)(f:it≠X.env.locals)
  (h1:it∈X.ex\/X.s₀.heap.objs.size<=it) (h:∀ x c,X.env.cells.lookup x=some c->c≠it) (g:∀ p∈X.pn++pins,p.1≠it):Inv X pins σ H {s with heap:=h',toks:=t'}:=by
 have d:∀ b u,H b=some u->b≠it:=λ b u e z=>by rw[z,l]at e;cases e
 refine I.step (g':=s.gens) (d':=s.drawn) (ch:=[it]) (λ b A=>?_) (λ b o _ _ a e _=>k b o (λ z=>a (by simp[z])) e) (λ b o _ _ a e _=>⟨o.slots,k b o (λ z=>a (by simp[z])) e⟩) (λ _ _ _ _ n=>n)
  (λ b o a e=>⟨o,k b o (λ z=>a (by simp[z])) e⟩) (λ _ _ e=>e) (λ _ _ _ e=>e) (λ b ps e=>⟨#[],by rw[e];simp⟩) (λ m B=>?_) (λ b u e=>?_) I.bare
 ·have e:b=it:=by simpa using A
  subst e;exact⟨h1,f,h,g⟩
 ·obtain⟨o,j,i,y,r⟩:=B
  exact⟨o,j,i,k _ o (ub f) y,r⟩
 ·refine(I.hok b u e).stay (λ c v a q=>k c v ?_ q) (λ _ q=>q) λ _ _ q=>q
  rcases a with z | z
  ·rw[z];exact d b u e
  ·exact d c _ z
def Inv.tok(I:Inv X pins σ H s)(t:Nat):Inv X pins σ H {s with toks:=t}:=I.un (h':=s.heap) (t':=t) Un.refl I.hok
theorem Inv.kept{t':Nat}(I:Inv X pins σ H s)(k:∀ b u,s.heap.get? b=some u->h'.get? b=some u):Inv X pins σ H {s with heap:=h',toks:=t'}:=I.un (Un.kept k) (I.hok.kept k)
theorem Inv.laid{a:av}{o:HO}{t':Nat}(I:Inv X pins σ H s)(k:∀ b u,s.heap.get? b=some u->h'.get? b=some u)(hp:s.heap.objs.size<=a)(new:ObjOk X.prog X.w (upd H a o) h' a o) :
  Inv X pins σ (upd H a o) {s with heap:=h',toks:=t'}:=I.un (Un.laid k hp (I.hok.fresh hp)) (I.hok.laid k hp new)
theorem Inv.write{x e:av}{o:HO}{t':Nat}(I:Inv X pins σ H s)(d:Mut (H x))(c:e=x\/H e=some (.own x))(k:∀ b u,b≠e->s.heap.get? b=some u->h'.get? b=some u)(a:∃ u,h'.get? e=some u)
  (new:ObjOk X.prog X.w (upd H x o) h' x o):Inv X pins σ (upd H x o) {s with heap:=h',toks:=t'}:=I.un (Un.write d c k a) (I.hok.write d c k a new)
def Inv.pins_of{a:List (av×Obj)}(I:Inv X pins σ H s)(h:∀ p∈a,s.heap.get? p.1=some p.2/\H p.1=none/\p.1≠X.env.locals/\p.1∉X.fs/\∀ v,p.2.data≠.cell v):Inv X a σ H s :=
 ⟨I.ok,I.os,I.bare,I.base,I.loc,I.cell,I.free,I.freeC,λ p hp=>(bz.mp hp).elim (λ z=>I.pin p (df _ z)) (h p),I.hok,I.len⟩
def kAW{N:List Str}(c:N.Nodup){i j:Nat}{x:Str}(a:N[i]?=some x)(b:N[j]?=some x):i=j:=by
 obtain⟨h1,f⟩:=ak.mp a;obtain⟨g,d⟩:=ak.mp b;exact(AH c).mp (f.trans d.symm)
def cL{M:zi}{A:fk}{E:au->az->Prop}{i:Nat}{x:Str}{v:V}{u:au}{Q:Unit->az->Prop}(I:Inv X pins σ H s)(hN:X.N.Nodup)(hi:X.N[i]?=some x)(C:Loc X.env.scope x)(r:RelV v u)
  (h:∀ s',Inv X pins (σ.set i (some v)) H s'->(∃ a,iz a s.heap s'.heap/\(a=X.env.locals\/X.env.cells.lookup x=some a))->Q () s') (hf:X.fn x=true\/X.env.scope.names.lookup x=some .local:=by first | exact .inl rfl | exact .inr rfl | assumption):dj M A (storeName X.env x u) Q E s:=by
 obtain⟨m,hn,hl⟩:=id I.loc;have Z:(X.env.scope.kind == .class || (X.env.scope.kind == .module && X.env.locals != X.env.globals))=false:=by rw[I.ok.kind];rfl
 have L:i<σ.length:=by rw[I.len];exact(ak.mp hi).1
 have cne:=I.cne
 have g:∀{a:av}{U:iV},(∃ o,s.heap.get? a=some o/\H a=none)->iz a s.heap U->HOk X.prog X.w H U:=λ{a U} ha f b ob e=>by
  obtain⟨_,_,D⟩:=ha;refine(I.hok b ob e).stay (λ c w' B q=>(f.2 c ?_).trans q) (λ _ q=>q) λ _ _ q=>q;rintro rfl;rcases B with rfl | B
  ·rw[D]at e;cases e
  ·rw[D]at B;cases B
 rcases C with J | J
 ·refine wpAny_storeName_local J hn (λ U a3 f=>?_) Z
  obtain⟨oL,_,_,a4,_⟩:=id hn;refine h _ ⟨I.ok,I.os,I.bare,⟨λ b o e n S C=>?_,λ b o e n S C=>?_,I.base.free,λ b o e C=>?_,I.base.tups,I.base.frzs,I.base.tbls⟩,⟨_,a3,λ j y v' l G e3=>?_⟩,λ y c e=>?_,I.free,I.freeC,λ p hp=>?_,g ⟨oL,a4,I.free⟩ f,by simpa using I.len⟩ ⟨_,f,.inl rfl⟩
  ·exact(f.2 b (dw (cv (cj e) I.ok.above))).trans (I.base.keep b o e n S C)
  ·obtain⟨sl,l⟩:=I.base.slot b o e n S C
   exact⟨sl,(f.2 b (dw (cv (cj e) I.ok.above))).trans l⟩
  ·obtain⟨o',l⟩:=I.base.there b o e C
   exact⟨o',(f.2 b (dw (cv (cj e) I.ok.above))).trans l⟩
  ·by_cases T:j=i
   ·subst T
    rw[hi]at l;cases l;rw[kl L]at G;cases G
    exact⟨u,r,.inl ⟨J,by simp⟩⟩
   ·rw[eW (ub T)]at G
    obtain⟨u',r',q⟩:=hl j y v' l G e3;refine⟨u',r',?_⟩;rcases q with⟨k,e⟩ | ⟨k,c,e,z⟩
    ·refine .inl ⟨k,?_⟩
     have:y≠x:=λ e=>T (kAW hN l (e ▸ hi));simp[this,e]
    ·exact .inr ⟨k,c,e,z.sameBut f (cne y c e)⟩
  ·obtain⟨w',z⟩:=I.cell y c e
   exact⟨w',z.sameBut f (cne y c e)⟩
  ·obtain⟨e,n,ne,nf,d⟩:=I.pin p hp
   exact⟨(f.2 p.1 ne).trans e,n,ne,nf,d⟩
 ·have O:X.fn x=true:=by
   rcases hf with z | z
   ·exact z
   ·rw[z]at J;cases J
  obtain⟨c,B⟩:=I.ok.has x (.inl J);obtain⟨w',z⟩:=I.cell x c B;refine wpAny_storeName_cell I.ok.kind J B z (λ U a2 f=>?_);obtain⟨oc,a0,a1⟩:=id z;refine h {s with heap:=U} ⟨I.ok,I.os,I.bare,⟨λ b o e n S C=>?_,λ b o e n S C=>?_,I.base.free,λ b o e C=>?_,I.base.tups,I.base.frzs,I.base.tbls⟩,⟨m,hn.sameBut f (ub (cne x c B)),λ j y v' l G e3=>?_⟩,λ y c' e=>?_,I.free,I.freeC,λ p hp=>?_,g ⟨oc,a0,I.freeC x c B⟩ f,by simpa using I.len⟩ ⟨c,f,.inr B⟩
  ·exact(f.2 b (dw (cv (cj e) (I.ok.cab x c O B)))).trans (I.base.keep b o e n S C)
  ·obtain⟨sl,l⟩:=I.base.slot b o e n S C
   exact⟨sl,(f.2 b (dw (cv (cj e) (I.ok.cab x c O B)))).trans l⟩
  ·obtain⟨o',l⟩:=I.base.there b o e C
   exact⟨o',(f.2 b (dw (cv (cj e) (I.ok.cab x c O B)))).trans l⟩
  ·by_cases T:j=i
   ·subst T
    rw[hi]at l;cases l;rw[kl L]at G;cases G
    exact⟨u,r,.inr ⟨.inl J,c,B,a2⟩⟩
   ·rw[eW (ub T)]at G
    obtain⟨u',r',q⟩:=hl j y v' l G e3;refine⟨u',r',?_⟩;rcases q with q | ⟨k,c',e,z'⟩
    ·exact .inl q
    ·refine .inr ⟨k,c',e,z'.sameBut f ?_⟩
     rintro rfl;exact T (kAW hN l (I.ok.inj _ _ _ e B ▸ hi))
  ·by_cases Y:c'=c
   ·subst Y;exact⟨_,a2⟩
   ·obtain⟨w2,z2⟩:=I.cell y c' e
    exact⟨w2,z2.sameBut f Y⟩
  ·obtain⟨e,n,ne,nf,d⟩:=I.pin p hp
   refine⟨(f.2 p.1 ?_).trans e,n,ne,nf,d⟩;intro q;rw[q,a0]at e;have q':oc=p.2:=bh e;exact d w' (by rw[<-q'];exact a1)
def tP{M:zi}{A:fk}{E:au->az->Prop}{i:Nat}{x:Str}{v:V}{u:au}{Q:Unit->az->Prop}(I:Inv X pins σ H s)(c:X.N.Nodup)(hi:X.N[i]?=some x)(a:Loc X.env.scope x)(r:RelV v u)
  (h:∀ s',Inv X pins (σ.set i (some v)) H s'->Q () s') (d:X.fn x=true\/X.env.scope.names.lookup x=some .local:=by first | exact .inl rfl | exact .inr rfl | assumption):dj M A (storeName X.env x u) Q E s :=
 cL I c hi a r (λ s' b _=>h s' b) d
def Inv.call'{a:az}{ch:List av}(I:Inv X pins σ H s)(m:a.os=s.os)(u:Un (frs X.stack) ch H H' s.heap a.heap)(f:HOk X.prog X.w H' a.heap)(l:Bo a.gens)
  (d:∀ b∈ch,(b∈X.ex\/X.s₀.heap.objs.size<=b)/\b≠X.env.locals/\(∀ x c,X.env.cells.lookup x=some c->c≠b)/\∀ p∈X.pn++pins,p.1≠b):Inv X pins σ H' a:=by
 obtain⟨n,i,g,h,j⟩:=a;have e:j=s.os:=m;subst e;exact I.call (g':=i) (t':=h) (d':=g) u f l d
end
abbrev XK:=au->Option av->Hp->Prop
abbrev St:=List (Option V)
abbrev VK:=V->Hp->Prop
abbrev TE:=St->Hp->VK->Prop
abbrev TT:=St->Hp->(Bool->Hp->Prop)->Prop
abbrev TA:=St->Hp->(List V->Hp->Prop)->Prop
structure Ends where
 nx:St->Hp->Prop
 rt:VK
 bk:St->Hp->Prop:=λ _ _=>False
 ct:St->Hp->Prop:=λ _ _=>False
abbrev TS:=Ends->St->Hp->Prop
def EP(X:Cx)(a:List (av×Obj))(c:St)(Q:VK)(u:au)(d:az):Prop:=∃ v b,Inv X a c b d/\RelV v u/\Q v b
def TP(X:Cx)(a:List (av×Obj))(f:St)(Q:Bool->Hp->Prop)(b:Bool)(d:az):Prop:=∃ c,Inv X a f c d/\Q b c
def AP(X:Cx)(a:List (av×Obj))(f:St)(Q:List V->Hp->Prop)(d:List au)(g:az):Prop:=∃ c b,Inv X a f b g/\Vals c d/\Q c b
def SP(X:Cx)(b:List (av×Obj))(D:Ends)(f:Flow)(d:az):Prop :=
 match f with
 | .next=>∃ a c,Inv X b a c d/\D.nx a c
 | .brk=>∃ a c,Inv X b a c d/\D.bk a c
 | .cont=>∃ a c,Inv X b a c d/\D.ct a c
 | .ret u=>∃ v a c,Inv X b a c d/\RelV v u/\D.rt v c
def PE(X:Cx)(e:iW)(t:TE):Prop :=
 ∀(pins:List (av×Obj))(s:az)(σ:St)(H:Hp)(Q:VK),Inv X pins σ H s->t σ H Q->dj (model X.prog X.w) X.A (eval e X.env) (EP X pins σ Q) X.xe s
def PT(X:Cx)(e:iW)(t:TT):Prop :=
 ∀(pins:List (av×Obj))(s:az)(σ:St)(H:Hp)(Q:Bool->Hp->Prop),Inv X pins σ H s->t σ H Q->dj (model X.prog X.w) X.A (isTrue e X.env (eval e X.env)) (TP X pins σ Q) X.xe s
def PW(X:Cx)(e:iW)(t:TT):Prop :=
 ∀(vQ:Sem au)(pins:List (av×Obj))(s:az)(σ:St)(H:Hp)(Q:Bool->Hp->Prop),Inv X pins σ H s->t σ H Q->dj (model X.prog X.w) X.A (isTrue e X.env vQ) (TP X pins σ Q) X.xe s
def PW.pt{X:Cx}{e:iW}{t:TT}(h:PW X e t):PT X e t:=h _
def PA(X:Cx)(b:List iW)(t:TA):Prop :=
 ∀(a:Pos)(pins:List (av×Obj))(s:az)(σ:St)(H:Hp)(Q:List V->Hp->Prop),Inv X pins σ H s->t σ H Q->dj (model X.prog X.w) X.A (spliced (backTo a (starEach b X.env))) (AP X pins σ Q) X.xe s
def PS(X:Cx)(st:oz)(t:TS):Prop :=
 ∀(pins:List (av×Obj))(s:az)(σ:St)(H:Hp)(D:Ends),Inv X pins σ H s->t D σ H->dj (model X.prog X.w) X.A (exec st X.env) (SP X pins D) X.xe s
def PSs(X:Cx)(st:List oz)(t:TS):Prop :=
 ∀(pins:List (av×Obj))(s:az)(σ:St)(H:Hp)(D:Ends),Inv X pins σ H s->t D σ H->dj (model X.prog X.w) X.A (execs st X.env) (SP X pins D) X.xe s
def thn{α:Type}{t:Sem α}{Q b:α->az->Prop}{M:zi}{A:fk}{E:au->az->Prop}{s:az}(h:dj M A t Q E s)(c:∀ a s,Q a s->b a s):dj M A t b E s:=we h c λ _ _ x=>x
section
variable {X:Cx}
inductive kRU(i:Nat)(σ:St)(H:Hp)(Q:VK):Prop
 | mk:∀ v,(σ[i]?=some (some v))->(Q v H)->kRU i σ H Q
def tC(v:V):TE:=λ _ H Q=>Q v H
def kSK{i:Nat}{x:Str}{g:Pos}(B:X.N[i]?=some x)(C:Vis X.env.scope x)(n:(x == ("__debug__" : Str))=false:=by decide)(j:(x == ("__classdict__" : Str))=false:=by decide):PE X (.Name x g) (kRU i):=by
 intro f s A H Q I h;obtain⟨v,e,h⟩:=h;obtain⟨m,p,y⟩:=I.loc;obtain⟨u,r,l⟩:=y i x v B e C;have b:EP X f A Q u s:=⟨v,H,I,r,h⟩;rcases l with⟨d,q⟩ | ⟨d,c,o,a⟩
 ·exact Eh (wpAny_loadName_local I.ok.kind d p q b) n
 ·rcases d with d | d
  ·exact Eh (wpAny_loadName_cell I.ok.kind d o a b) n
  ·exact Eh (wpAny_loadName_free I.ok.kind d o a b j) n
def kI {i j pos}:PE X (.Constant (.int i) j pos) (tC (.int i)):=λ _ _ _ H _ I h=>wpAny_Constant_int ⟨.int i,H,I.tok _,⟨_,rfl⟩,h⟩
def oM {b j pos}:PE X (.Constant (.bool b) j pos) (tC (.bl b)):=λ _ _ _ H _ I h=>Constant_bool ⟨.bl b,H,I,rfl,h⟩
def vG {j pos}:PE X (.Constant .none j pos) (tC .non):=λ _ _ _ H _ I h=>Constant_none ⟨.non,H,I,rfl,h⟩
def Gl(X:Cx)(x:Str):Prop:=X.env.kindOf x=some .globalImplicit
def kPT{E:au->az->Prop}{a:List (av×Obj)}{s:az}{d:St}{H:Hp}{x:Str}{u:au}{b:Pos}{Q:au->az->Prop}(I:Inv X a d H s)(f:Gl X x)(g:X.mg x=some u)(h:Q u s)
  (c:(x == ("__debug__" : Str))=false:=by decide):dj (model X.prog X.w) X.A (eval (.Name x b) X.env) Q E s :=
 BQ I.ok.kind f (Calls.loadGlobal_global (by rw[I.ok.glob];exact I.mod.glob.keeps I.bk) g h) c
def wH{E:au->az->Prop}{a:List (av×Obj)}{s:az}{f:St}{H:Hp}{x:Str}{u:au}{b:Pos}{Q:au->az->Prop}(I:Inv X a f H s)(i:Gl X x)(l:X.mg x=none)(c:bootBuiltins x=some u)(h:Q u s)
  (j:x≠"__name__":=by decide) (g:(x == ("__debug__" : Str))=false:=by decide):dj (model X.prog X.w) X.A (eval (.Name x b) X.env) Q E s:=by
 obtain⟨m,h1,d⟩:=I.mod.blt;exact BQ I.ok.kind i (Calls.loadGlobal_builtin (by rw[I.ok.glob];exact I.mod.glob.keeps I.bk) l (by rw[I.ok.blt];exact h1.keeps I.bk) ((d x j).trans c) h) g
def rP{x:Str}{v:V}{u:au}{a:Pos}(d:Gl X x)(g:X.mg x=none)(b:bootBuiltins x=some u)(r:RelV v u)(f:x≠"__name__":=by decide)(c:(x == ("__debug__" : Str))=false:=by decide):PE X (.Name x a) (tC v) :=
 λ _ _ _ H _ I h=>wH I d g b ⟨v,H,I,r,h⟩ f c
variable {a b:iW} {ta tb:TE} {pos:Pos}
def PC(X:Cx)(f:GS)(a b:iW)(t:TE):Prop :=
 ∀(pins:List (av×Obj))(s:az)(σ:St)(H:Hp)(Q:VK),Inv X pins σ H s->t σ H Q ->
  dj (model X.prog X.w) X.A (eval a X.env) (λ v c=>dj (model X.prog X.w) X.A (eval b X.env) (λ u d=>dj (model X.prog X.w) X.A (compareOp f v u) (EP X pins σ Q) X.xe d) X.xe c) X.xe s
inductive tBY(Q:Bool->Hp->Prop)(x:V)(H1:Hp):Prop
 | mk:∀ c,(x=.bl c)->(Q c H1)->tBY Q x H1
def tB(t:TE):TT:=λ b H Q=>t b H λ x a=>tBY Q x a
def kSG{g:GS}{t:TE}(h:PC X g a b t)(h1:behindInMarks g b=false:=by first | exact nobehind _ (by decide) (by decide) | rfl):PT X (.Compare a [g] [b] pos) (tB t):=by
 intro f s o H Q I p;refine Cr (thn (h f s o H _ I p) λ v A h1=>thn h1 λ u y n=>thn n λ c r ⟨x,i,m,j,l⟩=>?_) h1;obtain⟨d,rfl,q⟩:=l;cases j
 exact qe ⟨i,m,q⟩
def cQ{e:iW}{t:TE}(h:PE X e t)(i:∀ vQ,isTrue e X.env vQ=(do let v <-vQ;standAt e.pos;holding [v] (truthy v)):=by intro _;rfl):PT X e (tB t):=by
 intro a s c H Q I f;refine isTrue_plain (thn (h a s c H _ I f) λ v m ⟨x,b,j,l,g⟩=>?_) (i _);obtain⟨d,rfl,q⟩:=g;cases l
 exact qe ⟨b,j,q⟩
variable {tA tB':TT} {rest:List iW}
def kWF(t u:TT):TT:=λ b H Q=>t b H λ c a=>if c=true then u b a Q else Q false a
def tOr(t u:TT):TT:=λ b H Q=>t b H λ c a=>if c=true then Q true a else u b a Q
def kWB(t:TT):TT:=λ b H Q=>t b H λ c a=>Q (!c) a
def rF(d:PT X a tA):PW X (.BoolOp .And [a] pos) tA:=by
 intro g b s f H Q I h;refine isTrue_and (thn (d b s f H Q I h) λ c i e=>?_)
 cases c with
 | true=>exact isTrue_and_nil e
 | false=>exact e
def kLH(d:PT X a tA):PW X (.BoolOp .Or [a] pos) tA:=by
 intro g b s f H Q I h;refine isTrue_or (thn (d b s f H Q I h) λ c i e=>?_)
 cases c with
 | false=>exact isTrue_or_nil e
 | true=>exact e
def rG(m:PT X a tA)(n:PW X (.BoolOp .And (b::rest) pos) tB'):PW X (.BoolOp .And (a::b::rest) pos) (kWF tA tB'):=by
 intro l d s g H Q I h;refine isTrue_and (thn (m d s g H _ I h) λ c o ⟨f,j,i⟩=>?_)
 cases c with
 | true=>exact n l d o g f Q j i
 | false=>exact⟨f,j,i⟩
def kRC(m:PT X a tA)(n:PW X (.BoolOp .Or (b::rest) pos) tB'):PW X (.BoolOp .Or (a::b::rest) pos) (tOr tA tB'):=by
 intro l d s g H Q I h;refine isTrue_or (thn (m d s g H _ I h) λ c o ⟨f,j,i⟩=>?_)
 cases c with
 | true=>exact⟨f,j,i⟩
 | false=>exact n l d o g f Q j i
def cR(f:PT X a tA):PT X (.UnaryOp .Not a pos) (kWB tA):=by
 intro b s g H Q I h;exact isTrue_not (f b s g H (λ c d=>Q (!c) d) I h)
inductive kKA(tb:TE)(σ:St)(Q:VK)(x:V)(H1:Hp):Prop
 | mk:∀ c,(x=.bl c)->(if c=true then tb σ H1 Q else Q (.bl false) H1)->kKA tb σ Q x H1
def kUK(d c:TE):TE:=λ a H Q=>d a H λ x b=>kKA c a Q x b
inductive kJW(Q:VK)(x:V)(H1:Hp):Prop
 | mk:∀ c,(x=.bl c)->(Q (.bl (!c)) H1)->kJW Q x H1
def kUE(c:TE):TE:=λ b H Q=>c b H λ x a=>kJW Q x a
def kDA {op} {t:TE} (h:PE X a t):PE X (.BoolOp op [a] pos) t:=λ b s c H Q I d=>BoolOp_one (h b s c H Q I d)
def lG(l:PE X a ta)(n:PE X (.BoolOp .And (b::rest) pos) tb):PE X (.BoolOp .And (a::b::rest) pos) (kUK ta tb):=by
 intro d s i H Q I h;refine BoolOp_and (thn (l d s i H _ I h) λ v o ⟨x,g,j,m,f⟩=>?_);obtain⟨c,rfl,f⟩:=f;cases m
 refine qe ?_
 cases c with
 | true=>exact n d o i g Q j f
 | false=>exact⟨.bl false,g,j,rfl,f⟩
def kSL(g:PE X a ta):PE X (.UnaryOp .Not a pos) (kUE ta):=by
 intro b s i H Q I h;refine UnaryOp_ (thn (g b s i H _ I h) λ v m ⟨x,f,l,j,d⟩=>?_);obtain⟨c,rfl,d⟩:=d;cases j
 exact not_of (qe ⟨.bl (!c),f,l,rfl,d⟩)
def tIf(t:TT)(f d:TE):TE:=λ a H Q=>t a H λ c b=>if c=true then f a b Q else d a b Q
def kAM{c:iW}(o:PT X c tA)(n:PE X a ta)(p:PE X b tb):PE X (.IfExp c a b pos) (tIf tA ta tb):=by
 intro f s g H Q I h;refine wpAny_IfExp (thn (o f s g H _ I h) λ d m ⟨i,l,j⟩=>?_)
 cases d with
 | true=>exact n f m g i Q l j
 | false=>exact p f m g i Q l j
end
def SqL(K:be)(H:Hp)(a:av)(xs:List V):Prop :=
 Rd H a (.lst xs) \/
  ∃(o:Obj)(b:Array au)(n:Nat),K.lookup a=some o/\o.cls=.type "list"/\o.dict=none/\o.data=.seq b n/\b.size<=sizeLine/\Vals xs b.toList
def SqT(K:be)(H:Hp)(a:av)(xs:List V):Prop :=
 Rd H a (.tup xs) \/
  ∃(o:Obj)(b:Array au)(n:Nat),K.lookup a=some o/\o.cls=.type "tuple"/\o.data=.seq b n/\b.size<=sizeLine/\Vals xs b.toList
def kWM:au->Option V
 | .none=>some .non
 | .bool b=>some (.bl b)
 | .int i _=>some (.int i)
 | .str x _=>some (.str x)
 | .bytes b _=>some (.byt b)
 | .float b _=>some (.flt b)
 | .ref a=>some (.ref a)
 | .type n=>some (.ty n)
 | _=>none
def RelV.abs{x:V}{u:au}(r:RelV x u):kWM u=some x:=by
 cases x with
 | non=>cases r;rfl
 | bl _=>cases r;rfl
 | int _=>obtain⟨t,rfl⟩:=r;rfl
 | str _=>obtain⟨t,rfl⟩:=r;rfl
 | byt _=>obtain⟨t,rfl⟩:=r;rfl
 | flt _=>obtain⟨t,rfl⟩:=r;rfl
 | ref _=>cases r;rfl
 | ty _=>cases r;rfl
def RelV.inj{x y:V}{u:au}(r:RelV x u)(q:RelV y u):x=y:=bh (r.abs.symm.trans q.abs)
theorem Vals.inj:∀{xs ys:List V}{a:List au},Vals xs a->Vals ys a->xs=ys
 | _,_,_,.nil,.nil=>rfl
 | _,_,_,.cons r t,.cons r' t'=>by rw[r.inj r',Vals.inj t t']
section
variable {X:Cx} {pins:List (av×Obj)} {σ:St} {H:Hp} {s:az} {a:av} {xs ys:List V}
def SqL.of{K:be}(h:H a=some (.lst xs)):SqL K H a xs:=.inl (.inl h)
def SqT.of{K:be}(h:H a=some (.tup xs)):SqT K H a xs:=.inl (.inl h)
def Inv.list(I:Inv X pins σ H s)(h:SqL X.K H a xs):∃ its:List au,Vals xs its/\PlainL s.heap a its.toArray/\xs.length<=sizeLine:=by
 rcases h with h | ⟨o,its,n,d,c,b,f,g,r⟩
 ·obtain⟨z,its,n,r,e⟩:=h.ok I.hok
  exact⟨its,r,⟨_,n,e,rfl,rfl,rfl⟩,z⟩
 ·refine⟨its.toList,r,⟨o,n,I.kIn a o d,c,b,by simpa using f⟩,?_⟩
  have e:=r.length;simp only[iE]at e;omega
def Inv.tuple(I:Inv X pins σ H s)(h:SqT X.K H a xs):∃ its:List au,Vals xs its/\ES s.heap a its.toArray/\xs.length<=sizeLine:=by
 rcases h with h | ⟨o,its,n,c,b,d,f,r⟩
 ·obtain⟨z,its,r,p⟩:=h.ok I.hok
  exact⟨its,r,p.isTup,z⟩
 ·refine⟨its.toList,r,⟨o,I.kIn a o c,b,n,by simpa using d⟩,?_⟩
  have e:=r.length;simp only[iE]at e;omega
def Inv.list_inj(I:Inv X pins σ H s)(h:SqL X.K H a xs)(h':SqL X.K H a ys):xs=ys:=by
 obtain⟨c,r,⟨o,n,e,_,_,d⟩,_⟩:=I.list h;obtain⟨b,i,⟨j,l,g,_,_,f⟩,_⟩:=I.list h';rw[e]at g;cases g;rw[d]at f;injection f with d1 _
 have:c=b:=by simpa using congrArg GA d1
 subst this;exact r.inj i
def Inv.tuple_inj(I:Inv X pins σ H s)(h:SqT X.K H a xs)(h':SqT X.K H a ys):xs=ys:=by
 obtain⟨c,r,⟨o,e,_,n,d⟩,_⟩:=I.tuple h;obtain⟨b,i,⟨j,g,_,l,f⟩,_⟩:=I.tuple h';rw[e]at g;cases g;rw[d]at f;injection f with d1 _
 have:c=b:=by simpa using congrArg GA d1
 subst this;exact r.inj i
end
abbrev Cx.wish(X:Cx)(E:au->az->Prop):Cx:={X with xe:=E}
abbrev Cx.nox(X:Cx):Cx:=X.wish λ _ _=>False
theorem Cx.Ok.wish{X:Cx}(ok:X.Ok)(E:au->az->Prop):(X.wish E).Ok :=
 ⟨ok.mod,ok.kind,ok.glob,ok.blt,ok.above,ok.inj,ok.has,ok.cab,ok.hd,ok.frames,ok.stk,ok.exf,ok.bs,ok.bsz,ok.noex,ok.exfs,ok.funs,ok.frf⟩
def Cx.Ok.unwish{X:Cx}{E:au->az->Prop}(ok:(X.wish E).Ok):X.Ok :=
 ⟨ok.mod,ok.kind,ok.glob,ok.blt,ok.above,ok.inj,ok.has,ok.cab,ok.hd,ok.frames,ok.stk,ok.exf,ok.bs,ok.bsz,ok.noex,ok.exfs,ok.funs,ok.frf⟩
section
variable {X:Cx} {pins:List (av×Obj)} {σ:St} {H:Hp} {s:az} {E:au->az->Prop}
theorem Inv.wish(I:Inv X pins σ H s)(E:au->az->Prop):Inv (X.wish E) pins σ H s:=⟨I.ok.wish E,I.os,I.bare,I.base,I.loc,I.cell,I.free,I.freeC,I.pin,I.hok,I.len⟩
theorem Inv.unwish(I:Inv (X.wish E) pins σ H s):Inv X pins σ H s:=⟨I.ok.unwish,I.os,I.bare,I.base,I.loc,I.cell,I.free,I.freeC,I.pin,I.hok,I.len⟩
theorem SP.unwish{D:Ends}{f:Flow}{c:az}(h:SP (X.wish E) pins D f c):SP X pins D f c:=by
 cases f with
 | next=>obtain⟨a,b,I,q⟩:=h;exact⟨a,b,I.unwish,q⟩
 | brk=>obtain⟨a,b,I,q⟩:=h;exact⟨a,b,I.unwish,q⟩
 | cont=>obtain⟨a,b,I,q⟩:=h;exact⟨a,b,I.unwish,q⟩
 | ret u=>obtain⟨v,a,b,I,r,q⟩:=h;exact⟨v,a,b,I.unwish,r,q⟩
theorem PSs.nox{st:List oz}{t:TS}(h:PSs X.nox st t):PSs X st t:=λ a s b H D I c =>
 we (h a s b H D (I.wish _) c) (λ _ _ q=>q.unwish) λ _ _ z=>xj z
end
section
variable {X:Cx} {st:oz} {rest:List oz} {t u:TS} {e:iW} {te:TE} {pos:Pos}
def kUF:TS:=λ D a H=>D.nx a H
def kVY(t u:TS):TS:=λ D a H=>t {D with nx:=u D} a H
def jD:PSs X [] kUF:=λ _ _ a H _ I h=>Az ⟨a,H,I,h⟩
def kH(h1:PS X st t)(d:PSs X rest u):PSs X (st::rest) (kVY t u):=by
 intro a s g H D I h;refine EI (thn (h1 a s g H {D with nx:=u D} I h) λ f j q=>?_)
 cases f with
 | next =>
  obtain⟨b,i,c,q⟩:=q;exact d a j b i D c q
 | ret v=>exact q
 | brk=>exact q
 | cont=>exact q
def kJ(h1:PS X st t):PSs X [st] t:=by
 intro a s b H D I h;refine EI (thn (h1 a s b H D I h) λ f c q=>?_)
 cases f with
 | next=>exact Az q
 | ret v=>exact q
 | brk=>exact q
 | cont=>exact q
def Inv.quiet{a:List (av×Obj)}{b:St}{H:Hp}{s:az}(I:Inv X a b H s):interactive X.env=false:=by simp[interactive,I.ok.kind]
def kUH(b:TE):TS:=λ D a H=>b a H λ _ c=>D.nx a c
def qR(g:PE X e te)(i:swapsWith e none pos.line X.env=pure false:=by rfl):PS X (.Expr e pos) (kUH te):=by
 intro a s b H D I h;exact wpAny_Expr_any (thn (g a s b H _ I h) λ v j ⟨x,c,f,l,d⟩=>⟨b,c,f,d⟩) I.quiet i
def kWA(a:TE):TS:=λ D b H=>a b H D.rt
def kW(i:PE X e te):PS X (.Return (some e) pos) (kWA te):=by
 intro a s b H D I h;exact wpAny_Return_some (thn (i a s b H _ I h) λ v j ⟨x,c,g,d,f⟩=>⟨x,b,c,g,d,f⟩)
def kWD(c:TT)(t u:TS):TS:=λ D a H=>c a H λ b d=>if b=true then t D a d else u D a d
def yM{c:iW}{a b:List oz}{i:TT}(p:PT X c i)(o:PSs X a t)(q:PSs X b u):PS X (.If c a b pos) (kWD i t u):=by
 intro f s g H D I h;refine wpAny_If (thn (p f s g H _ I h) λ d l ⟨j,n,m⟩=>?_)
 cases d with
 | true=>exact o f l g j D n m
 | false=>exact q f l g j D n m
end
abbrev TG:=V->St->Hp->(St->Hp->Prop)->Prop
abbrev TGs:=List V->St->Hp->(St->Hp->Prop)->Prop
def PG(X:Cx)(a:iW)(t:TG):Prop :=
 ∀(pins:List (av×Obj))(s:az)(σ:St)(H:Hp)(v:V)(u:au)(Q:St->Hp->Prop),Inv X pins σ H s->RelV v u->t v σ H Q ->
  dj (model X.prog X.w) X.A (assign a X.env u) (λ _ d=>∃ b c,Inv X pins b c d/\Q b c) X.xe s
def PGs(X:Cx)(ts:List iW)(t:TGs):Prop :=
 ∀(pins:List (av×Obj))(s:az)(σ:St)(H:Hp)(vs:List V)(us:List au)(Q:St->Hp->Prop),Inv X pins σ H s->Vals vs us->t vs σ H Q ->
  dj (model X.prog X.w) X.A (assignInOrder ((assignEach ts X.env).map (·.2)) us) (λ _ c=>∃ a b,Inv X pins a b c/\Q a b) X.xe s
abbrev kTY:=V->V->V->Hp->(Hp->Prop)->Prop
def kVR(X:Cx)(t:kTY):Prop :=
 ∀(pins:List (av×Obj))(s:az)(σ:St)(H:Hp)(o i v:V)(ov iv u:au)(Q:Hp->Prop),Inv X pins σ H s->RelV o ov->RelV i iv->RelV v u->t o i v H Q ->
  dj (model X.prog X.w) X.A (setItem ov iv u) (λ _ b=>∃ a,Inv X pins σ a b/\Q a) X.xe s
section
variable {X:Cx} {pos:Pos}
def vU(i:Nat):TG:=λ v a H Q=>Q (a.set i (some v)) H
def jT{i:Nat}{x:Str}(d:X.N.Nodup)(hi:X.N[i]?=some x)(b:Loc X.env.scope x)(f:X.fn x=true\/X.env.scope.names.lookup x=some .local:=by first | exact .inl rfl | exact .inr rfl | assumption):PG X (.Name x pos) (vU i):=by
 intro a s g H v u Q I r h;exact Bp (tP I d hi b r (λ j c=>⟨_,H,c,h⟩) f)
inductive kQE(vs:List V)(σ:St)(H:Hp)(Q:St->Hp->Prop):Prop
 | mk:(vs=[])->(Q σ H)->kQE vs σ H Q
inductive mK(t:TG)(u:TGs)(vs:List V)(σ:St)(H:Hp)(Q:St->Hp->Prop):Prop
 | mk:∀ v r,(vs=v::r)->(t v σ H λ σ' H'=>u r σ' H' Q)->mK t u vs σ H Q
def qM:PGs X [] kQE:=by
 intro a s b H d c Q I r h;obtain⟨e,h⟩:=h;subst e;cases r
 exact assignInOrder_nil ⟨b,H,I,h⟩
def kN{e:iW}{b:List iW}{t:TG}{u:TGs}(h1:PG X e t)(j:PGs X b u)
  (i:(assignEach (e::b) X.env).map (·.2)=assign e X.env::(assignEach b X.env).map (·.2):=by rfl):PGs X (e::b) (mK t u):=by
 intro a s l H q p Q I r h;obtain⟨v,o,n,h⟩:=h;subst n
 cases r with
 | cons r rr =>
  rw[i];refine assignInOrder_cons (thn (h1 a s l H _ _ _ I r h) λ _ m ⟨c,d,g,f⟩=>?_);exact j a m c d _ _ Q g rr f
inductive aO(K:be)(n:Nat)(t:TGs)(v:V)(σ:St)(H:Hp)(Q:St->Hp->Prop):Prop
 | mk:∀ a xs,(v=.ref a)->(SqT K H a xs)->(xs.length=n)->(t xs σ H Q)->aO K n t v σ H Q
def qW{d:List iW}{k:Nat}{t:TGs}{n:Nat}(D:X.calm=true)(h:PGs X d t)
  (p:(assignEach d X.env).length=n:=by rfl) (f:(assignEach d X.env).findIdx? (·.1)=none:=by rfl):PG X (.Tuple d k pos) (aO X.K n t):=by
 intro c s j H v u Q I r g;obtain⟨a,q,G,m,x,g⟩:=g;subst G;cases r
 obtain⟨y,i,A,J⟩:=I.tuple m;refine assign_Tuple_tuple (I.ok.hd D) A (by simp[p,<-x,i.length]) f λ l C=>?_;have B:Inv X c j H {s with heap:=l}:=I.kept (t':=s.toks) λ b o e=>C b o (dw (cj e)) e
 exact h c _ j H q _ Q B (by simpa using i) g
def kWK(to f:TE)(t:kTY):TG:=λ v a H Q=>to a H λ o b=>f a b λ i d=>t o i v d λ c=>Q a c
def kCY{o i:iW}{to c:TE}{t:kTY}(L:PE X o to)(hi:PE X i c)(A:kVR X t)
  (B:∀ v,assign (.Subscript o i pos) X.env v=(do
   let ov <-holding [v] (eval o X.env)
   let iv <-holding [v,ov] (eval i X.env)
   standAt pos
   holding [v,ov,iv] (setItem ov iv v)
   release [v,ov,iv] []):=by intro _;rfl):PG X (.Subscript o i pos) (kWK to c t):=by
 intro a s b H v u Q I r h;rw[B];refine ai (kr (thn (L a s b H _ I h) λ ov D ⟨x,f,n,l,m⟩=>?_));refine ai (kr (thn (hi a D b f _ n m) λ iv p ⟨y,C,J,q,g⟩=>?_));refine ai (ya (ai (kr (thn (A a p b C x y v ov iv u _ J l q r g) λ _ M ⟨G,d,j⟩=>?_))));exact wpAny_release ⟨b,G,d,j⟩
def kJZ(b:TE)(g:TG):TS:=λ D a H=>b a H λ x c=>g x a c D.nx
def yH{b e:iW}{d:TE}{g:TG}(r:PE X e d)(p:PG X b g)(m:swapsWithSole [b] e pos.line X.env=pure false:=by rfl)(n:swappedStores [b] e X.env=pure none:=by rfl)
  (h1:(assignEach [b] X.env).map (·.2)=[assign b X.env]:=by rfl):PS X (.Assign [b] e pos) (kJZ d g):=by
 intro a s c H D I h;refine wpAny_Assign_stores (thn (r a s c H _ I h) λ v o ⟨x,f,l,i,j⟩=>?_) m n;rw[h1];exact thn (p a o c f x v _ l i j) λ _ u q=>q
def kSH{i:Nat}{x:Str}{e:iW}{c:TE}{a:Pos}(n:X.N.Nodup)(hi:X.N[i]?=some x)(p:Loc X.env.scope x)(r:PE X e c)(l:swapsWith e (some (.Name x a)) pos.line X.env=pure false:=by rfl)(o:X.fn x=true\/X.env.scope.names.lookup x=some .local:=by first | exact .inl rfl | exact .inr rfl | assumption) :
  PS X (.Assign [.Name x a] e pos) (kJZ c (vU i)):=by
 intro b s m H D I h;refine wpAny_Assign_Name (thn (r b s m H _ I h) λ v A ⟨y,d,j,f,g⟩=>?_) l;exact tP j n hi p f (λ u q=>⟨_,d,q,g⟩) o
def kJS(c:TT)(i:TS):TS:=λ D a H=>∃ W:Nat->St->Hp->Prop,(∃ m,W m a H)/\∀ m a H,W m a H ->
 c a H λ b f=>if b=true then ∃ N:St->Hp->Prop,(∀ d g,N d g->∃ h,h<m/\W h d g)/\i {D with nx:=N,ct:=N,bk:=D.nx} a f else D.nx a f
def kLK{c:iW}{i:List oz}{C:TT}{L:TS}(hp:Fn (model X.prog X.w) X.A X.env X.xe)(hc:PT X c C)(O:PSs X i L):PS X (.While c i [] pos) (kJS C L):=by
 intro a s U H D I h;obtain⟨W,⟨Z,T⟩,turn⟩:=h;refine wpAny_While (codeAny_whileLoop (λ n s'=>∃ j B,Inv X a j B s'/\W n j B) ?_ Z ⟨U,H,I,T⟩);rintro n Y ⟨g,y,Q,w1⟩;refine uu hp (thn (hc a Y g y _ Q (turn n g y w1)) λ b S ⟨G,M,m⟩=>?_)
 cases b with
 | true =>
  obtain⟨N,J,m⟩:=m;rw[if_pos rfl];refine uu hp (thn (O a S g G _ M m) λ f s3 o=>?_)
  cases f with
  | next =>
   obtain⟨d,l,p,u⟩:=o;obtain⟨x,r,q⟩:=J d l u;exact⟨x,r,d,l,p,q⟩
  | cont =>
   obtain⟨d,l,p,u⟩:=o;obtain⟨x,r,q⟩:=J d l u;exact⟨x,r,d,l,p,q⟩
  | brk=>exact o
  | ret v=>exact o
 | false =>
  rw[if_neg eC];exact Az ⟨g,G,M,m⟩
end
structure It where
 go:Nat->Hp->Prop
 yld:Nat->Hp->V->Hp->Prop
 stop:Nat->Hp->Prop
def zG(X:Cx)(a:List (av×Obj))(H:Hp)(b:av):Prop :=
 H b=none/\b≠X.env.locals/\b∉X.fs/\(b∈X.ex\/X.s₀.heap.objs.size<=b)/\(∀ x c,X.env.cells.lookup x=some c->c≠b)/\∀ p∈X.pn++a,p.1≠b
def Inv.fpOk{X:Cx}{a:List (av×Obj)}{f:St}{H H':Hp}{s:az}{b:av}(I:Inv X a f H s)(d:s.heap.objs.size<=b)(g:H' b=none):zG X a H' b:=by
 refine⟨g,ja (cv I.lt d),I.nofs d,.inr (jt I.sz d),λ x c e z=>?_,λ p hp z=>?_⟩
 ·obtain⟨v,q⟩:=I.cell x c e
  exact absurd (cv q.lt (by rw[z];exact d)) (rj _)
 ·exact absurd (cv (cj (I.pin p hp).1) (by rw[z];exact d)) (rj _)
structure Turn(P:eX)(w:iN)(K:be)(tg:iW)(J:It)(fp:List av)(it:av)(tn:Nat->iV->Prop):Prop where
 mem:it∈fp
 obj:∀ i h,tn i h->∀ b∈fp,∃ o,h.get? b=some o/\∀ v,o.data≠.cell v
 keep:∀ i h h',tn i h->(∀ b∈fp,∀ o,h.get? b=some o->h'.get? b=some o)->tn i h'
 item:∀(X:Cx),X.prog=P->X.w=w->X.K=K->X.calm=true->∀(i:Nat)(pins:List (av×Obj))(s:az)(σ:St)(H:Hp)(E:au->az->Prop),Inv X pins σ H s->(∀ b∈fp,zG X pins H b)->tn i s.heap->J.go i H ->
  dj (model P w) X.A (pyNext (.ref it)) (λ r s1=>∃ u,r=some u /\
   dj (model P w) X.A (letOwnedTupleGo tg (.ref it) u) (λ _ s2=>∃ x H',Inv X pins σ H' s2/\RelV x u/\J.yld i H x H'/\tn (i+1) s2.heap/\∀ b∈fp,H' b=none) E s1) E s
 done:∀(X:Cx),X.prog=P->X.w=w->X.K=K->X.calm=true->∀(i:Nat)(pins:List (av×Obj))(s:az)(σ:St)(H:Hp)(E:au->az->Prop),Inv X pins σ H s->(∀ b∈fp,zG X pins H b)->tn i s.heap->J.stop i H ->
  dj (model P w) X.A (pyNext (.ref it)) (λ r s1=>r=none/\Inv X pins σ H s1) E s
 self:∀(A:fk)(i:Nat)(s:az)(Q:au->az->Prop)(E:au->az->Prop),tn i s.heap->Q (.ref it) s->dj (model P w) A (pyIter (.ref it)) Q E s
abbrev TI:=St->Hp->(It->Hp->Prop)->Prop
def PIE(X:Cx)(a:List (av×Obj))(j:St)(i:iW)(R:It->Hp->Prop)(c:au)(h:az):Prop :=
 ∃(it:av)(f:List av)(g:Nat->iV->Prop)(J:It)(d:Hp),c=.ref it/\Inv X a j d h/\Turn X.prog X.w X.K i J f it g/\g 0 h.heap/\(∀ b∈f,zG X a d b)/\R J d
def PI(X:Cx)(c iter:iW)(b:TI):Prop :=
 ∀(pins:List (av×Obj))(s:az)(σ:St)(H:Hp)(R:It->Hp->Prop),Inv X pins σ H s->b σ H R ->
  dj (model X.prog X.w) X.A (eval iter X.env) (λ v a=>dj (model X.prog X.w) X.A (pyIter v) (PIE X pins σ c R) X.xe a) X.xe s
def kMT{M : zi}{A : fk}{E : au -> az -> Prop}{s : az}{b : iW}{it : av}{u : au}{o : Obj}{n : String}{c : Array au}{Q : Unit -> az -> Prop}(i : s.heap.get? it = some o)(f : o.cls = .type n)(d : o.data = .fields c)
    (g : ["enumerate", "zip", "dict_itemiterator", "dict_reverseitemiterator", "odict_iterator", "itertools.zip_longest", "itertools.pairwise"].contains n = false) (a : Q () s) : dj M A (letOwnedTupleGo b (.ref it) u) Q E s := by
  unfold letOwnedTupleGo
  cases b <;> first
    | exact bg a
    | (cases u <;> first
        | exact bg a
        | (refine ai (wpAny_load i ?_)
           rw[f, d];show dj M A (if(["enumerate", "zip", "dict_itemiterator", "dict_reverseitemiterator", "odict_iterator", "itertools.zip_longest", "itertools.pairwise"].contains n && c[0]? == some (rawInt _)) = true then _ else _) Q E s;rw[if_neg (by intro h; rw[g, Ei]at h; cases h)];exact bg a))
def Itl(K:be)(a:av):It :=
 ⟨λ i H=>∃ b x,SqL K H a b/\b[i]?=some x,λ i H x c=>c=H/\∀ b,SqL K H a b->b[i]?=some x,λ i H=>∃ b,SqL K H a b/\b.length<=i⟩
def Itt(K:be)(a:av):It :=
 ⟨λ i H=>∃ b x,SqT K H a b/\b[i]?=some x,λ i H x c=>c=H/\∀ b,SqT K H a b->b[i]?=some x,λ i H=>∃ b,SqT K H a b/\b.length<=i⟩
def Itr(lo:Int)(n:Nat):It:=⟨λ i _=>i<n,λ i H x a=>a=H/\x=.int (lo+i),λ i _=>n<=i⟩
def kHF{P:eX}{w:iN}{K:be}{tg:iW}(a it:av):Turn P w K tg (Itl K a) [it] it (λ i h=>h.IsListIter it a i) where
 mem:=by simp
 obj:=λ i h st b g=>by
  have e:b=it:=by simpa using g
  subst e;obtain⟨o,e,c,d⟩:=st;exact⟨o,e,λ v z=>by rw[d]at z;cases z⟩
 keep:=λ i h l st k=>st.at λ o e=>k it (by simp) o e
 item:=by
  intro X q C A Q i f s O H E I n st M;subst q C A;obtain⟨T,x,m,G⟩:=M;obtain⟨y,r,p,hz⟩:=I.list m;obtain⟨u,hu,Y⟩:=r.get G;obtain⟨N,B,f2,L,D,J⟩:=n it (by simp);refine wpAny_pyNext_list_item st p.isList (x:=u) (by simpa using hu) λ l j Z=>?_;have U:Inv X f O H {s with heap:=l}:=I.turned (t':=s.toks) (λ b o g e=>(Z.2 b g).trans e) N B L D J
  obtain⟨o,e,c,d⟩:=id j;exact⟨u,rfl,kMT (s:={s with heap:=l}) e c d (by decide) ⟨x,H,U,Y,⟨rfl,λ ys S=>by rw[I.list_inj S m];exact G⟩,j,λ b g=>(n b g).1⟩⟩
 done:=by
  intro X q C A Q i f s O H E I n st M;subst q C A;obtain⟨T,m,G⟩:=M;obtain⟨y,r,p,hz⟩:=I.list m;obtain⟨N,B,f2,L,D,J⟩:=n it (by simp);have hl:=r.length;exact wpAny_pyNext_list_end (I.ok.hd Q) st p.isList (by simp;omega) λ l eb=>⟨rfl,I.turned (t':=s.toks) (λ b o g e=>eb b o g e) N B L D J⟩
 self:=λ _ _ _ _ _ st h=>wpAny_pyIter_listiter st h
def kCF{P:eX}{w:iN}{K:be}{tg:iW}(a it:av):Turn P w K tg (Itt K a) [it] it (λ i h=>h.IsTupleIter it a i) where
 mem:=by simp
 obj:=λ i h st b g=>by
  have e:b=it:=by simpa using g
  subst e;obtain⟨o,e,c,d⟩:=st;exact⟨o,e,λ v z=>by rw[d]at z;cases z⟩
 keep:=λ i h m st k=>st.at λ o e=>k it (by simp) o e
 item:=by
  intro X r C A Q i f s O H E I q st M;subst r C A;obtain⟨T,x,n,G⟩:=M;obtain⟨j,y,p,hz⟩:=I.tuple n;obtain⟨u,hu,Y⟩:=y.get G;obtain⟨N,B,f2,L,D,J⟩:=q it (by simp);refine wpAny_pyNext_tuple_item st (show s.heap.IsTuple a j.toArray from p) (x:=u) (by simpa using hu) λ m l Z=>?_;have U:Inv X f O H {s with heap:=m}:=I.turned (t':=s.toks) (λ b o g e=>(Z.2 b g).trans e) N B L D J
  obtain⟨o,e,c,d⟩:=id l;exact⟨u,rfl,kMT (s:={s with heap:=m}) e c d (by decide) ⟨x,H,U,Y,⟨rfl,λ ys S=>by rw[I.tuple_inj S n];exact G⟩,l,λ b g=>(q b g).1⟩⟩
 done:=by
  intro X r C A Q i f s O H E I q st M;subst r C A;obtain⟨T,n,G⟩:=M;obtain⟨j,y,p,hz⟩:=I.tuple n;obtain⟨N,B,f2,L,D,J⟩:=q it (by simp);have hl:=y.length;exact wpAny_pyNext_tuple_end (I.ok.hd Q) st (show s.heap.IsTuple a j.toArray from p) (by simp;omega) λ m eb=>⟨rfl,I.turned (t':=s.toks) (λ b o g e=>eb b o g e) N B L D J⟩
 self:=λ _ _ _ _ _ st h=>wpAny_pyIter_tupleiter st h
def kCG{P:eX}{w:iN}{K:be}{G:iW}(it:av)(lo:Int)(n:Nat):Turn P w K G (Itr lo n) [it] it (λ i h=>IsRangeIter h it (lo+(i:Nat)*1) ((n:Int)-(i:Nat)) 1) where
 mem:=by simp
 obj:=λ i h st b c=>by
  have e:b=it:=by simpa using c
  subst e
  exact⟨_,st,λ v z=>by
   have M:Data.fields _=Data.cell v:=z
   cases M⟩
 keep:=λ i h f st k=>k it (by simp) _ st
 item:=by
  intro X j p l x i a s B H E I g st y;subst j p l;obtain⟨A,m,J,u,q,r⟩:=g it (by simp);have W:=Walks.range (prog:=X.prog) (w:=X.w) (I.ok.hd x) it lo 1 n;refine W.item i s _ _ y st λ v f tk L d D=>?_;obtain⟨t,rfl⟩:=L;have C:Inv X a B H {s with heap:=f,toks:=tk}:=I.turned (λ b o c e=>D b o (by simpa using c) e) A m u q r
  refine⟨_,rfl,kMT (s:={s with heap:=f,toks:=tk}) (n:="range_iterator") d rfl rfl (by decide) ⟨.int (lo+i),H,C,⟨t,?_⟩,⟨rfl,rfl⟩,d,λ b c=>(g b c).1⟩⟩
  rw[Int.mul_one]
 done:=by
  intro X j p l x i a s B H E I g st y;subst j p l;obtain⟨A,m,J,u,q,r⟩:=g it (by simp);exact wpAny_pyNext_range_end (I.ok.hd x) st (by have:n<=i:=y;omega) λ f N=>⟨rfl,I.turned (t':=s.toks) (λ b o c e=>N b o c e) A m u q r⟩
 self:=λ _ _ _ _ _ st h=>wpAny_pyIter_rangeiter st h
section
variable {X:Cx} {tg:iW}
inductive kMO(K:be)(R:It->Hp->Prop)(x:V)(H1:Hp):Prop
 | mk:∀ a,(x=.ref a)->((∃ xs,SqL K H1 a xs))->(R (Itl K a) H1)->kMO K R x H1
def kMP(K:be)(a:TE):TI:=λ c H R=>a c H λ x b=>kMO K R x b
inductive kRG(K:be)(R:It->Hp->Prop)(x:V)(H1:Hp):Prop
 | mk:∀ a,(x=.ref a)->((∃ xs,SqT K H1 a xs))->(R (Itt K a) H1)->kRG K R x H1
def kTH(K:be)(a:TE):TI:=λ c H R=>a c H λ x b=>kRG K R x b
def xW{l:iW}{g:TE}(r:PE X l g):PI X tg l (kMP X.K g):=by
 intro c s A H R I h;refine thn (r c s A H _ I h) λ v f ⟨x,i,d,n,y⟩=>?_;obtain⟨a,e,⟨C,j⟩,q⟩:=y;subst e;cases n
 obtain⟨u,B,p,D⟩:=d.list j;refine Bq p.isList ?_;refine⟨f.heap.objs.size,[f.heap.objs.size],_,_,i,rfl,d.kept (t':=f.toks) λ b o e=>ar _ e,kHF a _,⟨_,ck _ rfl,rfl,rfl⟩,λ b m=>?_,q⟩;have e:b=f.heap.objs.size:=by simpa using m
 subst e;exact d.fpOk (bf _) (d.hok.fresh (bf _))
def yI{l:iW}{i:TE}(u:PE X l i):PI X tg l (kTH X.K i):=by
 intro c s A H R I h;refine thn (u c s A H _ I h) λ v d ⟨x,j,f,r,y⟩=>?_;obtain⟨a,e,⟨C,m⟩,q⟩:=y;subst e;cases r
 obtain⟨g,B,p,D⟩:=f.tuple m;refine xk (show d.heap.IsTuple a g.toArray from p) ?_;refine⟨d.heap.objs.size,[d.heap.objs.size],_,_,j,rfl,f.kept (t':=d.toks) λ b o e=>ar _ e,kCF a _,⟨_,ck _ rfl,rfl,rfl⟩,λ b n=>?_,q⟩;have e:b=d.heap.objs.size:=by simpa using n
 subst e;exact f.fpOk (bf _) (f.hok.fresh (bf _))
def kAI{a:List (av×Obj)}{c:St}{H:Hp}{s:az}{R:It->Hp->Prop}{E:au->az->Prop}{lo hi:Int}{t u v:Tok}{tk:Nat}(I:Inv X a c H s)(h1 : -(2 ^ 62)<=lo)(h:lo<2 ^ 62)(g : -(2 ^ 62)<=hi)(f:hi<2 ^ 62)
  (q:R (Itr lo (hi-lo).toNat) H):dj (model X.prog X.w) X.A (pyIter (.ref s.heap.objs.size)) (PIE X a c tg R) E {s with heap:=s.heap.push {cls:=.type "range",data:=.fields #[.int lo t,.int hi u,.int 1 v]},toks:=tk}:=by
 refine wpAny_pyIter_range (GT ..) (small_one h1 h g f) ?_;have d:Inv X a c H {s with heap:=s.heap.push {cls:=.type "range",data:=.fields #[.int lo t,.int hi u,.int 1 v]},toks:=tk}:=I.kept λ b o e=>ar _ e
 refine⟨(s.heap.push {cls:=.type "range",data:=.fields #[.int lo t,.int hi u,.int 1 v]}).objs.size,[(s.heap.push {cls:=.type "range",data:=.fields #[.int lo t,.int hi u,.int 1 v]}).objs.size],_,_,H,rfl,
  d.kept (t':=tk) λ b o e=>ar _ e,kCG _ lo (hi-lo).toNat,?_,λ b l=>?_,q⟩
 ·have j:lo+((0:Nat):Int)*1=lo:=by simp
  have i:(((hi-lo).toNat:Nat):Int)-((0:Nat):Int)=Fo lo hi 1:=by rw[rangeSize_one];split<;>omega
  show IsRangeIter _ _ (lo+((0:Nat):Int)*1) ((((hi-lo).toNat:Nat):Int)-((0:Nat):Int)) 1;rw[j,i];exact ck _ rfl
 ·have e:b=(s.heap.push {cls:=.type "range",data:=.fields #[.int lo t,.int hi u,.int 1 v]}).objs.size:=by simpa using l
  subst e;exact d.fpOk (bf _) (d.hok.fresh (bf _))
inductive kMN(R:It->Hp->Prop)(vs:List V)(H1:Hp):Prop
 | mk:∀(j:Int),(vs=[.int j])->(-(2 ^ 62)<=j)->(j<2 ^ 62)->(R (Itr 0 j.toNat) H1)->kMN R vs H1
def kVG(c:TA):TI:=λ b H R=>c b H λ d a=>kMN R d a
inductive kMM(R:It->Hp->Prop)(vs:List V)(H1:Hp):Prop
 | mk:∀(i j:Int),(vs=[.int i,.int j])->((-(2 ^ 62)<=i/\i<2 ^ 62/\-(2 ^ 62)<=j/\j<2 ^ 62))->(R (Itr i (j-i).toNat) H1)->kMM R vs H1
def kVF(c:TA):TI:=λ b H R=>c b H λ d a=>kMM R d a
def xE{a:iW}{f:TA}{p b:Pos}(v:Gl X "range")(i:X.mg "range" = none)(o:PA X [a] f)(n:starEach [a] X.env=[(false,eval a X.env)]:=by rfl):PI X tg (.Call (.Name "range" p) [a] [] b) (kVG f):=by
 intro c s u H R I h;refine Fv (wH I v i Ej (iu (thn (o b c s u H _ I h) λ A y ⟨B,x,m,l,d⟩=>?_) n rfl));obtain⟨j,e,d,g,q⟩:=d;subst e
 cases l with
 | cons r rr =>
  cases rr
  obtain⟨t,rfl⟩:=r;exact call_range_1 (kAI m (by omega) (by omega) d g (by simpa using q))
def kHY{a b:iW}{l:TA}{p c:Pos}(C:Gl X "range")(o:X.mg "range" = none)(A:PA X [a,b] l)(y:starEach [a,b] X.env=[(false,eval a X.env),(false,eval b X.env)]:=by rfl)(d:starEach [b] X.env=[(false,eval b X.env)]:=by rfl) :
  PI X tg (.Call (.Name "range" p) [a,b] [] c) (kVF l):=by
 intro f s B H R I h;refine Fv (wH I C o Ej (iu (thn (A c f s B H _ I h) λ L J ⟨M,D,x,u,g⟩=>?_) (by rw[y,d]) (by rw[d];rfl)));obtain⟨i,j,e,⟨g,m,n,v⟩,q⟩:=g;subst e
 cases u with
 | cons r rr =>
  cases rr with
  | cons r' rr =>
   cases rr
   obtain⟨t,rfl⟩:=r;obtain⟨G,rfl⟩:=r';exact call_range_2 (kAI x g m n v q)
def kUG(h:TI)(g:TG)(l:TS):TS:=λ D a H=>h a H λ J j=>∃ W:Nat->Nat->St->Hp->Prop,(∃ m,W 0 m a j)/\∀ i m a H,W i m a H ->
 (J.stop i H/\D.nx a H)\/(J.go i H/\∃ N:St->Hp->Prop,(∀ c b,N c b->∃ f,f<m/\W (i+1) f c b)/\∀ x b,J.yld i H x b->g x a b λ d n=>l {D with nx:=N,ct:=N,bk:=D.nx} d n)
def rJ(a:List av)(h:iV):List (av×Obj):=a.filterMap λ b=>(h.get? b).map λ o=>(b,o)
def vI{a:List av}{h:iV}{b:av}{o:Obj}(c:b∈a)(e:h.get? b=some o):(b,o)∈rJ a h:=DU.mpr ⟨b,c,by rw[e];rfl⟩
def kIC{a:List av}{h:iV}{p:av×Obj}(hp:p∈rJ a h):p.1∈a/\h.get? p.1=some p.2:=by
 obtain⟨b,d,e⟩:=DU.mp hp
 cases q:h.get? b with
 | none=>rw[q]at e;cases e
 | some o =>
  rw[q]at e;have c:(b,o)=p:=bh e;subst c;exact⟨d,q⟩
def Inv.pinned{a:List (av×Obj)}{f:St}{H:Hp}{s:az}{c:List av}(I:Inv X a f H s)(m:∀ b∈c,zG X a H b)(l:∀ b∈c,∃ o,s.heap.get? b=some o/\∀ v,o.data≠.cell v):Inv X (a++rJ c s.heap) f H s :=
 I.pins_of λ p hp=>(bz.mp hp).elim (λ z=>I.pin p (dc _ z)) λ z=>by
  obtain⟨g,e⟩:=kIC z;obtain⟨j,i,n,_⟩:=m p.1 g;obtain⟨o,h,d⟩:=l p.1 g;rw[e]at h;cases h;exact⟨e,j,i,n,d⟩
def Inv.unpinned{a c:List (av×Obj)}{b:St}{H:Hp}{s:az}(I:Inv X (a++c) b H s):Inv X a b H s:=I.pins_of λ p hp=>I.pin p (dc _ (df _ hp))
def kSI{iter:iW}{G:List oz}{wi:TI}{g:TG}{tb:TS}{a1:Pos}(hp:Fn (model X.prog X.w) X.A X.env X.xe)(hc:X.calm=true)(hi:PI X tg iter wi)(hg:PG X tg g)(j:PSs X G tb)
  (hs:∀ x,foldedSetIterable iter X.env x=pure x:=by intro _;rfl):PS X (.For tg iter G [] a1) (kUG wi g tb):=by
 intro a s σ H D I h;refine wpAny_For (thn (hi a s σ H _ I h) λ v s1 h1=>thn h1 λ a5 s2 h2=>?_) hs;obtain⟨it,S,tn,J,H2,e,I2,T,a3,f2,W,⟨m0,w0⟩,turn⟩:=h2
 subst e
 have B:∀{C:Hp},(∀ b∈S,C b=none)->∀ b∈S,zG X a C b:=λ hn b j=>⟨hn b j,(f2 b j).2⟩;refine codeAny_forLoop_any (λ n s'=>∃ i l C,Inv X a l C s'/\tn i s'.heap/\(∀ b∈S,C b=none)/\W i n l C) ?_ m0 ⟨0,σ,H2,I2,a3,λ b j=>(f2 b j).1,w0⟩;rintro n s3 ⟨i,y,Y,I3,O,U,w3⟩;rcases turn i n y Y w3 with⟨stop,qn⟩ | ⟨go,N,hN,step⟩
 ·refine uu hp (thn (T.done X rfl rfl rfl hc i a s3 y Y X.xe I3 (B U) O stop) λ r s4 ⟨Z,I4⟩=>?_)
  subst Z;exact Az ⟨y,Y,I4,qn⟩
 ·refine uu hp (thn (T.item X rfl rfl rfl hc i a s3 y Y X.xe I3 (B U) O go) λ r s4 ⟨u,Z,h4⟩=>?_)
  subst Z;refine uu hp (thn h4 λ _ s5 ⟨x,H5,I5,r5,y5,M,a0⟩=>?_);have a2:=I5.pinned (B a0) (T.obj _ _ M);refine uu hp (thn (hg _ s5 y H5 x u _ a2 r5 (step x H5 y5)) λ _ s6 ⟨a4,H6,I6,q6⟩=>?_);refine uu hp (thn (j _ s6 a4 H6 _ I6 q6) λ f s7 L=>?_)
  have again:∀{c:St}{q:Hp},Inv X (a++rJ S s5.heap) c q s7->N c q->∃ m,m<n/\∃ i l C,Inv X a l C s7/\tn i s7.heap/\(∀ b∈S,C b=none)/\W i m l C:=λ{c q} p Q=>by
   obtain⟨m',hm,w7⟩:=hN c q Q;refine⟨m',hm,i+1,c,q,p.unpinned,T.keep _ _ _ M λ b j o e=>(p.pin (b,o) (dc _ (dc _ (vI j e)))).1,λ b j=>?_,w7⟩;obtain⟨o,e,d⟩:=T.obj _ _ M b j;exact(p.pin (b,o) (dc _ (dc _ (vI j e)))).2.1
  cases f with
  | next=>obtain⟨c,q,p,Q⟩:=L;exact again p Q
  | cont=>obtain⟨c,q,p,Q⟩:=L;exact again p Q
  | brk=>obtain⟨c,q,p,L⟩:=L;exact⟨c,q,p.unpinned,L⟩
  | ret v=>obtain⟨x7,c,q,p,r7,L⟩:=L;exact⟨x7,c,q,p.unpinned,r7,L⟩
end
def kMV{K:be}{a:av}{xs:List V}{g:TG}{d:TS}{D:Ends}{b:St}{H:Hp}(Pv:Nat->St->Hp->Prop)(h0:Pv 0 b H)(h:∀ i b H,i<=xs.length->Pv i b H->SqL K H a xs)
  (n:∀ i x b H,xs[i]?=some x->Pv i b H->g x b H λ σ2 H2=>d {D with nx:=Pv (i+1),ct:=Pv (i+1),bk:=D.nx} σ2 H2) (j:∀ b H,Pv xs.length b H->D.nx b H) :
  ∃ W:Nat->Nat->St->Hp->Prop,(∃ m,W 0 m b H)/\∀ i m b H,W i m b H ->
   ((Itl K a).stop i H/\D.nx b H)\/((Itl K a).go i H/\∃ N:St->Hp->Prop,(∀ σ' H',N σ' H'->∃ m',m'<m/\W (i+1) m' σ' H')/\∀ x H',(Itl K a).yld i H x H'->g x b H' λ σ2 H2=>d {D with nx:=N,ct:=N,bk:=D.nx} σ2 H2):=by
 refine⟨λ i m b H=>m=xs.length-i/\i<=xs.length/\Pv i b H,⟨xs.length,by simp,iH _,h0⟩,?_⟩;rintro i m b H ⟨rfl,l,p⟩;have q:=h i b H l p;by_cases c:i<xs.length
 ·refine .inr ⟨⟨xs,xs[i],q,by simp[c]⟩,Pv (i+1),λ σ' H' f=>⟨xs.length-(i+1),by omega,rfl,c,f⟩,λ x H' y=>?_⟩
  obtain⟨e,y⟩:=y;subst e;exact n i x b _ (y xs q) p
 ·have e:i=xs.length:=by omega
  subst e;exact .inl ⟨⟨xs,q,bf _⟩,j b H p⟩
def zN{lo:Int}{n:Nat}{g:TG}{c:TS}{D:Ends}{a:St}{H:Hp}(Pv:Nat->St->Hp->Prop)(h0:Pv 0 a H)
  (h:∀ i a H,i<n->Pv i a H->g (.int (lo+i)) a H λ σ2 H2=>c {D with nx:=Pv (i+1),ct:=Pv (i+1),bk:=D.nx} σ2 H2) (f:∀ a H,Pv n a H->D.nx a H) :
  ∃ W:Nat->Nat->St->Hp->Prop,(∃ m,W 0 m a H)/\∀ i m a H,W i m a H ->
   ((Itr lo n).stop i H/\D.nx a H)\/((Itr lo n).go i H/\∃ N:St->Hp->Prop,(∀ σ' H',N σ' H'->∃ m',m'<m/\W (i+1) m' σ' H')/\∀ x H',(Itr lo n).yld i H x H'->g x a H' λ σ2 H2=>c {D with nx:=N,ct:=N,bk:=D.nx} σ2 H2):=by
 refine⟨λ i m a H=>m=n-i/\i<=n/\Pv i a H,⟨n,by simp,iH _,h0⟩,?_⟩;rintro i m a H ⟨rfl,j,p⟩;by_cases b:i<n
 ·refine .inr ⟨b,Pv (i+1),λ σ' H' d=>⟨n-(i+1),by omega,rfl,b,d⟩,λ x H' y=>?_⟩
  obtain⟨e,y⟩:=y;subst e y;exact h i a _ b p
 ·have e:i=n:=by omega
  subst e;exact .inl ⟨bf _,f a H p⟩
def kJJ{c:TT}{f:TS}{D:Ends}{a:St}{H:Hp}(Pv:St->Hp->Prop)(d:St->Hp->Nat)(h0:Pv a H)
  (h:∀ a H,Pv a H->c a H λ b H1=>if b=true then f {D with nx:=λ σ' H'=>Pv σ' H'/\d σ' H'<d a H,ct:=λ σ' H'=>Pv σ' H'/\d σ' H'<d a H,bk:=D.nx} a H1 else D.nx a H1)
  (mono:∀ a H Q Q',(∀ b H1,Q b H1->Q' b H1)->c a H Q->c a H Q'):kJS c f D a H:=by
 refine⟨λ m a H=>m=d a H/\Pv a H,⟨_,rfl,h0⟩,?_⟩;rintro m a H ⟨rfl,p⟩;refine mono a H _ _ (λ b H1 q=>?_) (h a H p)
 cases b with
 | true=>exact⟨_,λ σ' H' ⟨g,l⟩=>⟨_,l,rfl,g⟩,q⟩
 | false=>exact q
abbrev R2:=V->V->Hp->VK->Prop
def OpR(X:Cx)(f:au->au->Sem au)(r:R2):Prop :=
 ∀(pins:List (av×Obj))(s:az)(σ:St)(H:Hp)(x y:V)(v u:au)(Q:VK),Inv X pins σ H s->RelV x v->RelV y u->r x y H Q ->
  dj (model X.prog X.w) X.A (f v u) (EP X pins σ Q) X.xe s
def UnR(X:Cx)(f:au->Sem au)(r:V->Hp->VK->Prop):Prop :=
 ∀(pins:List (av×Obj))(s:az)(σ:St)(H:Hp)(x:V)(v:au)(Q:VK),Inv X pins σ H s->RelV x v->r x H Q ->
  dj (model X.prog X.w) X.A (f v) (EP X pins σ Q) X.xe s
def zD(X:Cx)(f:au)(r:List V->Hp->VK->Prop):Prop :=
 ∀(pins:List (av×Obj))(s:az)(σ:St)(H:Hp)(xs:List V)(us:List au)(Q:VK),Inv X pins σ H s->Vals xs us->r xs H Q ->
  dj (model X.prog X.w) X.A (call f us) (EP X pins σ Q) X.xe s
def kWN(X:Cx)(r:V->Hp->(Bool->Hp->Prop)->Prop):Prop :=
 ∀(pins:List (av×Obj))(s:az)(σ:St)(H:Hp)(x:V)(v:au)(Q:Bool->Hp->Prop),Inv X pins σ H s->RelV x v->r x H Q ->
  dj (model X.prog X.w) X.A (truthy v) (TP X pins σ Q) X.xe s
def tOp(r:R2)(f c:TE):TE:=λ a H Q=>f a H λ x b=>c a b λ y d=>r x y d Q
def tUn(r:V->Hp->VK->Prop)(c:TE):TE:=λ b H Q=>c b H λ x a=>r x a Q
inductive rI(C:Int->Int->Prop)(g:Int->Int->V)(x:V)(y:V)(H:Hp)(Q:VK):Prop
 | mk:∀ i j,(x=.int i)->(y=.int j)->(C i j)->(Q (g i j) H)->rI C g x y H Q
inductive rI0(g:Int->Int->V)(x:V)(y:V)(H:Hp)(Q:VK):Prop
 | mk:∀ i j,(x=.int i)->(y=.int j)->(Q (g i j) H)->rI0 g x y H Q
inductive rU(g:Int->V)(x:V)(H:Hp)(Q:VK):Prop
 | mk:∀ i,(x=.int i)->(Q (g i) H)->rU g x H Q
section
variable {X:Cx} {a b c:iW} {ta tb tc:TE} {pos:Pos}
def kTW(i:PE X a ta)(o:PE X b tb){c:List (av×Obj)}{s:az}{d:St}{H:Hp}{R:V->V->Hp->Prop}(I:Inv X c d H s)
  (h:ta d H λ x H1=>tb d H1 λ y H2=>R x y H2) {Q:au->az->Prop} {f:au->au->Sem au}
  (q:∀ v u s2 x y H2,Inv X c d H2 s2->RelV x v->RelV y u->R x y H2->dj (model X.prog X.w) X.A (f v u) Q X.xe s2) :
  dj (model X.prog X.w) X.A (eval a X.env) (λ v s₁=>dj (model X.prog X.w) X.A (eval b X.env) (λ u s₂=>dj (model X.prog X.w) X.A (f v u) Q X.xe s₂) X.xe s₁) X.xe s:=by
 refine thn (i c s d H _ I h) λ v l ⟨x,H1,n,r,m⟩=>?_;refine thn (o c l d H1 _ n m) λ u s2 ⟨y,H2,j,p,g⟩=>?_;exact q v u s2 x y H2 j r p g
def kY{d:Operator}{r:R2}(p:OpR X (binaryOp d) r)(j:PE X a ta)(f:PE X b tb):PE X (.BinOp a d b pos) (tOp r ta tb):=by
 intro c s l H Q I h;exact wpAny_BinOp (kTW j f I h λ v u g x y m n i o q=>p c g l m x y v u Q n i o q)
def bD{d:UnaryOp}{r:V->Hp->VK->Prop}(m:UnR X (unaryOp d) r)(g:PE X a ta):PE X (.UnaryOp d a pos) (tUn r ta):=by
 intro b s c H Q I h;exact UnaryOp_ (thn (g b s c H _ I h) λ v n ⟨x,f,l,j,i⟩=>m b n c f x v Q l j i)
def opI{f:au->au->Sem au}{C:Int->Int->Prop}{g:Int->Int->Int}
  (rule:∀(i j:Int)(t u:Tok)(s:az)(Q:au->az->Prop)(E:au->az->Prop),C i j->Q (.int (g i j) s.toks) {s with toks:=s.toks+1}->dj (model X.prog X.w) X.A (f (.int i t) (.int j u)) Q E s) :
  OpR X f (rI C λ i j=>.int (g i j)):=by
 intro a s m H x y v u Q I b l h;obtain⟨i,j,rfl,rfl,d,q⟩:=h;obtain⟨t,rfl⟩:=b;obtain⟨c,rfl⟩:=l;exact rule i j t c s _ _ d ⟨.int (g i j),H,I.tok _,⟨_,rfl⟩,q⟩
def kUX{f:au->au->Sem au}{g:Int->Int->Int}
  (rule:∀(i j:Int)(t u:Tok)(s:az)(Q:au->az->Prop)(E:au->az->Prop),Q (.int (g i j) s.toks) {s with toks:=s.toks+1}->dj (model X.prog X.w) X.A (f (.int i t) (.int j u)) Q E s) :
  OpR X f (rI0 λ i j=>.int (g i j)):=by
 intro a s l H x y v u Q I b d h;obtain⟨i,j,rfl,rfl,q⟩:=h;obtain⟨t,rfl⟩:=b;obtain⟨c,rfl⟩:=d;exact rule i j t c s _ _ ⟨.int (g i j),H,I.tok _,⟨_,rfl⟩,q⟩
def kSP{f:au->au->Sem au}{g:Int->Int->Bool}
  (rule:∀(i j:Int)(t u:Tok)(s:az)(Q:au->az->Prop)(E:au->az->Prop),Q (.bool (g i j)) s->dj (model X.prog X.w) X.A (f (.int i t) (.int j u)) Q E s) :
  OpR X f (rI0 λ i j=>.bl (g i j)):=by
 intro a s l H x y v u Q I b d h;obtain⟨i,j,rfl,rfl,q⟩:=h;obtain⟨t,rfl⟩:=b;obtain⟨c,rfl⟩:=d;exact rule i j t c s _ _ ⟨.bl (g i j),H,I,rfl,q⟩
def kWQ(i j:Int):Prop:=0<j/\j<1073741824
def kWP(i j:Int):Prop:=0<=j/\j<=1000000/\i.natAbs<2 ^ 64
def CMul(i j:Int):Prop:=(-(2 ^ 64)<i/\i<2 ^ 64)\/(-(2 ^ 64)<j/\j<2 ^ 64)
def CMul.ok{i j:Int}(h:CMul i j):IntMulOk i j:=by
 rcases h with⟨h1,a⟩ | ⟨h1,a⟩
 ·exact .of_left (intBits_le_64 h1 a)
 ·exact .of_right (intBits_le_64 h1 a)
def xL:OpR X (binaryOp .Add) (rI0 λ i j=>.int (i+j)):=kUX λ _ _ _ _ _ _ _ q=>add_int q
def yN:OpR X (binaryOp .Sub) (rI0 λ i j=>.int (i-j)):=kUX λ _ _ _ _ _ _ _ q=>sub_int q
def lH:OpR X (binaryOp .Mult) (rI CMul λ i j=>.int (i*j)):=opI λ _ _ _ _ _ _ _ a q=>mul_int q a.ok
def kFO:OpR X (binaryOp .FloorDiv) (rI kWQ λ i j=>.int (i / j)):=opI λ i j _ _ _ _ _ a q=>by
 have h1:(0:Int)<j:=a.1;have b:j<1073741824:=a.2;exact floordiv_int (by omega) (by rw[BR i (by omega)];exact q) (.inl (PyProof.noPylong_small (by omega)))
def lI:OpR X (binaryOp .Mod) (rI (λ _ j=>0<j) λ i j=>.int (i % j)):=opI λ i j _ _ _ _ _ a q=>by
 have h1:(0:Int)<j:=a;exact mod_int' (by omega) (by rw[Int.fmod_eq_emod_of_nonneg i (by omega)];exact q)
def kSO:OpR X (binaryOp .Pow) (rI kWP λ i j=>.int (i ^ j.toNat)):=opI λ _ _ _ _ _ _ _ a q=>pow_int_small a.1 a.2.1 a.2.2 q
def unI{f:au->Sem au}{g:Int->Int}
  (rule:∀(i:Int)(t:Tok)(s:az)(Q:au->az->Prop)(E:au->az->Prop),Q (.int (g i) s.toks) {s with toks:=s.toks+1}->dj (model X.prog X.w) X.A (f (.int i t)) Q E s) :
  UnR X f (rU λ i=>.int (g i)):=by
 intro a s c H x v Q I b h;obtain⟨i,rfl,q⟩:=h;obtain⟨t,rfl⟩:=b;exact rule i t s _ _ ⟨.int (g i),H,I.tok _,⟨_,rfl⟩,q⟩
def vC:UnR X (unaryOp .USub) (rU λ i=>.int (-i)):=unI λ _ _ _ _ _ q=>neg_int q
end
def kUM:V->V->Bool
 | .non,.non=>true | .non,.int _=>true | .int _,.non=>true | .non,.bl _=>true | .bl _,.non=>true | .non,.str _=>true | .str _,.non=>true
 | .int _,.int _=>true | .bl _,.bl _=>true | .str _,.str _=>true | .byt _,.byt _=>true
 | .int _,.str _=>true | .str _,.int _=>true | .bl _,.str _=>true | .str _,.bl _=>true
 | _,_=>false
inductive rEq(x:V)(y:V)(H:Hp)(Q:VK):Prop
 | mk:(kUM x y=true)->(Q (.bl (decide (x=y))) H)->rEq x y H Q
inductive rNe(x:V)(y:V)(H:Hp)(Q:VK):Prop
 | mk:(kUM x y=true)->(Q (.bl (!decide (x=y))) H)->rNe x y H Q
def kGI{i j:Int}:decide (V.int i=V.int j)=(i == j):=by
 rw[iX];simp
def kNI{i j:Bool}:decide (V.bl i=V.bl j)=(i == j):=by
 rw[iX];simp
def kGH{i j:Str}:decide (V.str i=V.str j)=(i == j):=by
 rw[iX];simp
def kGJ{i j:Array UInt8}:decide (V.byt i=V.byt j)=(i.toList == j.toList):=by
 rw[iX];cases i
 cases j
 simp
section
variable {X:Cx} {a b c:iW} {ta tb tc:TE} {pos:Pos}
def qJ{a:List (av×Obj)}{c:St}{H:Hp}{s:az}{Q:VK}{k b:Bool}(I:Inv X a c H s)(q:Q (.bl k) H)(e:k=b):EP X a c Q (.bool b) s:=by
 subst e;exact⟨.bl k,H,I,rfl,q⟩
def kRE:OpR X (compareOp .Eq) rEq:=by
 intro f s g H x y v u Q I d a h;obtain⟨c,q⟩:=h
 cases x with
 | non =>
  cases d
  cases y with
  | non=>cases a;exact FB (qJ I q (by simp))
  | bl j=>cases a;exact FC (qJ I q (by simp))
  | int j=>obtain⟨b,rfl⟩:=a;exact FP (qJ I q (by simp))
  | str j=>obtain⟨b,rfl⟩:=a;exact FQ (qJ I q (by simp))
  | _=>exact absurd (show false=true from c) eC
 | bl i =>
  cases d
  cases y with
  | non=>cases a;exact FD (qJ I q (by simp))
  | bl j=>cases a;exact eq_bool (qJ I q kNI)
  | str j=>obtain⟨b,rfl⟩:=a;exact FE (qJ I q (by simp))
  | _=>exact absurd (show false=true from c) eC
 | int i =>
  obtain⟨t,rfl⟩:=d
  cases y with
  | non=>cases a;exact FR (qJ I q (by simp))
  | int j=>obtain⟨b,rfl⟩:=a;exact eq_int (qJ I q kGI)
  | str j=>obtain⟨b,rfl⟩:=a;exact FS (qJ I q (by simp))
  | _=>exact absurd (show false=true from c) eC
 | str i =>
  obtain⟨t,rfl⟩:=d
  cases y with
  | non=>cases a;exact FU (qJ I q (by simp))
  | bl j=>cases a;exact FF (qJ I q (by simp))
  | int j=>obtain⟨b,rfl⟩:=a;exact FV (qJ I q (by simp))
  | str j=>obtain⟨b,rfl⟩:=a;exact eq_str (qJ I q kGH)
  | _=>exact absurd (show false=true from c) eC
 | byt i =>
  obtain⟨t,rfl⟩:=d
  cases y with
  | byt j=>obtain⟨b,rfl⟩:=a;exact PySem.W.eq_bytes (qJ I q kGJ)
  | _=>exact absurd (show false=true from c) eC
 | _=>cases y<;>exact absurd (show false=true from c) eC
def kAP:OpR X (compareOp .NotEq) rNe:=by
 intro f s g H x y v u Q I d a h;obtain⟨c,q⟩:=h
 cases x with
 | non =>
  cases d
  cases y with
  | non=>cases a;exact FG (qJ I q (by simp))
  | bl j=>cases a;exact FH (qJ I q (by simp))
  | int j=>obtain⟨b,rfl⟩:=a;exact FW (qJ I q (by simp))
  | str j=>obtain⟨b,rfl⟩:=a;exact FX (qJ I q (by simp))
  | _=>exact absurd (show false=true from c) eC
 | bl i =>
  cases d
  cases y with
  | non=>cases a;exact FJ (qJ I q (by simp))
  | bl j=>cases a;exact ne_bool (qJ I q (congrArg not kNI))
  | str j=>obtain⟨b,rfl⟩:=a;exact FK (qJ I q (by simp))
  | _=>exact absurd (show false=true from c) eC
 | int i =>
  obtain⟨t,rfl⟩:=d
  cases y with
  | non=>cases a;exact FY (qJ I q (by simp))
  | int j=>obtain⟨b,rfl⟩:=a;exact ne_int (qJ I q (congrArg not kGI))
  | str j=>obtain⟨b,rfl⟩:=a;exact FZ (qJ I q (by simp))
  | _=>exact absurd (show false=true from c) eC
 | str i =>
  obtain⟨t,rfl⟩:=d
  cases y with
  | non=>cases a;exact Fb (qJ I q (by simp))
  | bl j=>cases a;exact FL (qJ I q (by simp))
  | int j=>obtain⟨b,rfl⟩:=a;exact Fd (qJ I q (by simp))
  | str j=>obtain⟨b,rfl⟩:=a;exact ne_str (qJ I q (congrArg not kGH))
  | _=>exact absurd (show false=true from c) eC
 | byt i =>
  obtain⟨t,rfl⟩:=d
  cases y with
  | byt j=>obtain⟨b,rfl⟩:=a;exact PySem.W.ne_bytes (qJ I q (congrArg not kGJ))
  | _=>exact absurd (show false=true from c) eC
 | _=>cases y<;>exact absurd (show false=true from c) eC
def kLQ:OpR X (compareOp .Lt) (rI0 λ i j=>.bl (decide (i<j))):=kSP λ _ _ _ _ _ _ _ q=>lt_int q
def kUW:OpR X (compareOp .LtE) (rI0 λ i j=>.bl (decide (i<=j))):=kSP λ _ _ _ _ _ _ _ q=>le_int q
def kRD:OpR X (compareOp .Gt) (rI0 λ i j=>.bl (decide (j<i))):=kSP λ _ _ _ _ _ _ _ q=>gt_int q
inductive kFN(x:V)(y:V)(H:Hp)(Q:VK):Prop
 | mk:(y=.non)->(Q (.bl (decide (x=.non))) H)->kFN x y H Q
def kLR:OpR X (compareOp .Is) kFN:=by
 intro b s d H x y v u Q I a c h;obtain⟨rfl,q⟩:=h;cases c
 refine is_none_gen (qJ I q ?_)
 cases x<;>first
  | (cases a;rfl)
  | (obtain⟨t,rfl⟩:=a;rfl)
inductive kAO(x:V)(y:V)(H:Hp)(Q:VK):Prop
 | mk:(y=.non)->(Q (.bl (!decide (x=.non))) H)->kAO x y H Q
def kPE:OpR X (compareOp .IsNot) kAO:=by
 intro b s d H x y v u Q I a c h;obtain⟨rfl,q⟩:=h;cases c
 refine isnot_none_gen (qJ I q ?_)
 cases x<;>first
  | (cases a;rfl)
  | (obtain⟨t,rfl⟩:=a;rfl)
def jA(b:iW){a:GS}(h:a≠.In:=by decide)(d:a≠.NotIn:=by decide):behindInMarks a b=false:=by
 have f:(a == CmpOp.In)=false:=by cases a<;>first | rfl | exact absurd rfl h
 have c:(a == CmpOp.NotIn)=false:=by cases a<;>first | rfl | exact absurd rfl d
 cases b<;>simp[behindInMarks,f,c]
def uS{d:GS}{r:R2}(A:OpR X (compareOp d) r)(l:PE X a ta)(f:PE X b tb)(g:behindInMarks d b=false):PE X (.Compare a [d] [b] pos) (tOp r ta tb):=by
 intro c s m H Q I h;exact wpAny_Compare1 (kTW l f I h λ v u i x y n o j p q=>A c i m n x y v u Q o j p q) g
inductive kJT(Q:Bool->Hp->Prop)(x:V)(H':Hp):Prop
 | mk:∀ k,(x=.bl k)->(Q k H')->kJT Q x H'
def kUC(t:TE):TT:=λ a H Q=>t a H λ x b=>kJT Q x b
def qG{f:GS}{r:R2}(N:OpR X (compareOp f) r)(D:PE X a ta)(n:PE X b tb)(o:behindInMarks f b=false):PT X (.Compare a [f] [b] pos) (kUC (tOp r ta tb)):=by
 intro d s g H Q I h
 refine Cr (thn (D d s g H _ I h) λ v J ⟨x,j,A,p,q⟩=>thn (n d J g j _ A q) λ u B ⟨y,G,M,C,l⟩ =>
  thn (N d B g G x y v u _ M p C l) λ c O ⟨z,L,i,r3,k,e,m⟩=>?_) o
 subst e;cases r3
 exact qe ⟨L,i,m⟩
inductive kEJ(r':R2)(tc:TE)(σ:St)(Q:VK)(y:V)(z:V)(H3:Hp):Prop
 | mk:∀ k,(z=.bl k)->((if k=true then tc σ H3 λ w' H4=>r' y w' H4 Q else Q (.bl false) H3))->kEJ r' tc σ Q y z H3
def kRX(r r':R2)(h d b:TE):TE:=λ a H Q=>h a H λ x c=>d a c λ y g=>r x y g λ z f=>kEJ r' b a Q y z f
def kLO{l g:GS}{r r':R2}(ho:OpR X (compareOp l) r)(j:OpR X (compareOp g) r')(U:PE X a ta)(G:PE X b tb)(hc:PE X c tc)
  (J:lastMarks [l,g] [b,c]=false:=by with_unfolding_all rfl):PE X (.Compare a [l,g] [b,c] pos) (kRX r r' ta tb tc):=by
 intro f s i H Q I h
 refine Compare_chain (thn (U f s i H _ I h) λ v Z ⟨x,q,O,L,N⟩=>chain_link (thn (G f Z i q _ O N) λ u S ⟨y,Y,I2,o,A⟩ =>
  thn (ho f S i Y x y v u _ I2 L o A) λ d D ⟨z,p,m,r3,k,e,n⟩=>?_)) J
 subst e;cases r3
 refine qe ?_
 cases k with
 | false=>exact ite_ff ⟨.bl false,p,m,rfl,n⟩
 | true=>exact ite_tt (chain_last (thn (hc f D i p _ m n) λ w' s4 ⟨z',B,C,T,M⟩=>j f s4 i B y z' u w' Q C o T M))
def kVQ(K:be)(x:V)(H:Hp)(k:Bool):Prop :=
 match x with
 | .non=>k=false
 | .bl b=>k=b
 | .int i=>k=(i != 0)
 | .str y=>y.length<=sizeLine/\k=((y.length:Int) != 0)
 | .byt y=>y.size<=sizeLine/\k=((y.size:Int) != 0)
 | .ref p=>(∃ a,SqL K H p a/\k = !a.isEmpty)\/(∃ a,SqT K H p a/\k = !a.isEmpty)\/∃ c,H p=some (.dK c)/\k = !c.isEmpty
 | _=>False
def kDM{a:Type}{kvs:List (a×V)}{b:List (a×au)}(r:KV kvs b):(!b.isEmpty) = !kvs.isEmpty:=by
 cases r<;>rfl
def mF{xs:List V}{a:List au}(r:Vals xs a):(!a.toArray.isEmpty) = !xs.isEmpty:=by
 cases r<;>simp
def cZ:(sizeLine:Nat)<2 ^ 63:=by rw[Br];decide
def kRT:kWN X (λ x H Q=>∃ k,kVQ X.K x H k/\Q k H):=by
 intro A s L H x v Q I g h;obtain⟨k,e,q⟩:=h;have G:=cZ;have J:sizeLine=16777216:=Br
 cases x with
 | non =>
  cases g
  have a:k=false:=e;subst a;exact truthy_none ⟨H,I,q⟩
 | bl b =>
  cases g
  have a:k=b:=e;subst a;exact qe ⟨H,I,q⟩
 | int i =>
  obtain⟨t,rfl⟩:=g;have a:k=(i != 0):=e;subst a;exact PySem.P.truthy_int ⟨H,I,q⟩
 | str y =>
  obtain⟨t,rfl⟩:=g;obtain⟨D,a⟩ : y.length<=sizeLine/\k=((y.length:Int) != 0):=e;subst a;exact PySem.P.truthy_str (by omega) ⟨H,I.tok _,q⟩
 | byt y =>
  obtain⟨t,rfl⟩:=g;obtain⟨D,a⟩ : y.size<=sizeLine/\k=((y.size:Int) != 0):=e;subst a;exact PySem.W.truthy_bytes (by omega) ⟨H,I.tok _,q⟩
 | ref p =>
  cases g
  have a:(∃ f,SqL X.K H p f/\k = !f.isEmpty)\/(∃ f,SqT X.K H p f/\k = !f.isEmpty)\/∃ c,H p=some (.dK c)/\k = !c.isEmpty:=e;rcases a with⟨f,j,a⟩ | ⟨f,j,a⟩ | ⟨c,j,a⟩
  ·subst a
   obtain⟨n,r,o,u⟩:=I.list j;have d:=r.length;exact wpAny_truthy_list o.isList (by simp only[eY];omega) ⟨H,I.tok _,by rw[mF r];exact q⟩
  ·subst a
   obtain⟨n,r,o,u⟩:=I.tuple j;have d:=r.length;exact truthy_tuple o (by simp only[eY];omega) ⟨H,I.tok _,by rw[mF r];exact q⟩
  ·subst a
   obtain⟨u,C,l,r,m⟩ : c.length<=sizeLine/\(p == sysModules)=false/\∃ l,KV c l/\s.heap.DictOf (qH X.prog X.w) p l:=I.hok p _ j;have d:c.length=l.length:=wd r;exact wpAny_truthy_dict C m (by omega) ⟨H,I.tok _,by rw[kDM r];exact q⟩
 | _=>exact(show False from e).elim
def kLI(d:PE X a ta)(g:∀ vQ,isTrue a X.env vQ=(do let v <-vQ;standAt a.pos;holding [v] (truthy v))) :
  PT X a (λ σ H Q=>ta σ H λ x H'=>∃ k,kVQ X.K x H' k/\Q k H'):=by
 intro b s σ H Q I h;exact isTrue_plain (thn (d b s σ H _ I h) λ v l ⟨x,c,j,i,f⟩=>kRT b l σ c x v Q j i f) (g _)
def uX{x:V}{a:List au}(r:Vals [x] a):∃ u,a=[u]/\RelV x u:=by
 cases r with
 | cons r1 r2=>cases r2;exact⟨_,rfl,r1⟩
def kEF{x y:V}{a:List au}(r:Vals [x,y] a):∃ u w',a=[u,w']/\RelV x u/\RelV y w':=by
 cases r with
 | cons r1 r2 =>
  cases r2 with
  | cons r3 r4=>cases r4;exact⟨_,_,rfl,r1,r3⟩
inductive pK(xs:List V)(H:Hp)(Q:VK):Prop
 | mk:∀ i,(xs=[.int i])->(Q (.int (if i<0 then -i else i)) H)->pK xs H Q
def kNO:zD X (.builtin "abs") pK:=by
 intro a s d H c b Q I r h;obtain⟨i,rfl,q⟩:=h;obtain⟨u,rfl,t,rfl⟩:=uX r;exact call_abs_int λ u tk=>⟨.int (if i<0 then -i else i),H,I.tok _,⟨_,rfl⟩,q⟩
inductive mS(xs:List V)(H:Hp)(Q:VK):Prop
 | mk:∀ i j,(xs=[.int i,.int j])->(Q (.int (if j>i then j else i)) H)->mS xs H Q
def kJD(c:X.calm=true):zD X (.builtin "max") mS:=by
 intro b s l H f m Q I r h;obtain⟨i,j,rfl,q⟩:=h;obtain⟨u,n,rfl,⟨t,rfl⟩,⟨g,rfl⟩⟩:=kEF r;refine max_two_ints (I.ok.hd c) λ d tk k=>⟨_,H,I.kept k,?_,q⟩;by_cases a:j>i
 ·rw[if_pos a,if_pos a];exact⟨_,rfl⟩
 ·rw[if_neg a,if_neg a];exact⟨_,rfl⟩
end
structure ObjM(h:iV)(x dx C:av)(mA:Str->Option au):Prop where
 obj:h.get? x=some (Ci C dx)
 ns:h.Ns1 dx mA
 ne:dx≠x
def kIJ{h:iV}{d:av}{c:Str->Option au}(n:h.Ns1 d c):∃ od,h.get? d=some od/\∀ name,Cv name od=some (c name):=by
 obtain⟨o,f,r,l,g,j,_,m⟩:=n;refine⟨o,l,λ name=>?_⟩;have e:=m name;unfold nsFind findBy at e;rw[<-Array.find?_toList]at e;unfold Cv;rw[g];dsimp only
 split
 ·rename_i y q
  rw[q]at e;exact congrArg some e
 ·rename_i q
  rw[q]at e
  have a:f.toList.any (·.refKey)=false:=by
   rw[List.any_eq_false];intro y p;obtain⟨z,t,b⟩:=j y (va.mp p);simp[DictEntry.refKey,b]
  have i:¬ f.toList.any (·.refKey)=true:=by rw[a];exact eC
  rw[if_neg i];exact congrArg some e
def ObjM.look{h:iV}{x b C:av}{a:Str->Option au}(I:ObjM h x b C a):∃ od,PySem.W.InstAt h x (Ci C b) C (some od)/\∀ name,Cv name od=some (a name) :=
 let ⟨od,ho,hl⟩:=kIJ I.ns
 ⟨od,⟨I.obj,rfl,rfl,ho⟩,hl⟩
section
variable {prog:eX} {w:iN} {A:fk} {E:au->az->Prop} {s:az} {K:be} {x dx C f:av} {mA:Str->Option au} {name:Str} {v:au}
end
def RelO.some_of{v:V}{o:Option au}(r:RelO (some v) o):∃ u,o=some u/\RelV v u:=by
 cases o with
 | none=>exact(show False from r).elim
 | some u=>exact⟨u,rfl,r⟩
section
variable {P:eX} {w:iN} {H H':Hp} {h h':iV} {a C dx:av} {fs fs':List (Str×V)}
def kPZ(b:HOk P w H h)(e:H a=some (.ins C dx fs)):∃ mA,ObjM h a dx C mA/\(∀ f,RelO (fs.lookup f) (mA f))/\Fz mA (fs.map (·.1))/\fs.length<=1000/\H dx=some (.own a):=by
 obtain⟨d,z,c,g,mA,n,r,q⟩:=(show ObjOk P w H h a (.ins C dx fs) from b a _ e);exact⟨mA,⟨g,n,c⟩,r,q,z,d⟩
end
structure Cls(K:be)(C:av):Prop where
 pg:EJ K C Str.empty=true
 hd:PySem.W.hasDictIn K C=true
 po:PySem.W.plainOver K C=true
 sa:Ek K (.ref C) "__setattr__" = some (some (.builtin "object.__setattr__"))
def Cls.get{K:be}{C:av}(c:Cls K C)(f:Str):EJ K C f=true:=c.pg
section
variable {X:Cx} {pins:List (av×Obj)} {σ:St} {H:Hp} {s:az} {a C dx:av} {fs:List (Str×V)} {f:Str} {v:V} {A:fk} {E:au->az->Prop}
end
section
variable {X:Cx} {o e value:iW} {f:Str} {pos pos' tpos:Pos} {ta tv:TE}
end
section
variable {X:Cx} {pins:List (av×Obj)} {σ:St} {H:Hp} {s:az} {A:fk} {E:au->az->Prop} {Q:au->az->Prop} {c:au} {b:Bool}
inductive dG(K:be)(H:Hp):V->au->Prop where
 | non:dG K H .non (.type "NoneType")
 | bl (x:Bool):dG K H (.bl x) (.type "bool")
 | int (i:Int):dG K H (.int i) (.type "int")
 | str (x:Str):dG K H (.str x) (.type "str")
 | flt (x:UInt64):dG K H (.flt x) (.type "float")
 | lst {a:av} {xs:List V} (e:H a=some (.lst xs)):dG K H (.ref a) (.type "list")
 | frz {a:av} {o:Obj} {xs:List V} (e:H a=some (.frz o (.lst xs))):dG K H (.ref a) (.type "list")
 | tup {a:av} {xs:List V} (e:H a=some (.tup xs)):dG K H (.ref a) (.type "tuple")
 | dK {a:av} {kvs:List (Key×V)} (e:H a=some (.dK kvs)):dG K H (.ref a) (.type "dict")
 | dT {a:av} {kvs:List (List Key×V)} (e:H a=some (.dT kvs)):dG K H (.ref a) (.type "dict")
 | ins {a C dx:av} {fs:List (Str×V)} (e:H a=some (.ins C dx fs)) (cl:Cls K C) (ha:Ek K (.ref C) "__class__" = some (some (.builtin "object.__class__")))
   (hn:PySem.W.specialIn K (.builtin "object.__class__") "__get__" = some (some (.builtin "getset_descriptor.__get__"))) (htk:PySem.W.takesIn K (.builtin "object.__class__")=some true)
   (hm:PySem.W.mroIn K C (.type "object")=some true):dG K H (.ref a) (.ref C)
def kIP{x:V}{u t:au}(I:Inv X pins σ H s)(d:RelV x u)(m:dG X.K H x t)(e:El X.K t c=some b)(h:∀ tk,Q (.bool b) {s with toks:=tk}) :
  dj (model X.prog X.w) A (call (.builtin "isinstance") [u,c]) Q E s:=by
 cases m with
 | non=>cases(show u=AD from d);exact mo PySem.W.kitx_none I.kIn tm e (λ z=>nomatch z) h
 | bl y=>cases(show u=BO y from d);exact mo PySem.W.kitx_bool I.kIn tm e (λ z=>nomatch z) h
 | int i=>obtain⟨t,q⟩:=(show ∃ t,u=ur i t from d);cases q;exact mo PySem.W.kitx_int I.kIn tm e (λ z=>nomatch z) h
 | str y=>obtain⟨t,q⟩:=(show ∃ t,u=EG y t from d);cases q;exact mo PySem.W.kitx_str I.kIn tm e (λ z=>nomatch z) h
 | flt y=>obtain⟨t,q⟩:=(show ∃ t,u=GR y t from d);cases q;exact mo PySem.W.kitx_float I.kIn tm e (λ z=>nomatch z) h
 | @lst a f ea =>
  cases(show u=jx a from d)
  obtain⟨_,_,n,_,h1⟩:=(show ObjOk X.prog X.w H s.heap a (.lst f) from I.hok a _ ea);exact mo Df I.kIn ⟨_,h1,rfl⟩ e (λ z=>nomatch z) h
 | @frz a ob f ea =>
  cases(show u=jx a from d)
  obtain⟨_,_,_,n,_,h1⟩:=(show ObjOk X.prog X.w H s.heap a (.frz ob (.lst f)) from I.hok a _ ea);exact mo Df I.kIn ⟨_,h1,rfl⟩ e (λ z=>nomatch z) h
 | @tup a f ea =>
  cases(show u=jx a from d)
  obtain⟨_,_,_,p⟩:=(show ObjOk X.prog X.w H s.heap a (.tup f) from I.hok a _ ea);obtain⟨o,h1,g,_⟩:=p;exact mo PySem.W.kitx_tuple I.kIn ⟨o,h1,g⟩ e (λ z=>nomatch z) h
 | @dK a kvs ea =>
  cases(show u=jx a from d)
  obtain⟨_,_,v,_,p⟩:=(show ObjOk X.prog X.w H s.heap a (.dK kvs) from I.hok a _ ea);obtain⟨o,j,l,h1,g,_⟩:=p;exact mo Dg I.kIn ⟨o,h1,g.1⟩ e (λ z=>nomatch z) h
 | @dT a kvs ea =>
  cases(show u=jx a from d)
  obtain⟨_,_,f,_,o,j,l,h1,g,_⟩:=(show ObjOk X.prog X.w H s.heap a (.dT kvs) from I.hok a _ ea);exact mo Dg I.kIn ⟨o,h1,g.1⟩ e (λ z=>nomatch z) h
 | @ins a C dx fs ea cl ha hn htk hm =>
  cases(show u=jx a from d)
  obtain⟨r,O,_⟩:=kPZ I.hok ea;obtain⟨B,J,_⟩:=O.look;exact mo (PySem.W.kitx_own (cl.get _) cl.hd ha hn htk hm) I.kIn J e (λ z=>nomatch z) h
end
structure Room(k:Nat)(A:fk):Prop where
 hd:A.handled=none
 dp:A.depth+3*k+5<recursionLimit
 un:A.units+16*k+200<cLine
 gd:A.guards=some []
def Room.mono{j k:Nat}{A:fk}(r:Room k A)(h:j<=k):Room j A:=⟨r.hd,by have:=r.dp;omega,by have:=r.un;omega,r.gd⟩
theorem Room.deeper{k:Nat}{A:fk}(r:Room (k+1) A)(env:Env):Room k (A.deeper env) :=
 ⟨r.hd,by have:=r.dp;show A.depth+1+3*k+5<_;omega,by have:=r.un;show A.units+3+16*k+200<_;omega,r.gd⟩
theorem Room.depth{k:Nat}{A:fk}(r:Room k A):A.depth<recursionLimit:=by have:=r.dp;omega
theorem Room.units{k:Nat}{A:fk}(r:Room k A):A.units+64<cLine:=by have:=r.un;omega
def kRV:TA:=λ _ H Q=>Q [] H
def kEI(f:TE)(g:TA):TA:=λ a H Q=>f a H λ x c=>g a c λ b d=>Q (x::b) d
section
variable {X:Cx} {e:iW} {es:List iW} {te:TE} {t:TA} {pos:Pos}
def kU:PA X [] kRV:=λ _ _ _ _ H Q I h=>Calls.spliced_nil ⟨[],H,I,.nil,h⟩
def kE(p:PE X e te)(d:PA X es t)(o:starEach (e::es) X.env=(false,eval e X.env)::starEach es X.env:=by rfl):PA X (e::es) (kEI te t):=by
 intro b a s c H Q I h;rw[o];show dj _ _ (spliced ((false,eval e X.env)::backTo b (starEach es X.env))) _ _ s;refine Calls.spliced_cons (thn (p a s c H _ I h) λ u r ⟨x,f,m,i,l⟩=>?_);exact thn (d b a r c f _ m l) λ A y ⟨j,q,v,n,g⟩=>⟨x::j,q,v,.cons i n,g⟩
inductive kQO(Q:VK)(xs:List V)(H1:Hp):Prop
 | mk:(xs.length<=sizeLine)->(∀ p,H1 p=none->Q (.ref p) (upd H1 p (.tup xs)))->kQO Q xs H1
def kVX(t:TA):TE:=λ c H Q=>t c H λ a b=>kQO Q a b
inductive kQR(Q:VK)(xs:List V)(H1:Hp):Prop
 | mk:(xs.length<=sizeLine)->(∀ p,H1 p=none->Q (.ref p) (upd H1 p (.lst xs)))->kQR Q xs H1
def kWC(t:TA):TE:=λ c H Q=>t c H λ a b=>kQR Q a b
def qS {x1} (h:PA X es t):PE X (.Tuple es x1 pos) (kVX t):=by
 intro a s j H Q I l;refine wpAny_Tuple_spliced (thn (h pos a s j H _ I l) λ g c ⟨i,d,f,r,z,q⟩=>⟨by rw[<-r.length];exact z,?_⟩);have m:d c.heap.objs.size=none:=f.hok.fresh (bf _);refine⟨.ref c.heap.objs.size,upd d c.heap.objs.size (.tup i),f.laid (t':=c.toks) (λ b u e=>ar _ e) (bf _) ?_,rfl,q _ m⟩;exact⟨z,g,r,⟨_,ck _ rfl,rfl,_,rfl,rfl⟩⟩
def jJ(h:PA X es t):PE X (.List es pos) (kWC t):=by
 intro a s j H Q I l;refine wpAny_List_spliced (thn (h pos a s j H _ I l) λ g c ⟨i,d,f,r,z,q⟩=>⟨by rw[<-r.length];exact z,?_⟩);have m:d c.heap.objs.size=none:=f.hok.fresh (bf _);refine⟨.ref c.heap.objs.size,upd d c.heap.objs.size (.lst i),f.laid (t':=c.toks) (λ b u e=>ar _ e) (bf _) ?_,rfl,q _ m⟩;exact⟨z,g,0,r,ck _ rfl⟩
end
abbrev Sp:=List V->Hp->VK->XK->Prop
abbrev CXT:=List Env->Hp->az->XK->au->az->Prop
structure Env0(P:eX)(w:iN)(K:be)(mg:Str->Option au)(base:iV)(A:fk)(outer:List Env)(s:az)(H:Hp):Prop where
 frames:A.frames=some outer
 mod:Mod K mg base
 bs:∀ b o,base.get? b=some o->s.heap.get? b=some o/\H b=none
 bsz:base.objs.size<=s.heap.objs.size
 funs:s.heap.FunFrames base outer
 frf:∀ b∈frs outer,H b=none
 hok:HOk P w H s.heap
 bare:Bo s.gens
def CE(outer:List Env)(P:eX)(w:iN)(H:Hp)(s:az)(Q:VK)(u:au)(a:az):Prop :=
 ∃ v b,a.os=s.os/\Bo a.gens/\Un (frs outer) [] H b s.heap a.heap/\HOk P w b a.heap/\RelV v u/\Q v b
def CR(CX:CXT)(outer:List Env)(P:eX)(w:iN)(H:Hp)(s:az)(Q:VK)(E:XK)(r:Result)(a:az):Prop :=
 match r with
 | .ok (.ret u)=>CE outer P w H s Q u a
 | .ok _=>False
 | .error e=>CX outer H s E e a
structure FnOk(P:eX)(w:iN)(K:be)(mg:Str->Option au)(base:iV)(CX:CXT)(k:Nat)(f:av)(fd:ue)(ps:List Str)(sp:Sp):Prop where
 len:∀ vs H Q E,sp vs H Q E->vs.length=ps.length
 run:∀(A:fk)(outer:List Env)(s:az)(H:Hp)(args:Args)(us:List au)(vs:List V)(Q:VK)(E:XK),Room k A->Env0 P w K mg base A outer s H->Dh s fd args (ps.zip us)->Vals vs us->sp vs H Q E ->
  codeAny (model P w) A (.call (.ref f) args) (CR CX outer P w H s Q E) s
section
variable {X:Cx} {pins:List (av×Obj)} {σ:St} {H:Hp} {s s':az}
def Inv.env0(I:Inv X pins σ H s):Env0 X.prog X.w X.K X.mg X.base X.A X.stack s H :=
 ⟨I.ok.frames,I.ok.mod,I.bs,jt I.ok.bsz I.sz,I.stack,I.stkFree,I.hok,I.bare⟩
def Inv.after{Q:VK}{u:au}(I:Inv X pins σ H s)(h:CE X.stack X.prog X.w H s Q u s'):EP X pins σ Q u s':=by
 obtain⟨v,j,os,a,un,f,r,q⟩:=h;obtain⟨i,g,d,t,c⟩:=s';obtain rfl:c=s.os:=os;exact⟨v,j,I.call (h':=i) (g':=g) (d':=d) (t':=t) (ch:=[]) un f a (λ b z=>absurd z (by simp)),r,q⟩
end
def kJY(sp:Sp)(a:List V)(E:XK)(t:TA):TE:=λ c H Q=>t c H λ d b=>sp (d++a) b Q E
def Binds(K:be)(c:ue)(ps:List Str)(b:List au):Prop :=
 ∀(s:az)(a:List au),K.In s.heap->(a++b).length=ps.length->Dh s c ⟨a,[]⟩ (ps.zip (a++b))
def Binds.all{K:be}{a:ue}{ps:List Str}(h:∀ us:List au,us.length=ps.length->bindArgs a ⟨us,[]⟩=pure (ps.zip us)):Binds K a ps []:=λ s us _ b=>by
 rw[iq]at b ⊢;exact .of_eq (h us b)
def kEC(CX:CXT)(X:Cx)(E:XK):Prop:=∀(pins:List (av×Obj))(σ:St)(H:Hp)(s:az)(e:au)(s':az),Inv X pins σ H s->CX X.stack H s E e s'->X.xe e s'
section
variable {X:Cx} {CX:CXT} {k:Nat} {f C:av} {fd:ue} {ps:List Str} {sp:Sp} {dvs:List V} {ds:List au} {E:XK} {x m:Str} {p pos apos:Pos} {e o:iW} {es:List iW} {ta:TE} {t:TA}
def kSB{a:List (av×Obj)}{g:St}{H:Hp}{s:az}{Q:VK}{b:List au}{d:List V}(F:FnOk X.prog X.w X.K X.mg X.base CX k f fd ps sp)(j:Room k X.A)(p:Binds X.K fd ps ds)(n:Vals dvs ds)(l:kEC CX X E)
  (I:Inv X a g H s) (r:Vals d b) (h:sp (d++dvs) H Q E):dj (model X.prog X.w) X.A (call (.ref f) b) (EP X a g Q) X.xe s:=by
 have i:Vals (d++dvs) (b++ds):=r.append n;have m:(b++ds).length=ps.length:=by rw[<-i.length];exact F.len _ _ _ _ h
 refine wpAny_call (Di (F.run X.A X.stack s H ⟨b,[]⟩ (b++ds) (d++dvs) Q E j I.env0 (p s b I.kIn m) i h) λ r o c=>?_)
 cases r with
 | error e=>exact l a g H s e o I c
 | ok fl =>
  cases fl with
  | ret u=>exact I.after c
  | next=>exact xj c
  | brk=>exact xj c
  | cont=>exact xj c
def kPB(F:FnOk X.prog X.w X.K X.mg X.base CX k f fd ps sp)(g:Room k X.A)(u:Gl X x)(j:X.mg x=some (.ref f))(y:AL X.K (.ref f)=true)(i:Binds X.K fd ps ds)(o:Vals dvs ds)(n:kEC CX X E)
  (l:PA X (e::es) t) (b:(x == ("__debug__" : Str))=false:=by decide) (v:starEach (e::es) X.env=(false,eval e X.env)::starEach es X.env:=by rfl) (c:(backTo pos (starEach es X.env)).any (·.1)=false:=by rfl) :
  PE X (.Call (.Name x p) (e::es) [] pos) (kJY sp dvs E t):=by
 intro a s m H Q I h;refine BS (kPT I u j ?_ b);refine PySem.W.callWith_K (h₀:=X.base) I.ok.mod.kin y (thn (l pos a s m H _ I h) λ D C ⟨G,B,d,r,q⟩=>⟨d.kIn,?_⟩) v c;exact kSB F g i o n d r q
end
section
variable {X:Cx} {CX:CXT} {k:Nat} {f C:av} {fd:ue} {ps ks:List Str} {sp:Sp} {E:XK} {x m:Str} {p pos apos kpos:Pos} {e o:iW} {es:List iW} {kws:List Ef} {te ta:TE} {t tk:TA} {nm:Option Str}
variable {g:List au->List au->List au} {gV:List V->List V->List V}
end
structure FnScope(N P:List Str)(sc:wq):Prop where
 kind:sc.kind=.function
 co:sc.isCoroutine=false
 gen:sc.isGenerator=false
 nd:N.Nodup
 pre:N.take P.length=P
 par:∀ x∈P,sc.names.lookup x=some .local\/sc.names.lookup x=some .cell
 nofree:∀ y∈sc.names,y.2≠.free
theorem pL{kindOf:Str->Option uf}{x:Str}:∀{binds:List (Str×au)}{m:Str->Option au},(∀ v,(x,v)∉binds)->bindL kindOf binds m x=m x
 | [],_,_=>rfl
 | (n,v)::r,m,h=>by
  unfold bindL;rw[pL λ w a=>h w (du _ a)]
  split
  ·have:x≠n:=by rintro rfl;exact h v eP
   simp[this]
  ·rfl
theorem pO{kindOf:Str->Option uf}{x:Str}:∀{binds:List (Str×au)}{m:Str->Option au},(∀ v,(x,v)∉binds)->bindC kindOf binds m x=m x
 | [],_,_=>rfl
 | (n,v)::r,m,h=>by
  unfold bindC;rw[pO λ w a=>h w (du _ a)]
  split
  ·rfl
  ·have:x≠n:=by rintro rfl;exact h v eP
   simp[this]
theorem pN{kindOf:Str->Option uf}{x:Str}{v:au}:∀{P:List Str}{a:List au}{i:Nat}{m:Str->Option au},P.Nodup->P[i]?=some x->a[i]?=some v->kindOf x=some .local ->
  bindL kindOf (P.zip a) m x=some v
 | [],_,_,_,_,h,_,_=>by simp at h
 | _::_,[],_,_,_,_,h,_=>by simp at h
 | p::P,w::a,0,m,nd,h1,h2,hk=>by
  simp at h1 h2;subst h1;subst h2;show bindL kindOf ((p,w)::P.zip a) m p=_;unfold bindL;rw[pL λ v b=>(gh.mp nd).1 (zx b).1,if_pos hk];simp
 | p::P,w::a,i+1,m,nd,h1,h2,hk=>by
  show bindL kindOf ((p,w)::P.zip a) m x=_;unfold bindL;exact pN (i:=i) (gh.mp nd).2 (by simpa using h1) (by simpa using h2) hk
theorem pP{kindOf:Str->Option uf}{x:Str}{v:au}:∀{P:List Str}{a:List au}{i:Nat}{m:Str->Option au},P.Nodup->P[i]?=some x->a[i]?=some v->kindOf x≠some .local ->
  bindC kindOf (P.zip a) m x=some v
 | [],_,_,_,_,h,_,_=>by simp at h
 | _::_,[],_,_,_,_,h,_=>by simp at h
 | p::P,w::a,0,m,nd,h1,h2,hk=>by
  simp at h1 h2;subst h1;subst h2;show bindC kindOf ((p,w)::P.zip a) m p=_;unfold bindC;rw[pO λ v b=>(gh.mp nd).1 (zx b).1,if_neg hk];simp
 | p::P,w::a,i+1,m,nd,h1,h2,hk=>by
  show bindC kindOf ((p,w)::P.zip a) m x=_;unfold bindC;exact pP (i:=i) (gh.mp nd).2 (by simpa using h1) (by simpa using h2) hk
def start(N:List Str)(a:List V):St:=a.map some++gj (N.length-a.length) none
def qX(CX:CXT)(P:eX)(w:iN)(K:be)(mg:Str->Option au)(base:iV)(N:List Str)(b:Str)(a:wq)(f:av)(d:au)(A:fk)(outer:List Env)(s:az)(H:Hp)(E:XK):Cx where
 prog:=P
 w:=w
 K:=K
 mg:=mg
 base:=base
 A:=A.deeper (envOfC b a s.heap.objs.size f d)
 N:=N
 s₀:=s
 H₀:=H
 env:=envOfC b a s.heap.objs.size f d
 outer:=outer
 stack:=envOfC b a s.heap.objs.size f d::outer
 ex:=[]
 calm:=true
 fn:=λ _=>true
 pn:=[]
 xe:=λ e g=>dj (model P w) (A.deeper (envOfC b a s.heap.objs.size f d)) (leaving (envOfC b a s.heap.objs.size f d) e) (λ _ c=>CX outer H s E e c) (λ h c=>CX outer H s E h c) g
def kBV{a:wq}{n:Nat}{x:Str}(h:a.names.lookup x=some .cell):∃ c,(cellsFrom n a.names []).lookup x=some c:=by
 have q:=CQ a.names n [] (.inl h);exact zj.mp q
def kIQ{CX:CXT}{P:eX}{w:iN}{K:be}{mg:Str->Option au}{base:iV}{N ps:List Str}{g:Str}{d:wq}{f:av}{G:au}{A:fk}{outer:List Env}{s J:az}{H:Hp}{E:XK}{I:List au}{B:List V}
  (S:FnScope N ps d) (U:A.handled=none) (l:Env0 P w K mg base A outer s H) (Y:B.length=ps.length) (r:Vals B I)
  (x:InCallC s s.heap.objs.size (bindL (envOfC g d s.heap.objs.size f G).kindOf (ps.zip I) λ _=>none) (cellsFrom (s.heap.objs.size+1) d.names []) (bindC (envOfC g d s.heap.objs.size f G).kindOf (ps.zip I) λ _=>none) J) :
  Inv (qX CX P w K mg base N g d f G A outer s H E) [] (start N B) H J:=by
 have T:ps.length<=N.length:=by have:=congrArg jb S.pre;rw[dq]at this;omega
 obtain⟨h1,tk,rfl,M⟩:=x.done;have o:∀ b:av,b∉(qX CX P w K mg base N g d f G A outer s H E).ex:=λ b z=>absurd (show b∈([]:List av) from z) (by simp)
 refine⟨⟨l.mod,S.kind,rfl,rfl,bf _,λ y z c h1 j=>?_,λ y m=>?_,λ y c _ h=>?_,λ _=>U,Around.frames_deeper l.frames,.inr ⟨rfl,rfl⟩,λ b z=>absurd z (o b),l.bs,l.bsz,λ b _ _=>o b,λ b z=>absurd z (o b),l.funs,l.frf⟩,
  rfl,l.bare,Un.kept M,⟨_,x.toInCall.ns,λ i y v h1 j X=>?_⟩,λ y c h=>⟨_,x.cell y c h⟩,l.hok.fresh (bf _),λ y c h=>?_,λ p hp=>absurd (show p∈([]:List (av×Obj)) from hp) (by simp),l.hok.kept M,?_⟩
 ·exact name_of_addr x.apart (oh h1) (oh j)
 ·have m:d.names.lookup y=some .cell\/d.names.lookup y=some .free:=m
  rcases m with m | m
  ·exact kBV m
  ·exact absurd rfl (S.nofree _ (oh m))
 ·exact gk (x.above y c (oh h))
 ·have D:i<B.length:=by
   unfold start at j;by_cases D:i<B.length
   ·exact D
   ·rw[cq (by simpa using D)]at j
    rw[List.getElem?_replicate]at j
    split at j<;>cases j
  have Q:B[i]?=some v:=by
   unfold start at j;rw[bq (by simpa using D),bb]at j
   cases e:B[i]? with
   | none=>rw[e]at j;cases j
   | some a=>rw[e]at j;cases j;rfl
  obtain⟨u,L,O⟩:=r.get Q
  have hp:ps[i]?=some y:=by
   rw[<-S.pre,sd (by omega)];exact h1
  have C:ps.Nodup:=by rw[<-S.pre];exact S.nd.sublist (xm _ _)
  refine⟨u,O,?_⟩;rcases S.par y (dh hp) with k | k
  ·exact .inl ⟨k,pN C hp L k⟩
  ·obtain⟨c,e⟩:=kBV (n:=s.heap.objs.size+1) k
   refine .inr ⟨.inl k,c,e,?_⟩;have q:=x.cell y c e;rw[pP C hp L (by show d.names.lookup y≠_;rw[k];decide)]at q;exact q
 ·exact l.hok.fresh (gk (x.above y c (oh h)))
 ·unfold start
  show _=N.length;rw[bu,aj,uo];omega
def kVJ{CX:CXT}{P:eX}{w:iN}{K:be}{mg:Str->Option au}{base:iV}{k:Nat}{f:av}{name c:Str}{g:Arguments}{h:List oz}{a:wq}{Y kV G pm d ct oc:au}{an od:Option av}
  {T:Array (Option au)} {N ps:List Str} {sp:Sp} (lk:K.lookup f=some ⟨oc,od,.func (vd name c g h a Y kV G pm an d ct),T⟩) (U:BU K d c=true) (S:FnScope N ps a)
  (len:∀ j H Q E,sp j H Q E->j.length=ps.length)
  (l:∀(A:fk)(outer:List Env)(s:az)(H:Hp)(j:List V)(Q:VK)(E:XK),Room k (A.deeper (envOfC c a s.heap.objs.size f d))->sp j H Q E ->
   ∃ t,PSs (qX CX P w K mg base N c a f d A outer s H E) h t/\t {nx:=λ _ H'=>Q .non H',rt:=Q} (start N j) H) :
  FnOk P w K mg base CX (k+1) f (vd name c g h a Y kV G pm an d ct) ps sp:=by
 refine⟨len,λ A outer s H a0 us j Q E L D hb r C=>?_⟩;have hl:=len _ _ _ _ C;have Z:K.In s.heap:=D.mod.kin.keeps λ b o e=>(D.bs b o e).1;have O:s.heap.NoLimit:=D.mod.nolimit.keeps λ b o e=>(D.bs b o e).1
 have m:∀ y∈ps.zip us,a.names.lookup y.1=some .local\/(a.names.lookup y.1=some .cell/\((cellsFrom (s.heap.objs.size+1) a.names []).lookup y.1).isSome=true):=λ⟨n,v⟩ hy=>by
  rcases S.par n (zx hy).1 with q | q
  ·exact .inl q
  ·exact .inr ⟨q,CQ _ _ _ (.inl q)⟩
 refine codeAny_call_function L.depth (Z _ _ lk) rfl S.co S.gen rfl (PySem.W.codeRec_of Z U) (hb _ _ _ _ ?_);refine wpAny_newFunctionEnv_cells S.kind m λ a1 he s1 x=>?_;subst he;refine⟨O.keeps x.toInCall.keep,codeAny_func ?_⟩;obtain⟨t,ht,hq⟩:=l A outer s H j Q E (L.deeper _) C;have I:Inv (qX CX P w K mg base N c a f d A outer s H E) [] (start N j) H s1:=kIQ S L.hd D hl r x;refine we (ht [] s1 (start N j) H _ I hq) (λ fl X p=>?_) λ e X p=>p
 have B:∀{i:St}{H':Hp}{v:V}{u:au},Inv (qX CX P w K mg base N c a f d A outer s H E) [] i H' X->RelV v u->Q v H'->CE outer P w H s Q u X :=
  λ{i H' v u} J M q=>⟨v,H',J.os,J.bare,J.base,J.hok,M,q⟩
 cases fl with
 | ret u =>
  obtain⟨v,i,H',J,M,q⟩:=p;exact B J M q
 | next =>
  obtain⟨i,H',J,q⟩:=p;exact B (v:=V.non) (u:=AD) J rfl q
 | brk =>
  obtain⟨_,_,_,q⟩:=p;exact xj q
 | cont =>
  obtain⟨_,_,_,q⟩:=p;exact xj q
section
variable {X:Cx} {x:Str} {p pos:Pos} {e:iW} {es:List iW} {t:TA} {id T:String} {r:List V->Hp->VK->Prop}
def tCB(r:List V->Hp->VK->Prop)(t:TA):TE:=λ b H Q=>t b H λ c a=>r c a Q
def kS(v:zD X (.builtin id) r)(y:Gl X x)(i:X.mg x=none)(u:bootBuiltins x=some (.builtin id))(n:PA X (e::es) t)(g:x≠"__name__":=by decide)(b:(x == ("__debug__" : Str))=false:=by decide)
  (A:starEach (e::es) X.env=(false,eval e X.env)::starEach es X.env:=by rfl) (c:(backTo pos (starEach es X.env)).any (·.1)=false:=by rfl):PE X (.Call (.Name x p) (e::es) [] pos) (tCB r t):=by
 intro a s d H Q I h;refine BS (wH I y i u ?_ g b);exact EK (thn (n pos a s d H _ I h) λ q o ⟨B,f,m,j,l⟩=>v a o d f B q Q m j l) A c
def qU(v:zD X (.type T) r)(y:Gl X x)(i:X.mg x=none)(u:bootBuiltins x=some (.type T))(n:PA X (e::es) t)(g:x≠"__name__":=by decide)(b:(x == ("__debug__" : Str))=false:=by decide)
  (A:starEach (e::es) X.env=(false,eval e X.env)::starEach es X.env:=by rfl) (c:(backTo pos (starEach es X.env)).any (·.1)=false:=by rfl):PE X (.Call (.Name x p) (e::es) [] pos) (tCB r t):=by
 intro a s d H Q I h;refine BS (wH I y i u ?_ g b);exact iu (thn (n pos a s d H _ I h) λ q o ⟨B,f,m,j,l⟩=>v a o d f B q Q m j l) A c
end
end L2
namespace HT
open PySem PyProof.Rows
section
open PySem.SeqAt
open PySem.AutoSeq1 (wpAny_loadPart')
open PySem.MeetsSeq PySem.MeetsSeq2 PySem.MeetsSeq3
end
section
variable {prog:eX} {w:iN} {A:fk} {E:au->az->Prop} {s:az}
def cat_tup{t b:av}{d a:List au}{Q:au->az->Prop}(y:ES s.heap t d.toArray)(x:ES s.heap b a.toArray)(r:d≠[])
  (h1:a=[]->Q (.ref t) s) (B:a≠[]->Q (.ref s.heap.objs.size) {s with heap:=s.heap.push {cls:=.type "tuple",data:=.seq (d++a).toArray}})
  (hsz:d.length+a.length<=sizeLine):dj (model prog w) A (binaryOp .Add (.ref t) (.ref b)) Q E s:=by
 obtain⟨⟨cls,o,data,q⟩,l,v,n,u⟩:=id y;obtain⟨⟨p,h,data2,f⟩,c,g,m,i⟩:=id x;simp only at v u g i;subst v u g i;have e:d.toArray++a.toArray=(d++a).toArray:=by simp
 by_cases j:a=[]
 ·exact Dj ⟨_,l,rfl⟩ ⟨_,c,rfl⟩ CH DL AM AI (zk _ _)
   (tuple_addW1 t b d.toArray a.toArray n m o h q f (by simpa using r) (by simp[j])) ⟨l,c,h1 j⟩
 ·refine Dj ⟨_,l,rfl⟩ ⟨_,c,rfl⟩ CH DL AM AI (zk _ _)
   (tuple_addW2 t b d.toArray a.toArray n m o h q f (by simpa using r) (by simpa using j) (by rw[eY,eY];exact hsz)) ⟨l,c,?_⟩
  rw[e];exact B j
def sIx(n d:Nat):Option Int->Nat
 | none=>d
 | some v=>if v<0 then(v+(n:Int)).toNat else min v.toNat n
def sIx_none(n d:Nat):sIx n d none=d:=rfl
def sIx_nat(n d k:Nat):sIx n d (some (k:Int))=min k n:=by
 show(if(k:Int)<0 then((k:Int)+(n:Int)).toNat else min (k:Int).toNat n)=min k n;rw[if_neg (by omega),kg]
def kRZ(n d:Nat)(b:d<=n)(o:Option Int):sIx n d o<=n:=by
 cases o with
 | none=>exact b
 | some v =>
  show(if v<0 then(v+(n:Int)).toNat else min v.toNat n)<=n;by_cases a:v<0
  ·rw[if_pos a];omega
  ·rw[if_neg a];exact Nat.min_le_right _ _
def kGK(v:Int)(n d:Nat):(if v<0 then max (v+(n:Int)) 0 else min v (n:Int))=((sIx n d (some v):Nat):Int):=by
 show(if v<0 then max (v+(n:Int)) 0 else min v (n:Int))=(((if v<0 then(v+(n:Int)).toNat else min v.toNat n):Nat):Int);by_cases a:v<0
 ·simp only[if_pos a];omega
 ·simp only[if_neg a];omega
def kEB(lo hi:Option Int)(n:Nat):ze lo hi 1 (n:Int)=(((sIx n 0 lo:Nat):Int),((sIx n n hi:Nat):Int)):=by
 have h1:¬ ((1:Int)<0):=by omega
 unfold ze;simp only[h1,if_false];refine qv ?_ ?_
 ·cases lo with
  | none=>rfl
  | some v=>exact kGK v n 0
 ·cases hi with
  | none=>rfl
  | some v=>exact kGK v n n
def kCX(i j:Nat):ki (i:Int) (j:Int) 1=j-i:=by
 unfold ki;have h1:(1:Int)>0:=by omega
 simp only[h1,if_true,GB]
 split<;>omega
def gL{v:au}{o:Option Int}{Q:Option Int->az->Prop}(p:CT v o)(h:Q o s):dj (model prog w) A (EW v) Q E s:=by
 cases p with
 | none=>exact BV h
 | int i t=>exact slicePart_int h
def sliceApplied_gen{f:av}{c d:au}{lo hi:Option Int}{n:Nat}{Q:Int×Int×Nat->az->Prop}(i:s.heap.IsSliceOf f c d .none)(g:CT c lo)(l:CT d hi)
  (h:Q (((sIx n 0 lo:Nat):Int),1,sIx n n hi-sIx n 0 lo) s):dj (model prog w) A (ug (.ref f) (pure (n:Int))) Q E s:=by
 obtain⟨os,b,j,a⟩:=id i;unfold ug Bl;refine ai (ai (iQ b a (x:=c) rfl (ai (iQ b a (x:=d) rfl (ai (iQ b a (x:=.none) rfl (bg ?_)))))));refine ai (BV ?_);show dj _ _ (if((1:Int) == 0)=true then _ else _) _ _ s;rw[if_neg (by decide)];refine ai (gL g (ai (gL l (ai (bg ?_)))));show dj _ _ (match ze lo hi 1 (n:Int) with | (lo,hi)=>pure (lo,(1:Int),ki lo hi 1)) _ _ s
 rw[kEB lo hi n];show dj _ _ (pure (((sIx n 0 lo:Nat):Int),(1:Int),ki ((sIx n 0 lo:Nat):Int) ((sIx n n hi:Nat):Int) 1)) _ _ s;rw[kCX];exact bg h
def kLL(xs:Array au)(i k:Nat):((cf k).filterMap λ(m:Nat)=>xs[((i:Int)+(m:Int)*1).toNat]?).toArray=((xs.toList.drop i).take k).toArray:=by
 have e:(λ(m:Nat)=>xs[((i:Int)+(m:Int)*1).toNat]?)=λ m=>xs[i+m]?:=by
  funext m
  have:((i:Int)+(m:Int)*1).toNat=i+m:=by omega
  rw[this]
 rw[e];have:=pick_run xs i k;rw[DV]at this;have a:((λ x=>xs[x]?)∘λ x=>i+x)=λ m=>xs[i+m]?:=rfl;rw[a]at this;rw[this]
def getItem_tuple_cut{t g:av}{a:Array au}{l o:au}{lo hi:Option Int}{Q:au->az->Prop}(c:ES s.heap t a)(n:s.heap.IsSliceOf g l o .none)(u:CT l lo)(r:CT o hi)
  (v:¬ (sIx a.size 0 lo=0/\sIx a.size a.size hi=a.size))
  (h:Q (.ref s.heap.objs.size) {s with heap:=s.heap.push {cls:=.type "tuple",data:=.seq ((a.toList.drop (sIx a.size 0 lo)).take (sIx a.size a.size hi-sIx a.size 0 lo)).toArray}})
  (hsz:a.size<=sizeLine):dj (model prog w) A (getItem (.ref t) (.ref g)) Q E s:=by
 have b:sizeOk (.seq ((a.toList.drop (sIx a.size 0 lo)).take (sIx a.size a.size hi-sIx a.size 0 lo)).toArray):=by
  show((a.toList.drop (sIx a.size 0 lo)).take (sIx a.size a.size hi-sIx a.size 0 lo)).toArray.size<=sizeLine;rw[eY,dq,iZ,iE];omega
 have B:sIx a.size a.size hi<=a.size:=kRZ _ _ (bf _) hi;obtain⟨os,j,f,p⟩:=id n;have d:s.TypeIs (.ref g) "slice":=⟨os,j,f⟩;unfold getItem
 try with_reducible refine kr ?_
 first | refine ai (bg ?_) | skip
 refine ai (Bs c.typeIs (by decide) ?_)
 refine ai (jc (name:=ve "__getitem__") c.typeIs iD
  (ky iD c.typeIs BH ?_ (BW _ _)))
 show dj _ _ (yn (.ref t) >>= _) _ _ s;refine ai (DM c ?_);refine ai (yw d ?_);rw[if_pos (by decide)];refine ai (sliceApplied_gen n u r ?_)
 have i:¬ ((((sIx a.size 0 lo:Nat):Int) == 0 && (1:Int) == 1 && (sIx a.size a.size hi-sIx a.size 0 lo) == a.size)=true):=by
  intro q;rw[iI,iI]at q;have y:((sIx a.size 0 lo:Nat):Int)=0:=eq_of_beq q.1.1;have x:sIx a.size a.size hi-sIx a.size 0 lo=a.size:=eq_of_beq q.2;exact v ⟨by omega,by omega⟩
 show dj _ _ (if(((sIx a.size 0 lo:Nat):Int) == 0 && (1:Int) == 1 && (sIx a.size a.size hi-sIx a.size 0 lo) == a.size)=true then _ else _) _ _ s;rw[if_neg i,kLL]
 first
  | exact ai (m:=ji _) (iO (bg ⟨_,rfl,bg h⟩) b)
  | exact ai (m:=ji _) (iO (ai (bg (bg ⟨_,rfl,bg h⟩))) b)
  | exact ai (ai (m:=ji _) (iO (bg (bg ⟨_,rfl,bg h⟩)) b))
  | exact ai (ai (m:=ji _) (iO (bg ⟨_,rfl,bg h⟩) b))
end
end HT
namespace L2
open PySem PySem.Spec PyProof.Rows
abbrev TO:=St->Hp->(Option Int->Hp->Prop)->Prop
def PO(X:Cx)(e:Option iW)(t:TO):Prop :=
 ∀(pins:List (av×Obj))(s:az)(σ:St)(H:Hp)(Q:Option Int->Hp->Prop),Inv X pins σ H s->t σ H Q ->
  dj (model X.prog X.w) X.A (evalPart e X.env) (λ u b=>∃ o a,Inv X pins σ a b/\CT u o/\Q o a) X.xe s
def kOA:TO:=λ _ H Q=>Q none H
inductive kJV(Q:Option Int->Hp->Prop)(x:V)(H1:Hp):Prop
 | mk:∀ i,(x=.int i)->(Q (some i) H1)->kJV Q x H1
def kUD(t:TE):TO:=λ b H Q=>t b H λ x a=>kJV Q x a
section
variable {X:Cx} {e:iW} {te:TE} {lo hi:Option iW} {tl th:TO} {pos p2:Pos}
def jL:PO X none kOA:=by
 intro a s b H Q I h;rw[DN];exact bg ⟨none,H,I,.none,h⟩
def qK(h:PE X e te):PO X (some e) (kUD te):=by
 intro a s c H Q I d;rw[evalPart_some];refine thn (h a s c H _ I d) λ u l ⟨x,b,j,f,g⟩=>?_;obtain⟨i,rfl,q⟩:=g;obtain⟨t,rfl⟩:=f;exact⟨some i,b,j,.int i t,q⟩
def SlR(X:Cx)(r:V->Option Int->Option Int->Hp->VK->Prop):Prop :=
 ∀(pins:List (av×Obj))(s:az)(σ:St)(H:Hp)(x:V)(v vl vu:au)(lo hi:Option Int)(sl:av)(Q:VK),Inv X pins σ H s->RelV x v->s.heap.IsSliceOf sl vl vu .none->CT vl lo->CT vu hi->r x lo hi H Q ->
  ∃ T id,typeLookup (.type T) "__getitem__" = pure (some (.builtin id))/\s.TypeIs v T/\dj (model X.prog X.w) X.A (getItem v (.ref sl)) (EP X pins σ Q) X.xe s
def SlR.or{r r':V->Option Int->Option Int->Hp->VK->Prop}(h:SlR X r)(h':SlR X r'):SlR X (λ x lo hi H Q=>r x lo hi H Q\/r' x lo hi H Q):=by
 intro a s f H x v i j lo hi l Q I b d c g q;rcases q with q | q
 ·exact h a s f H x v i j lo hi l Q I b d c g q
 ·exact h' a s f H x v i j lo hi l Q I b d c g q
def tSl(r:V->Option Int->Option Int->Hp->VK->Prop)(c:TE)(b g:TO):TE:=λ a H Q=>c a H λ x d=>b a d λ l h=>g a h λ u f=>r x l u f Q
def qL{r:V->Option Int->Option Int->Hp->VK->Prop}(j:SlR X r)(he:PE X e te)(D:PO X lo tl)(Z:PO X hi th):PE X (.Subscript e (.Slice lo hi none p2) pos) (tSl r te tl th):=by
 intro a s d H Q I h;refine DW (thn (he a s d H _ I h) λ v S ⟨x,n,L,C,G⟩=>?_);refine wpAny_Slice (thn (D a S d n _ L G) λ f M ⟨l,O,U,N,o⟩=>thn (Z a M d O _ U o) λ g c ⟨u,i,m,y,B⟩=>?_);rw[DN];refine bg ?_;have p:Inv X a d i {c with heap:=c.heap.push {cls:=.type "slice",data:=.fields #[f,g,.none]}}:=m.kept (t':=c.toks) λ b ob q=>ar _ q
 obtain⟨T,id,hT,J,Y⟩:=j a {c with heap:=c.heap.push {cls:=.type "slice",data:=.fields #[f,g,.none]}} d i x v f g l u c.heap.objs.size Q p C (DX ..) N y B
 show dj (model X.prog X.w) X.A (subscriptTail e (.Slice lo hi none p2) v (.ref c.heap.objs.size)) (EP X a d Q) X.xe {c with heap:=c.heap.push {cls:=.type "slice",data:=.fields #[f,g,.none]}}
 exact tail_any (ops:=[.ref c.heap.objs.size,v]) J hT Y (by with_unfolding_all rfl)
def yD(xs:List V)(lo hi:Option Int):List V:=(xs.drop (HT.sIx xs.length 0 lo)).take (HT.sIx xs.length xs.length hi-HT.sIx xs.length 0 lo)
def dW(xs:List V)(lo hi:Option Int):(yD xs lo hi).length<=xs.length:=by
 unfold yD;rw[dq,iZ];omega
inductive kSE(K:be)(x:V)(lo:Option Int)(hi:Option Int)(H:Hp)(Q:VK):Prop
 | mk:∀ a xs,(x=.ref a)->(SqT K H a xs)->(¬ (HT.sIx xs.length 0 lo=0/\HT.sIx xs.length xs.length hi=xs.length))->(∀ p,H p=none->Q (.ref p) (upd H p (.tup (yD xs lo hi))))->kSE K x lo hi H Q
def sl_tup:SlR X (kSE X.K):=by
 intro l s C H x v B D lo g G Q I p n u m h;obtain⟨a,d,rfl,A,y,q⟩:=h;cases p
 obtain⟨f,r,i,j⟩:=I.tuple A;have c:f.toArray.size=d.length:=by rw[eY];exact r.length.symm
 refine⟨"tuple",_,iD.lookup,i.typeIs,?_⟩;refine HT.getItem_tuple_cut i n u m (by rw[c];exact y) ?_ (by rw[c];exact j);rw[c];refine⟨.ref s.heap.objs.size,_,I.laid (t':=s.toks) (o:=.tup (yD d lo g)) (λ b J q=>ar _ q) (bf _) ?_,rfl,q _ (I.hok.fresh (bf _))⟩;exact⟨jt (dW d lo g) j,_,(r.drop (HT.sIx d.length 0 lo)).take (HT.sIx d.length d.length g-HT.sIx d.length 0 lo),IsTupN.new _ _⟩
inductive kRB(K:be)(x:V)(y:V)(H:Hp)(Q:VK):Prop
 | mk:∀ a b xs ys,(x=.ref a)->(y=.ref b)->(SqT K H a xs)->(SqT K H b ys)->(xs≠[])->(xs.length+ys.length<=sizeLine)->((ys=[]->Q (.ref a) H))->((ys≠[]->∀ p,H p=none->Q (.ref p) (upd H p (.tup (xs++ys)))))->kRB K x y H Q
def Vals.nil_iff{xs:List V}{a:List au}(r:Vals xs a):a=[]↔xs=[]:=by
 cases r with
 | nil=>simp
 | cons _ _=>simp
def kPF:OpR X (binaryOp .Add) (kRB X.K):=by
 intro i s G H x y v u Q I r D h;obtain⟨a,b,m,C,rfl,rfl,A,l,B,g,p,j⟩:=h;cases r
 cases D
 obtain⟨n,d,p1,_⟩:=I.tuple A;obtain⟨f,c,p2,_⟩:=I.tuple l;refine HT.cat_tup p1 p2 (λ z=>B (d.nil_iff.mp z)) (λ z=>⟨.ref a,H,I,rfl,p (c.nil_iff.mp z)⟩) (λ z=>?_) (by rw[<-d.length,<-c.length];exact g);refine⟨.ref s.heap.objs.size,_,I.laid (t':=s.toks) (o:=.tup (m++C)) (λ b J q=>ar _ q) (bf _) ?_,rfl,j (λ w=>z (c.nil_iff.mpr w)) _ (I.hok.fresh (bf _))⟩;exact⟨by rw[bu];exact g,_,d.append c,IsTupN.new _ _⟩
end
def ixN(n:Nat)(i:Int):Option Nat:=if 0<=i then(if i<n then some i.toNat else none) else if -(n:Int)<=i then some (i+n).toNat else none
def atI{α:Type}(xs:List α)(i:Int):Option α:=(ixN xs.length i).bind λ j=>xs[j]?
def kFV{n:Nat}{i:Int}{j:Nat}(h:ixN n i=some j):seqIndex? i n=some j/\j<n/\-(n:Int)<=i/\i<n:=by
 unfold ixN at h;by_cases h0:0<=i
 ·rw[if_pos h0]at h
  by_cases h1:i<n
  ·rw[if_pos h1]at h
   have e:i.toNat=j:=bh h;exact⟨by rw[ET h0 h1,e],by omega,by omega,h1⟩
  ·rw[if_neg h1]at h;cases h
 ·rw[if_neg h0]at h
  by_cases h1 : -(n:Int)<=i
  ·rw[if_pos h1]at h
   have e:(i+n).toNat=j:=bh h;exact⟨by rw[Dk (by omega) h1,e],by omega,h1,by omega⟩
  ·rw[if_neg h1]at h;cases h
def kGP{α:Type}{xs:List α}{i:Int}{v:α}(h:atI xs i=some v):∃ j,seqIndex? i xs.length=some j/\xs[j]?=some v/\j<xs.length/\-(xs.length:Int)<=i/\i<xs.length:=by
 unfold atI at h
 cases e:ixN xs.length i with
 | none=>rw[e]at h;cases h
 | some j =>
  rw[e]at h;obtain⟨h1,b,c,a⟩:=kFV e;exact⟨j,h1,h,b,c,a⟩
def qP{α:Type}{xs:List α}{j:Nat}{v:α}(h:xs[j]?=some v):atI xs (j:Int)=some v:=by
 have a:j<xs.length:=(ak.mp h).1
 have e:ixN xs.length (j:Int)=some j:=by
  unfold ixN;rw[if_pos (by omega),if_pos (by omega)];simp
 unfold atI;rw[e];exact h
def zC{α:Type}(xs:List α)(v:α):atI (xs++[v]) (-1)=some v:=by
 have a:(xs++[v]).length=xs.length+1:=by simp
 have e:ixN (xs++[v]).length (-1)=some xs.length:=by
  unfold ixN;rw[a,if_neg (by decide),if_pos (by omega)]
  congr 1
  omega
 unfold atI;rw[e];show(xs++[v])[xs.length]?=some v;simp
def kGT(b:iW):Prop:=∀ o i,subscripted b false o i=operate [o,i] (getItem o i)
def IxR(X:Cx)(r:R2):Prop :=
 ∀(value a:iW)(pins:List (av×Obj))(s:az)(σ:St)(H:Hp)(x y:V)(v u:au)(Q:VK),Inv X pins σ H s->RelV x v->RelV y u->r x y H Q ->
  subscripted a false v u=operate [v,u] (getItem v u)->dj (model X.prog X.w) X.A (subscriptTail value a v u) (EP X pins σ Q) X.xe s
def MtR(X:Cx)(id:String)(r:V->List V->Hp->VK->Prop):Prop :=
 ∀(pins:List (av×Obj))(s:az)(σ:St)(H:Hp)(x:V)(xs:List V)(v:au)(us:List au)(Q:VK),Inv X pins σ H s->RelV x v->Vals xs us->r x xs H Q ->
  dj (model X.prog X.w) X.A (call (.builtin id) (v::us)) (EP X pins σ Q) X.xe s
section
variable {X:Cx} {a b:iW} {ta tb:TE} {pos:Pos}
def kUU{r:R2}(d:IxR X r)(l:PE X a ta)(f:PE X b tb)(i:kGT b):PE X (.Subscript a b pos) (tOp r ta tb):=by
 intro c s m H Q I h;exact DW (kTW l f I h λ v u g x y n o j p q=>d a b c g m n x y v u Q o j p q (i _ _))
inductive kHV(K:be)(x:V)(y:V)(H:Hp)(Q:VK):Prop
 | mk:∀ p xs i v,(x=.ref p)->(y=.int i)->(SqL K H p xs)->(atI xs i=some v)->(Q v H)->kHV K x y H Q
inductive kAJ(K:be)(x:V)(y:V)(H:Hp)(Q:VK):Prop
 | mk:∀ p xs i v,(x=.ref p)->(y=.int i)->(SqT K H p xs)->(atI xs i=some v)->(Q v H)->kAJ K x y H Q
def kX:IxR X (kHV X.K):=by
 intro value c a s o H x y v u Q I C L h m;obtain⟨p,T,i,z,rfl,rfl,A,N,q⟩:=h;cases C
 obtain⟨t,rfl⟩:=L;obtain⟨d,r,g,U⟩:=I.list A;obtain⟨j,h1,D,O,G,J⟩:=kGP N;obtain⟨w,n,l⟩:=r.get D;have B:=r.length;have S:=cZ;have b:EP X a o Q w s:=⟨z,H,I,l,q⟩;by_cases h0:0<=i
 ·have f:i.toNat=j:=by
   rw[ET h0 J]at h1;exact bh h1
  exact item_listR g.isList h0 (by omega) (by rw[f];simpa using n) b m
 ·have f:(i+(d.toArray.size:Int)).toNat=j:=by
   rw[Dk (by omega) G]at h1;rw[eY,<-B];exact bh h1
  exact CU (x:=w) g.isList.typeIs Dl.lookup
   (wpAny_getItem_list_neg (Q:=λ r M=>r=w/\EP X a o Q r M) g.isList (by omega) (by rw[eY]<;>omega) (by omega) (by rw[f];simpa using n) ⟨rfl,b⟩) m
def qB:IxR X (kAJ X.K):=by
 intro value c a s g H x y v u Q I B D h o;obtain⟨p,N,i,z,rfl,rfl,l,J,q⟩:=h;cases B
 obtain⟨t,rfl⟩:=D;obtain⟨n,r,f,O⟩:=I.tuple l;obtain⟨j,h1,C,L,S,T⟩:=kGP J;obtain⟨w,A,d⟩:=r.get C;have m:=r.length;have M:=cZ;have b:EP X a g Q w s:=⟨z,H,I,d,q⟩
 exact CU (x:=w) f.typeIs slot_tuple_getitem.lookup
  (getItem_tuple (j:=j) (Q:=λ r G=>r=w/\EP X a g Q r G) f (by omega) (by omega) (by rw[eY,<-m];exact h1) (by simpa using A) ⟨rfl,b⟩) o
def kDJ(a:List au)(n j:Nat)(u:au):uh (·.setIfInBounds j u) {cls:=.type "list",data:=.seq a.toArray n}={cls:=.type "list",data:=.seq (a.set j u).toArray n}:=by
 simp[uh]
theorem Inv.lst{b:List (av×Obj)}{c:St}{H:Hp}{s:az}{p:av}{xs:List V}(I:Inv X b c H s)(h:H p=some (.lst xs)) :
  ∃(a:List au)(n:Nat),Vals xs a/\s.heap.get? p=some {cls:=.type "list",data:=.seq a.toArray n}/\xs.length<=sizeLine:=by
 obtain⟨z,a,n,r,e⟩:=I.hok p _ h;exact⟨a,n,r,e,z⟩
def Inv.lstUpd{a:List (av×Obj)}{g:St}{H:Hp}{s:az}{p:av}{xs ys:List V}{c its':List au}{n d:Nat}{f:Obj->Obj}(I:Inv X a g H s)(h:H p=some (.lst xs))
  (j:s.heap.get? p=some {cls:=.type "list",data:=.seq c.toArray n}) (i:f {cls:=.type "list",data:=.seq c.toArray n}={cls:=.type "list",data:=.seq its'.toArray d}) (r:Vals ys its') (hz:ys.length<=sizeLine) (t:Nat) :
  Inv X a g (upd H p (.lst ys)) {s with heap:=s.heap.update p f,toks:=t}:=by
 have e:(s.heap.update p f).get? p=some {cls:=.type "list",data:=.seq its'.toArray d}:=by
  rw[qz f j (by rw[i]<;>rfl),i]
 refine I.write (x:=p) (e:=p) (by rw[h];trivial) (.inl rfl) (λ b u l q=>(CV _ _ (ub l)).trans q) ⟨_,e⟩ ?_;exact⟨hz,its',d,r,e⟩
inductive kQZ(o:V)(i:V)(v:V)(H:Hp)(Q:Hp->Prop):Prop
 | mk:∀ p xs k j,(o=.ref p)->(i=.int k)->(H p=some (.lst xs))->(ixN xs.length k=some j)->(Q (upd H p (.lst (xs.set j v))))->kQZ o i v H Q
def gM:kVR X kQZ:=by
 intro b s G H o i v L M u Q I x y A h;obtain⟨p,B,k,j,rfl,rfl,hp,C,q⟩:=h;cases x
 obtain⟨t,rfl⟩:=y;obtain⟨a,n,r,f,D⟩:=I.lst hp;obtain⟨h1,N,g,m⟩:=kFV C;have c:=r.length;have J:=cZ
 have l:Inv X b G (upd H p (.lst (B.set j v))) {s with heap:=s.heap.update p (uh (·.setIfInBounds j u))} :=
  I.lstUpd hp f (kDJ a n j u) (r.set A j) (by rw[BA];exact D) s.toks
 by_cases h0:0<=k
 ·have d:k.toNat=j:=by
   rw[ET h0 m]at h1;exact bh h1
  exact PySem.W.ki_setAt f h0 (by omega) (by rw[eY,<-c];exact m) (by rw[d];exact⟨_,l,q⟩)
 ·have d:(k+(a.toArray.size:Int)).toNat=j:=by
   rw[Dk (by omega) g]at h1;rw[eY,<-c];exact bh h1
  exact PySem.W.ki_setBack f (by omega) (by rw[eY,<-c];exact g) (by omega) (by rw[d];exact⟨_,l,q⟩)
def pX(lo hi:Option Int)(n:Nat):(sliceBounds lo hi none n).1=((HT.sIx n 0 lo:Nat):Int)/\(sliceBounds lo hi none n).2.1=((HT.sIx n n hi:Nat):Int)/\(sliceBounds lo hi none n).2.2=1:=by
 refine⟨?_,?_,rfl⟩
 ·cases lo with
  | none=>simp[sliceBounds,HT.sIx]
  | some i =>
   simp only[sliceBounds,HT.sIx,EL,show(1:Int)>0 by decide,if_true];by_cases h:i<0
   ·simp only[h,if_true]<;>omega
   ·simp only[h,if_false]<;>omega
 ·cases hi with
  | none=>simp[sliceBounds,HT.sIx]
  | some i =>
   simp only[sliceBounds,HT.sIx,EL,show(1:Int)>0 by decide,if_true];by_cases h:i<0
   ·simp only[h,if_true]<;>omega
   ·simp only[h,if_false]<;>omega
def mX(a:List au)(lo hi:Option Int):slicePick a.toArray lo hi none=((a.drop (HT.sIx a.length 0 lo)).take (HT.sIx a.length a.length hi-HT.sIx a.length 0 lo)).toArray:=by
 obtain⟨h1,b,c⟩:=pX lo hi a.toArray.size;unfold slicePick;rw[h1,b,c];simp only[sliceRange_one,pick_run,eY]<;>rfl
inductive kUR(K:be)(x:V)(lo:Option Int)(hi:Option Int)(H:Hp)(Q:VK):Prop
 | mk:∀ a xs,(x=.ref a)->(SqL K H a xs)->(∀ p,H p=none->Q (.ref p) (upd H p (.lst (yD xs lo hi))))->kUR K x lo hi H Q
def yS:SlR X (kUR X.K):=by
 intro i s B H x v A C lo f D Q I n m u j h;obtain⟨a,c,rfl,y,q⟩:=h;cases n
 obtain⟨l,r,g,p⟩:=I.list y;have d:=r.length;refine⟨"list",_,Dl.lookup,g.isList.typeIs,?_⟩;refine wpAny_getItem_list_slice g.isList m u j .none (by simp) ?_ (by rw[eY]<;>omega);rw[mX,<-d];refine⟨.ref s.heap.objs.size,_,I.laid (t':=s.toks) (o:=.lst (yD c lo f)) (λ b G q=>ar _ q) (bf _) ?_,rfl,q _ (I.hok.fresh (bf _))⟩;exact⟨jt (dW c lo f) p,_,0,(r.drop (HT.sIx c.length 0 lo)).take (HT.sIx c.length c.length f-HT.sIx c.length 0 lo),ck _ rfl⟩
def aE:V->Bool
 | .non=>true
 | .bl _=>true
 | .int _=>true
 | .str _=>true
 | _=>false
def eqV:V->V->Bool
 | .non,.non=>true
 | .bl a,.bl b=>a == b
 | .bl a,.int b=>(if a then 1 else 0) == b
 | .int a,.bl b=>a == (if b then 1 else 0)
 | .int a,.int b=>a == b
 | .str a,.str b=>a == b
 | _,_=>false
def kTR{A:fk}{s:az}{y x:V}{u v:au}(g:RelV y u)(c:RelV x v)(h:aE y=true)(f:aE x=true):Em A s u v (eqV y x):=by
 cases y with
 | non =>
  cases g
  cases x with
  | non=>cases c;exact SeqAt.EqAt.same _
  | bl b=>cases c;exact SeqAt.EqAt.none_bool b
  | int b=>obtain⟨t,rfl⟩:=c;exact SeqAt.EqAt.none_int b t
  | str b=>obtain⟨t,rfl⟩:=c;exact SeqAt.EqAt.none_str b t
  | _=>exact absurd (show false=true from f) eC
 | bl a =>
  cases g
  cases x with
  | non=>cases c;exact SeqAt.EqAt.bool_none a
  | bl b=>cases c;exact SeqAt.EqAt.bool_bool a b
  | int b=>obtain⟨t,rfl⟩:=c;exact SeqAt.EqAt.bool_int a b t
  | str b=>obtain⟨t,rfl⟩:=c;exact SeqAt.EqAt.bool_str a b t
  | _=>exact absurd (show false=true from f) eC
 | int a =>
  obtain⟨d,rfl⟩:=g
  cases x with
  | non=>cases c;exact SeqAt.EqAt.int_none a d
  | bl b=>cases c;exact SeqAt.EqAt.int_bool a d b
  | int b=>obtain⟨t,rfl⟩:=c;exact SeqAt.EqAt.int_int a d b t
  | str b=>obtain⟨t,rfl⟩:=c;exact DQ a d b t
  | _=>exact absurd (show false=true from f) eC
 | str a =>
  obtain⟨d,rfl⟩:=g
  cases x with
  | non=>cases c;exact SeqAt.EqAt.str_none a d
  | bl b=>cases c;exact SeqAt.EqAt.str_bool a d b
  | int b=>obtain⟨t,rfl⟩:=c;exact DR a d b t
  | str b=>obtain⟨t,rfl⟩:=c;exact SeqAt.EqAt.str_str a d b t
  | _=>exact absurd (show false=true from f) eC
 | _=>exact absurd (show false=true from h) eC
def eqU(x:V)(u:au):Bool:=match u with
 | .none=>eqV .non x
 | .bool b=>eqV (.bl b) x
 | .int i _=>eqV (.int i) x
 | .str z _=>eqV (.str z) x
 | _=>false
def kNB{x y:V}{u:au}(r:RelV y u)(f:aE y=true):eqU x u=eqV y x:=by
 cases y with
 | non=>cases r;rfl
 | bl b=>cases r;rfl
 | int i=>obtain⟨t,rfl⟩:=r;rfl
 | str z=>obtain⟨t,rfl⟩:=r;rfl
 | _=>exact absurd (show false=true from f) eC
theorem cG{x:V}:∀{xs:List V}{a:List au},Vals xs a->xs.all aE=true->a.any (eqU x)=xs.any λ y=>eqV y x
 | _,_,.nil,_=>rfl
 | y::xs,u::a,.cons r t,f=>by
  rw[Fe,iI]at f;rw[Ao,Ao,kNB r f.1,cG t f.2]
theorem uL{A:fk}{s:az}{x:V}{v:au}(c:RelV x v)(d:aE x=true):∀{xs:List V}{b:List au},Vals xs b->xs.all aE=true->∀ u∈b,Em A s u v (eqU x u)
 | _,_,.nil,_=>λ u a=>by cases a
 | y::xs,u::b,.cons r t,f=>λ g a=>by
  rw[Fe,iI]at f;rcases eA.mp a with rfl | a
  ·rw[kNB r f.1];exact kTR r c f.1 d
  ·exact uL c d t f.2 g a
def inV(x:V)(xs:List V):Bool:=xs.any λ y=>eqV y x
inductive rIn(K:be)(neg:Bool)(x:V)(y:V)(H:Hp)(Q:VK):Prop
 | mk:∀ p xs,(y=.ref p)->((SqL K H p xs\/SqT K H p xs))->(aE x=true)->(xs.all aE=true)->(Q (.bl (if neg then !inV x xs else inV x xs)) H)->rIn K neg x y H Q
def zM:OpR X (compareOp .In) (rIn X.K false):=by
 intro i s n H x y v u Q I g l h;obtain⟨p,m,rfl,b,f,fs,q⟩:=h;cases l
 rcases b with b | b
 ·obtain⟨a,r,c,j⟩:=I.list b
  refine SeqAt.in_listAt (eqU x) c.isList (λ w d=>uL g f r fs w (by simpa using d)) ⟨.bl _,H,I,rfl,?_⟩;rw[show a.toArray.any (eqU x)=a.any (eqU x) by simp,cG r fs];exact q
 ·obtain⟨a,r,c,j⟩:=I.tuple b
  refine SeqAt.in_tupleAt (eqU x) c (λ w d=>uL g f r fs w (by simpa using d)) ⟨.bl _,H,I,rfl,?_⟩;rw[show a.toArray.any (eqU x)=a.any (eqU x) by simp,cG r fs];exact q
def vH:OpR X (compareOp .NotIn) (rIn X.K true):=by
 intro i s n H x y v u Q I g l h;obtain⟨p,m,rfl,b,f,fs,q⟩:=h;cases l
 rcases b with b | b
 ·obtain⟨a,r,c,j⟩:=I.list b
  refine SeqAt.notIn_listAt (eqU x) c.isList (λ w d=>uL g f r fs w (by simpa using d)) ⟨.bl _,H,I,rfl,?_⟩;rw[show a.toArray.any (eqU x)=a.any (eqU x) by simp,cG r fs];exact q
 ·obtain⟨a,r,c,j⟩:=I.tuple b
  refine SeqAt.notIn_tupleAt (eqU x) c (λ w d=>uL g f r fs w (by simpa using d)) ⟨.bl _,H,I,rfl,?_⟩;rw[show a.toArray.any (eqU x)=a.any (eqU x) by simp,cG r fs];exact q
inductive yU(K:be)(xs:List V)(H:Hp)(Q:VK):Prop
 | mk:∀ p ys,(xs=[.ref p])->((SqL K H p ys\/SqT K H p ys))->(Q (.int ys.length) H)->yU K xs H Q
def kR:zD X (.builtin "len") (yU X.K):=by
 intro g s o H n v Q I r h;obtain⟨p,i,rfl,b,q⟩:=h;obtain⟨u,rfl,j⟩:=uX r;cases j
 have m:=cZ;rcases b with b | b
 ·obtain⟨d,c,f,l⟩:=I.list b
  have a:=c.length;exact Calls.call_len_list f.isList (by simp only[eY]<;>omega) ⟨.int i.length,H,I.tok _,⟨s.toks+1,by rw[eY,a]⟩,q⟩
 ·obtain⟨d,c,f,l⟩:=I.tuple b
  have a:=c.length;exact len_tuple f (by simp only[eY]<;>omega) ⟨.int i.length,H,I.tok _,⟨s.toks+1,by rw[eY,a]⟩,q⟩
inductive wJ(K:be)(xs:List V)(H:Hp)(Q:VK):Prop
 | mk:∀ p ys,(xs=[.ref p])->((SqL K H p ys\/SqT K H p ys))->(∀ l,H l=none->Q (.ref l) (upd H l (.lst ys)))->wJ K xs H Q
def cE:zD X (.type "list") (wJ X.K):=by
 intro l s J H L M Q I r h;obtain⟨p,A,rfl,i,q⟩:=h;obtain⟨u,rfl,G⟩:=uX r;cases G
 have g:∀(a:List au),Vals A a->A.length<=sizeLine->∀(c:iV)(f:Nat),(∀ b D,s.heap.get? b=some D->c.get? b=some D) ->
   c.get? s.heap.objs.size=some {cls:=.type "list",dict:=none,data:=.seq a.toArray f,slots:=#[]}->EP X l J Q (.ref s.heap.objs.size) {s with heap:=c}:=λ a d j c f v e =>
  ⟨.ref s.heap.objs.size,_,I.laid (t':=s.toks) v (bf _) (show ObjOk X.prog X.w _ c _ (.lst A) from⟨j,a,f,d,e⟩),rfl,q _ (I.hok.fresh (bf _))⟩
 rcases i with i | i
 ·obtain⟨a,d,x,j⟩:=I.list i
  have m:=d.length;obtain⟨o,C,B,n,y⟩:=x.isList;exact call_list_seq p (.inl rfl) C B y (λ c f v e=>g a d j c f v e) (by simp only[eY]<;>omega)
 ·obtain⟨a,d,x,j⟩:=I.tuple i
  have m:=d.length;obtain⟨o,C,B,n,y⟩:=x;exact call_list_seq p (.inr rfl) C B y (λ c f v e=>g a d j c f v e) (by simp only[eY]<;>omega)
inductive yL(K:be)(xs:List V)(H:Hp)(Q:VK):Prop
 | mk:∀ p ys,(xs=[.ref p])->(((SqL K H p ys/\∀ l,H l=none->Q (.ref l) (upd H l (.tup ys)))\/(SqT K H p ys/\Q (.ref p) H)))->yL K xs H Q
def qE:zD X (.type "tuple") (yL X.K):=by
 intro a s m H B C Q I r h;obtain⟨p,v,rfl,h⟩:=h;obtain⟨u,rfl,x⟩:=uX r;cases x
 rcases h with⟨f,q⟩ | ⟨f,q⟩
 ·obtain⟨c,g,i,l⟩:=I.list f
  have n:=g.length;refine call_tuple_list i.isList (λ d y=>?_) (by simp only[eY]<;>omega);have j:Inv X a m H {s with heap:=d}:=I.kept (t':=s.toks) y
  have A:Inv X a m (upd H d.objs.size (.tup v)) {s with heap:=d.push {cls:=.type "tuple",data:=.seq c.toArray}} :=
   j.laid (t':=s.toks) (λ b o e=>ar _ e) (bf _) (show ObjOk X.prog X.w _ _ _ (.tup v) from⟨l,c,g,IsTupN.new _ _⟩)
  exact⟨.ref d.objs.size,_,A,rfl,q _ (j.hok.fresh (bf _))⟩
 ·obtain⟨c,g,i,l⟩:=I.tuple f
  exact call_tuple_same i ⟨.ref p,H,I,rfl,q⟩
def tyV(K:be)(T:String)(x:V)(H:Hp):Prop:=match x with
 | .str _=>T = "str"
 | .int _=>T = "int"
 | .ref p=>(T = "list"/\∃ b,SqL K H p b)\/(T = "tuple"/\((∃ o,K.lookup p=some o/\o.cls=.type "tuple"/\o.dict=none)\/∃ b,H p=some (.tup b))) \/
   (T = "dict"/\((∃ a,H p=some (.dK a))\/∃ a,H p=some (.dT a)))\/(T = "set"/\∃ S n,H p=some (.set S n))
 | _=>False
def kRS{g:List (av×Obj)}{A:St}{H:Hp}{s:az}{T:String}{x:V}{v:au}(I:Inv X g A H s)(r:RelV x v)(j:tyV X.K T x H) :
  s.TypeIs v T/\∀ a,v=.ref a->∃ ob,s.heap.get? a=some ob/\ob.dict=none:=by
 cases x with
 | str z =>
  obtain⟨t,rfl⟩:=r
  cases(show T = "str" from j)
  exact⟨typeIs_str s z t,λ _ e=>nomatch e⟩
 | int i =>
  obtain⟨t,rfl⟩:=r
  cases(show T = "int" from j)
  exact⟨Eo s i t,λ _ e=>nomatch e⟩
 | ref p =>
  cases r
  rcases j with⟨rfl,u,q⟩ | ⟨rfl,⟨o,b,B,f⟩ | ⟨u,q⟩⟩ | ⟨rfl,b⟩ | ⟨rfl,S,n,b⟩
  ·obtain⟨m,_,y,_⟩:=I.list q
   refine⟨y.isList.typeIs,λ a e=>?_⟩;cases e
   obtain⟨o,n,e,c,f,_⟩:=y;exact⟨o,e,f⟩
  ·refine⟨⟨o,I.kIn p o b,B⟩,λ a e=>?_⟩
   cases e
   exact⟨o,I.kIn _ o b,f⟩
  ·obtain⟨_,m,_,o,e,c,n,_,f⟩:=(show ObjOk X.prog X.w H s.heap p (.tup u) from I.hok p _ q)
   refine⟨⟨o,e,c⟩,λ a h=>?_⟩;cases h
   exact⟨o,e,f⟩
  ·have z:∃ o,s.heap.get? p=some o/\o.ExactDict:=by
    rcases b with⟨l,b⟩ | ⟨l,b⟩
    ·obtain⟨_,_,_,_,o,_,_,e,d,_⟩:=I.hok p _ b
     exact⟨o,e,d⟩
    ·obtain⟨_,_,_,_,o,_,_,e,d,_⟩:=I.hok p _ b
     exact⟨o,e,d⟩
   obtain⟨o,e,d⟩:=z;refine⟨⟨o,e,d.1⟩,λ a h=>?_⟩;cases h
   exact⟨o,e,d.2.1⟩
  ·obtain⟨o,_,_,_,e,d,_⟩:=I.hok p _ b
   refine⟨⟨o,e,d.1⟩,λ a h=>?_⟩;cases h
   exact⟨o,e,d.2.1⟩
 | _=>exact xj j
inductive kUJ(K:be)(T:String)(r:V->List V->Hp->VK->Prop)(t:TA)(σ:St)(Q:VK)(x:V)(H1:Hp):Prop
 | mk:(tyV K T x H1)->(t σ H1 λ xs H2=>r x xs H2 Q)->kUJ K T r t σ Q x H1
def tBM(K:be)(T:String)(r:V->List V->Hp->VK->Prop)(to:TE)(t:TA):TE:=λ a H Q=>to a H λ x b=>kUJ K T r t a Q x b
variable {o e:iW} {es:List iW} {to:TE} {t:TA} {name:Str} {apos cpos:Pos} {T id:String} {r:V->List V->Hp->VK->Prop}
def kAN(q:PlainAttrs T)(g:Slot T name id)(j:typeOf (.builtin id)=pure (.type "method_descriptor"))(u:MtR X id r)(y:PE X o to)(G:PA X (e::es) t)
  (d:attributeBase o name X.env (eval o X.env)=eval o X.env:=by rfl)
  (f:((backTo cpos (starEach (e::es) X.env)).all (λ x=>!x.1) && (backToKw cpos (keywordEach [] X.env)).all (λ x=>x.1.isSome)
   && decide ((e::es).length+([]:List Ef).length+(if([]:List Ef).isEmpty then 0 else 1)<30))=true:=by rfl)
  (c:(apos.endLine == cpos.line)=true:=by rfl) (D:starEach (e::es) X.env=(false,eval e X.env)::starEach es X.env:=by rfl) (b:(backTo cpos (starEach es X.env)).any (·.1)=false:=by rfl) :
  PE X (.Call (.Attribute o name apos) (e::es) [] cpos) (tBM X.K T r to t):=by
 intro a s i H Q I h;refine wpAny_Call_method_late d f c rfl (thn (y a s i H _ I h) λ v M ⟨x,n,m,l,S,A⟩=>?_);obtain⟨h1,J⟩:=kRS m l S;refine⟨T,id,q,g,j,h1,J,?_⟩;have hA:=G cpos a M i n _ m A;rw[D]at hA ⊢;refine CW (by show(false || (backTo cpos (starEach es X.env)).any (·.1))=false;rw[b]<;>rfl) (Calls.evalArgs_plain ?_);exact thn hA λ N B ⟨U,L,O,C,p⟩=>u a B i L x U v N Q O l C p
end
def MtM(X:Cx)(id:String)(r:V->List V->Hp->VK->Prop):Prop :=
 ∀(pins:List (av×Obj))(s:az)(σ:St)(H:Hp)(x:V)(xs:List V)(v:au)(us:List au)(Q:VK),Inv X pins σ H s->RelV x v->Vals xs us->r x xs H Q ->
  dj (model X.prog X.w) X.A (call (.builtin id) (v::us)) (EP X pins σ Q) X.xe s
def Vals.one:∀{x:V}{a:List au},Vals [x] a->∃ u,a=[u]/\RelV x u
 | _,_,.cons r .nil=>⟨_,rfl,r⟩
def Vals.two:∀{x y:V}{a:List au},Vals [x,y] a->∃ u v,a=[u,v]/\RelV x u/\RelV y v
 | _,_,_,.cons r (.cons q .nil)=>⟨_,_,rfl,r,q⟩
theorem Vals.eraseIdx:∀{xs:List V}{a:List au}(i:Nat),Vals xs a->Vals (xs.eraseIdx i) (a.eraseIdx i)
 | _,_,_,.nil=>.nil
 | _,_,0,.cons _ t=>t
 | _,_,i+1,.cons r t=>.cons r (Vals.eraseIdx i t)
theorem Vals.reverse{xs:List V}{a:List au}(h:Vals xs a):Vals xs.reverse a.reverse:=by
 induction h with
 | nil=>exact .nil
 | cons r t ih=>rw[vf,vf];exact Vals.append ih (.cons r .nil)
theorem Vals.rep{xs:List V}{a:List au}(h:Vals xs a):∀ k:Nat,Vals (gj k xs).flatten (gj k a).flatten
 | 0=>.nil
 | k+1=>by
  rw[wu,wu,yf,yf];exact Vals.append h (Vals.rep h k)
theorem oT{α:Type}:∀(l:List α)(i:Nat),(l.eraseIdx i).length<=l.length
 | [],_=>bf _
 | _::_,0=>Aq _
 | _::r,i+1=>Nat.succ_le_succ (oT r i)
theorem oZ(b:List au):∀(k:Nat)(a:List au),
  Ep (λ x1 x2=>x1++x2) a.toArray (gj k b.toArray)=(a++(gj k b).flatten).toArray
 | 0,a=>by simp
 | k+1,a=>by
  have e:a.toArray++b.toArray=(a++b).toArray:=by simp
  have c:(a++b)++(gj k b).flatten=a++(gj (k+1) b).flatten:=by
   rw[wu,yf,di]
  rw[<-c,<-oZ b k (a++b),<-e,wu,wg]
section
variable {X:Cx} {pins:List (av×Obj)} {σ:St} {H:Hp} {s:az} {l b:av} {xs ys zs:List V}
def Inv.lset{a its':List au}{n:Nat}{f:Array au->Array au}{t':Nat}(I:Inv X pins σ H s)(c:H l=some (.lst xs))
  (e:s.heap.get? l=some {cls:=.type "list",data:=.seq a.toArray n}) (h:f a.toArray=its'.toArray) (b:Vals ys its') (hz:ys.length<=sizeLine) :
  Inv X pins σ (upd H l (.lst ys)) {s with heap:=s.heap.update l (uh f),toks:=t'}:=by
 have q:=PySem.IsL.update e f;rw[h]at q;refine I.write (x:=l) (e:=l) (by rw[c];exact trivial) (.inl rfl) (λ i u g d=>(CV s.heap (uh f) (ub g)).trans d) ⟨_,q⟩ ?_;exact⟨hz,its',_,b,q⟩
def Inv.lnew{a:List au}{t':Nat}(I:Inv X pins σ H s)(b:Vals ys a)(hz:ys.length<=sizeLine) :
  Inv X pins σ (upd H s.heap.objs.size (.lst ys)) {s with heap:=s.heap.push {cls:=.type "list",data:=.seq a.toArray},toks:=t'} :=
 I.laid (λ _ _ q=>ar _ q) (bf _) ⟨hz,a,0,b,ck _ rfl⟩
theorem Inv.fresh(I:Inv X pins σ H s):H s.heap.objs.size=none:=I.hok.fresh (bf _)
def Inv.lstM(I:Inv X pins σ H s)(b:H l=some (.lst xs)):xs.length<=sizeLine/\∃(a:List au)(n:Nat),Vals xs a/\xs.length=a.length/\s.heap.get? l=some {cls:=.type "list",data:=.seq a.toArray n}:=by
 obtain⟨z,a,n,r,e⟩:=I.hok l _ b;exact⟨z,a,n,r,r.length,e⟩
def kLW{n:Nat}(h:n<=sizeLine):zm n=false:=by
 unfold zm;exact decide_eq_false (by omega)
end
section
variable {X:Cx}
inductive kFH(x:V)(vs:List V)(H:Hp)(Q:VK):Prop
 | mk:∀ l xs y,(x=.ref l)->(vs=[y])->(H l=some (.lst xs))->(xs.length<sizeLine)->(Q .non (upd H l (.lst (xs++[y]))))->kFH x vs H Q
def xG:MtM X "list.append" kFH:=by
 intro c s o H x A v p Q I g d h;obtain⟨l,i,y,rfl,rfl,b,m,q⟩:=h;cases g
 obtain⟨u,rfl,f⟩:=d.one;obtain⟨z,a,n,r,j,e⟩:=I.lstM b;refine Af F.slot_list_append ⟨_,e,rfl⟩ F.entry_list_append (F.args_list_append_2 _ _) (PySem.list_append l a.toArray n u (by rw[eY];omega)) ⟨e,?_⟩;refine⟨.non,_,I.lset (its':=a++[u]) b e (by simp) (r.append (.cons f .nil)) ?_,rfl,q⟩;rw[bu,fj];omega
inductive kUT(x:V)(y:V)(H:Hp)(Q:VK):Prop
 | mk:∀ l b xs zs,(x=.ref l)->(y=.ref b)->(H l=some (.lst xs))->(H b=some (.lst zs))->(xs.length+zs.length<=sizeLine)->(∀ p,H p=none->Q (.ref p) (upd H p (.lst (xs++zs))))->kUT x y H Q
def cU:OpR X (binaryOp .Add) kUT:=by
 intro d s J H x y v u Q I j p h;obtain⟨l,b,C,A,rfl,rfl,m,hB,G,q⟩:=h;cases j
 cases p
 obtain⟨z,c,n,r,D,e⟩:=I.lstM m;obtain⟨L,a,B,i,g,f⟩:=I.lstM hB;refine PySem.P.add_list e f ?_ (by rw[eY,eY];omega);have o:c.toArray++a.toArray=(c++a).toArray:=by simp
 rw[o];exact⟨.ref _,_,I.lnew (t':=s.toks) (r.append i) (by rw[bu];omega),rfl,q _ I.fresh⟩
inductive kUS(x:V)(y:V)(H:Hp)(Q:VK):Prop
 | mk:∀ l k xs,(x=.ref l)->(y=.int k)->(H l=some (.lst xs))->(-(2 ^ 63)<=k)->(k<2 ^ 63)->(xs.length*k.toNat<=sizeLine)->(∀ p,H p=none->Q (.ref p) (upd H p (.lst (gj k.toNat xs).flatten)))->kUS x y H Q
def kPQ{α:Type}(xs:List α)(k:Nat):(gj k xs).flatten.length=k*xs.length:=by
 induction k with
 | zero=>simp
 | succ k ih=>rw[wu,yf,bu,ih,Nat.succ_mul,AN]
def kSN:OpR X (binaryOp .Mult) kUS:=by
 intro A s O H x y v u Q I C J h;obtain⟨l,k,N,rfl,rfl,D,h1,G,p,q⟩:=h;cases C
 obtain⟨t,rfl⟩:=J;obtain⟨z,b,n,r,B,e⟩:=I.lstM D;have i:b.toArray.size*k.toNat<=sizeLine:=by rw[eY,<-B];exact p
 have g:¬ b.toArray.size*k.toNat>(2 ^ 63-1) / 8:=by
  have:(sizeLine:Nat)<=(2 ^ 63-1) / 8:=by decide
  omega
 have d:¬ (!Builtin.List.listFitsIndex k)=true:=by
  rw[Er h1 G];exact eC
 have c:¬ zm (b.toArray.size*k.toNat)=true:=by
  rw[kLW i];exact eC
 have f:Ep (λ j o=>j++o) #[] (gj (if b.toArray.isEmpty=true then 0 else k.toNat) b.toArray)=(gj k.toNat b).flatten.toArray:=by
  have M:∀ m:Nat,Ep (λ j o=>j++o) #[] (gj m b.toArray)=(gj m b).flatten.toArray:=λ m=>by
   have:=oZ b m [];rw[pd]at this;exact this
  rw[M]
  cases b with
  | nil=>simp
  | cons a r'=>rw[if_neg (by simp)]
 refine wpAny_binaryOp_repeat_ref (T:="list") (U:="int") (by decide) ⟨_,e,rfl⟩ (λ L=>Eo L k t) noFill_list_mul F.fills_int_mul EX repeat_list F.slot_int_index.lookup
  (Af EX (Eo s k t) F.entry_int_rmul (F.args_int_rmul_2 _ _) (int___rmul___int_list k t l b.toArray n)
   ⟨e,rfl,⟨_,e,rfl⟩,Af F.slot_list_mul ⟨_,e,rfl⟩ F.entry_list_mul (F.args_list_mul_2 _ _) (AutoListH.list___mul___list_int_3 l b.toArray n k t d g c) ⟨e,?_⟩⟩)
 rw[f];exact⟨.ref _,_,I.lnew (t':=s.toks) (r.rep k.toNat) (by rw[kPQ,Nat.mul_comm];exact p),rfl,q _ I.fresh⟩
end
section
variable {prog:eX} {w:iN} {A:fk} {E:au->az->Prop} {s:az}
end
section
variable {X:Cx}
end
end L2
namespace Att
open PySem PySem.W PySem.Calls PyProof.Rows
def fN{P:Gc}{h:iV}:∀(c:List Int)(d:List au),WellAll P h d (c.map Gj)->Dm d c:=by
 intro c
 induction c with
 | nil =>
  intro d w;rw[Do]at w;cases w
  exact .nil
 | cons n c ih =>
  intro d w;rw[eZ]at w
  cases w with
  | cons a b =>
   cases a
   exact .cons _ _ (ih _ b)
def kHO{l:OpenLaw}{n:Nat}(v:l.most=some n){P:Gc}{h:iV}{args:List WData}{c:List au}
  (b:l.row.toRowW.claim.pre args=true) (j:WellAll P h c args) :
  ∃ a vs ns,c=[jx a]/\args=[WData.list (ns.map Gj)]/\h.get? a=some {cls:=.type "list",data:=.seq vs.toArray}/\Dm vs ns/\ns.length<=n:=by
 have m:WShape.hasAll [] args [.list .int]=true:=(pre_splitW b).1;have o:l.pre.holds [] {args:=args}=true:=(pre_splitW b).2;obtain⟨d,r,rfl,h1,s⟩:=hasAllW_cons m;obtain rfl:=hasAllW_nil s;obtain⟨x,rfl,p⟩:=hasW_list h1;obtain⟨ns,rfl⟩:=items_int p
 have f:ns.length<=n:=by
  unfold OpenLaw.pre at o
  have g:(WTm.not (.lt (.lit (.int (n:Int))) (.len (.arg 0)))).holds [] {args:=[.list (ns.map .int)]}=true:=by
   have g:=(holds_andW o).1;rw[v]at g;exact g
  have i:=condW_of g (w_not (w_lt w_lit (w_len_list (w_arg rfl))));rw[aj]at i;refine Nat.le_of_not_lt λ q=>?_;have u:(n:Int)<((ns.length:Nat):Int):=by omega
  first
   | (rw[decide_eq_true u]at i;exact absurd i (by decide))
   | (simp at i;omega)
 cases j with
 | cons w1 w2 =>
  cases w2
  cases w1 with
  | list ho hall=>exact⟨_,_,ns,rfl,rfl,ho,fN ns _ hall,f⟩
def kHX(l:OpenLaw)(args:List WData):l.row.toRowW.claim.post args (.bool true) args=true :=
 postW_of (r:=l.row.toRowW) (X:=(true == true))
  (show Gd [] (.bool true) .bool=true by first | rfl | decide | simp[Gd,WShape.arms,WShape.armsAll])
  (show(WTm.eq .res (.lit (.bool true))).value [] {args:=args,res:=some (.bool true),after:=args}=some (.bool (true == true)) from w_eq_bool (w_res rfl) w_lit) rfl
def attach_call{l:OpenLaw}{n:Nat}{q:eX}{c:List Str}{H:(Str->Option au)->iV->Prop}{I:iN->iV->Prop}{d:DefRec}
  (S:l.most=some n) (y:d.params.defaults=[])
  (call:∀(w:iN)(s₀ b:az)(mg x:Str->Option au)(p:av)(o:Obj)(D u h:au)(a:av)(i:List au)(v:List Int),
   Ground q c [] H w s₀ mg x b.heap->I w b.heap ->
   b.heap.get? p=some o->o.data=.func (docDef d.name d.params d.body d.scope D u h)->b.heap.CodeRec u d.name->mg d.name=some (.ref p) ->
   b.heap.get? a=some {cls:=.type "list",data:=.seq i.toArray}->Dm i v->v.length<=n->b.gens = #[] ->
   codeAny (model l.prog w) callerA (.call (.ref p) ⟨[.ref a],[]⟩) (λ r s'=>r=.ok (.ret (.bool true))/\OldK b.heap s'.heap/\s'.os=b.os/\Bo s'.gens) b) :
  WalkO q c H I l.row.toRowW d [] (λ f i=>Es f i):=by
 intro w s₀ b mg x G Y p o D u h T kV ho hd C M A hg N J as j L X B a0;obtain rfl:T=.none:=Dflts.none M y;obtain rfl:kV=.none:=Dflts.noKw M;obtain⟨a,i,v,rfl,rfl,m,g,s⟩:=kHO S j B;refine enter_call (Di (call w s₀ b mg x p o D u h a i v G Y ho (fd_plain hd) C A m g s hg) λ r s' Q=>?_);obtain⟨rfl,Z,O,h4⟩:=Q;exact⟨.inl ⟨.bool true,.bool true,[],rfl,λ _=>rfl,.bool true,kHX l _,λ _=>⟨Bt,λ _ U=>(nomatch U)⟩⟩,Z,O,h4⟩
section
variable {prog:eX} {w:iN} {A:fk} {E:au->az->Prop} {s:az} {K:Frag}
end
end Att
namespace L2
open PySem PySem.Spec PyProof.Rows
theorem nK:∀{b:List au}{a:List Int},Dm b a->Vals (a.map V.int) b
 | _,_,.nil=>.nil
 | _,_,.cons n t h=>.cons ⟨t,rfl⟩ (nK h)
def kTZ(H:Hp):Prop:=∀ b,H b=none\/∃ o a,H b=some (.frz o (.lst a))
def kME{P:eX}{w:iN}{K:be}{mg T:Str->Option au}{CX:CXT}{k:Nat}{S a:av}{fd:ue}{x:Str}{sp:Sp}{c:az}{p:List au}{L:List Int}
  (KX:K.In c.heap) (J:c.heap.Ns gn mg) (g:c.heap.Ns builtinsNs T) (U:∀ x:Str,x≠"__name__"->T x=bootBuiltins x) (y:c.heap.NoLimit) (hg:c.gens = #[])
  (O:c.heap.get? a=some {cls:=.type "list",data:=.seq p.toArray}) (hi:Dm p L) (hl:L.length<=sizeLine) (hr:Room k callerA)
  (F:∀ base:iV,K.In base->base.Ns gn mg->FnOk P w K mg base CX k S fd [x] sp) (l:∀(s:az)(u:au),Dh s fd ⟨[u],[]⟩ [(x,u)])
  (Q:∀ H:Hp,kTZ H->SqL K H a (L.map V.int)->sp [.ref a] H (λ v _=>v=.bl true) λ _ _ _=>False)
  (X:∀ H e s',CX [] H c (λ _ _ _=>False) e s'->False) :
  codeAny (model P w) callerA (.call (.ref S) ⟨[.ref a],[]⟩) (λ r s'=>r=.ok (.ret (.bool true))/\OldK c.heap s'.heap/\s'.os=c.os/\Bo s'.gens) c:=by
 have rv:=nK hi
 have D:=hi.length
 have j:∀ H:Hp,kTZ H->SqL K H a (L.map V.int)->HOk P w H c.heap->(∀ b,H b≠none->b=a)->(H a≠none->K.lookup a=none) ->
   codeAny (model P w) callerA (.call (.ref S) ⟨[.ref a],[]⟩) (λ r s'=>r=.ok (.ret (.bool true))/\OldK c.heap s'.heap/\s'.os=c.os/\Bo s'.gens) c:=by
  intro H hO hS B hA hK;have f:∀{b:av}{o:Obj},c.heap.get? b=some o->H b=none->(sH c.heap H).get? b=some o:=λ e n=>kMR e n
  have Z:∀{b:av}{o:Obj}{C:Array CI}{G:Nat},c.heap.get? b=some o->o.data=.dict C G->H b=none:=λ{b o C G} e d=>by
   cases q:H b with
   | none=>rfl
   | some u =>
    have Y:b=a:=hA b (by rw[q];simp);subst Y;rw[O]at e;cases e;have d':Data.seq p.toArray _=Data.dict C G:=d
    cases d'
  have i:∀{b:av}{m:Str->Option au},c.heap.Ns b m->(sH c.heap H).Ns b m:=λ{b m} ⟨o,C,G,e,d,r⟩=>⟨o,C,G,f e (Z e d),d,r⟩
  have A:K.In (sH c.heap H):=λ b o e=>f (KX b o e) (by
   cases q:H b with
   | none=>rfl
   | some u =>
    have Y:b=a:=hA b (by rw[q];simp);subst Y;rw[hK (by rw[q];simp)]at e;cases e)
  have hM:Mod K mg (sH c.heap H):=⟨A,i J,⟨T,i g,U⟩,let ⟨mc,h1,h2⟩:=y;⟨mc,i h1,h2⟩⟩;have e0:Env0 P w K mg (sH c.heap H) callerA [] c H:=⟨rfl,hM,λ b o e=>kPJ e,GC (kIR _ _),trivial,λ b g=>absurd (show b∈([]:List av) from g) (by simp),B,.of_eq hg⟩;refine Di ((F _ A (i J)).run callerA [] c H ⟨[.ref a],[]⟩ [.ref a] [.ref a] _ _ hr e0 (l c (.ref a)) (.cons rfl .nil) (Q H hO hS)) λ r s' h=>?_
  cases r with
  | error e=>exact(X H e s' h).elim
  | ok fl =>
   cases fl with
   | next=>exact xj h
   | brk=>exact xj h
   | cont=>exact xj h
   | ret u =>
    obtain⟨v,H',os,M,un,I,r',q⟩:=h;have q':v=.bl true:=q;subst q';obtain rfl:u=BO true:=r';refine⟨rfl,OldK.of_keep λ b o e=>?_,os,M⟩
    cases q:H b with
    | none=>exact un.keep b o e q (by intro z;exact absurd (show b∈([]:List av) from z) (by simp)) (by simp)
    | some u =>
     rcases hO b with z | ⟨ob,xs,z⟩
     ·rw[q]at z;cases z
     ·have z2:=un.frzs b ob _ z
      obtain⟨e1,_⟩:=B b _ z;obtain⟨e2,_⟩:=I b _ z2;rw[e]at e1;cases e1;exact e2
 cases hk:K.lookup a with
 | some o =>
  have e:=KX a o hk;rw[O]at e;cases e
  refine j (λ _=>none) (λ _=>.inl rfl) (.inr ⟨_,p.toArray,_,hk,rfl,rfl,rfl,by rw[eY,D];exact hl,by simpa using rv⟩) (λ b u z=>by have N:(none:Option HO)=some u:=z;cases N) (λ b z=>absurd rfl z) λ z=>absurd rfl z
 | none =>
  refine j (λ b=>if b=a then some (.frz {cls:=.type "list",data:=.seq p.toArray} (.lst (L.map V.int))) else none) (λ b=>?_) (.inl (.inr ⟨{cls:=.type "list",data:=.seq p.toArray},if_pos rfl⟩)) (λ b u z=>?_) (λ b z=>?_) λ _=>hk
  ·by_cases g:b=a
   ·exact .inr ⟨_,_,if_pos g⟩
   ·exact .inl (if_neg g)
  ·by_cases g:b=a
   ·have N:=(if_pos g).symm.trans z
    cases N
    subst g;exact⟨O,by rw[aj];exact hl,p,_,rv,O⟩
   ·have N:=(if_neg g).symm.trans z
    cases N
  ·by_cases g:b=a
   ·exact g
   ·exact absurd (if_neg g) z
def walk_of{l:Cj}{n k:Nat}{q:eX}{i:List Str}{S:(Str->Option au)->iV->Prop}{M:iN->iV->Prop}{d:DefRec}{K:Gc->be}{CX:iN->CXT}{sp:iN->Sp}{x:Str}
  (U:l.most=some n) (B:n<=sizeLine) (D:d.params.defaults=[]) (O:Room k callerA)
  (Z:∀(w:iN)(h:iV),M w h->(K w.params).In h)
  (F:∀(w:iN)(mg:Str->Option au)(r:av)(h:iV),(K w.params).In h->h.Ns gn mg->mg d.name=some (.ref r) ->
   ∃ fd:ue,(∀(s:az)(u:au),Dh s fd ⟨[u],[]⟩ [(x,u)]) /\
    ∀ base:iV,(K w.params).In base->base.Ns gn mg->FnOk l.prog w (K w.params) mg base (CX w) k r fd [x] (sp w))
  (A:∀(w:iN)(H:Hp)(a:av)(y:List Int),y.length<=n->kTZ H->SqL (K w.params) H a (y.map V.int)->sp w [.ref a] H (λ v _=>v=.bl true) λ _ _ _=>False)
  (C:∀(w:iN)(H:Hp)(s:az)(e:au)(J:az),CX w [] H s (λ _ _ _=>False) e J->False) :
  Ff q i S M l.row.toRowW d [] (λ f vs=>Es f vs):=by
 refine Att.attach_call U D λ w N p mg mb r o pm cd a1 a vs y G Y ho hd a0 I m j c hg=>?_;have L:=Z w _ Y;obtain⟨fd,X,hF⟩:=F w mg r _ L G.T.g I;exact kME L G.T.g G.T.b G.T.builtins G.T.nolimit hg m j (jt c B) O hF X (λ H hO Q=>A w H a y c hO Q) λ H e J=>C w H p e J
def vM(s:oz):Arguments:=match s with
 | .FunctionDef _ a _ _ _ _ _ _ _ _=>a
 | _=>{posonlyargs:=[],args:=[],vararg:=none,kwonlyargs:=[],kw_defaults:=[],kwarg:=none,defaults:=[]}
def zK(s:oz):List oz:=match s with
 | .FunctionDef _ _ b _ _ _ _ _ _ _=>b
 | _=>[]
def kO(s:oz):wq:=match s with
 | .FunctionDef _ _ _ _ _ _ sc _ _ _=>sc
 | _=>{kind:=.function,names:=[],isGenerator:=false,isCoroutine:=false}
abbrev CX0:CXT:=λ _ _ _ _ _ _=>False
abbrev E0:XK:=λ _ _ _=>False
def kUV{X:Cx}:kEC CX0 X E0:=λ _ _ _ _ _ _ _ h=>h.elim
structure Fun(K:be)(x qual:Str)(st:oz)(f:av)(fd:ue):Prop where
 ex:∃(oc:au)(od:Option av)(kV doc pm:au)(an:Option av)(cdv ct:au)(osl:Array (Option au)),
  fd=vd x qual (vM st) (zK st) (kO st) .none kV doc pm an cdv ct/\K.lookup f=some ⟨oc,od,.func fd,osl⟩/\BU K cdv qual=true
 kp:AL K (.ref f)=true
section
variable {P:eX} {w:iN} {K:be} {mg:Str->Option au} {base:iV}
def Fun.ok{x a:Str}{st:oz}{f:av}{j:ue}{N ps:List Str}{k:Nat}{sp:Sp}(F:Fun K x a st f j)(S:FnScope N ps (kO st))(len:∀ d H Q E,sp d H Q E->d.length=ps.length)
  (c:∀(b:au)(A:fk)(outer:List Env)(s:az)(H:Hp)(d:List V)(Q:VK)(E:XK),Room k (A.deeper (envOfC a (kO st) s.heap.objs.size f b))->sp d H Q E ->
   ∃ t,PSs (qX CX0 P w K mg base N a (kO st) f b A outer s H E).nox (zK st) t/\t {nx:=λ _ H'=>Q .non H',rt:=Q} (start N d) H):FnOk P w K mg base CX0 (k+1) f j ps sp:=by
 obtain⟨p,v,kV,n,y,u,b,r,m,rfl,o,i⟩:=F.ex;refine kVJ o i S len λ A outer s H d Q E l g=>?_;obtain⟨t,h,q⟩:=c b A outer s H d Q E l g;exact⟨t,h.nox,q⟩
def Fun.binds{x a:Str}{st:oz}{f:av}{j:ue}{ps:List Str}(F:Fun K x a st f j)
  (h:∀(kV b i:au)(g:Option av)(c ct:au)(d:List au),d.length=ps.length->bindArgs (vd x a (vM st) (zK st) (kO st) .none kV b i g c ct) ⟨d,[]⟩=pure (ps.zip d)):Binds K j ps []:=by
 obtain⟨n,p,kV,b,i,g,c,ct,l,rfl,o,m⟩:=F.ex;exact .all (h kV b i g c ct)
def kTO{x a:Str}{st:oz}{f:av}{j:au}{m h:Option av}{g:Array (Option au)}{kV d i b ct:au}(l:K.lookup f=some ⟨j,m,.func (vd x a (vM st) (zK st) (kO st) .none kV d i h b ct),g⟩)
  (c:BU K b a=true) (k:AL K (.ref f)=true):Fun K x a st f (vd x a (vM st) (zK st) (kO st) .none kV d i h b ct):=⟨⟨j,m,kV,d,i,h,b,ct,g,rfl,l,c⟩,k⟩
end
def wU{A:fk}{k:Nat}(a:Room k A):A.units+1<cLine:=jj (Nat.add_le_add_left (by decide:1<=64) _) a.units
def kQ{n:Nat}(h:n<=1000):n<sizeLine:=jj h (by decide)
section
variable {X:Cx}
def pv(i:Nat){x:Str}{a:Pos}(f:X.N[i]?=some x:=by rfl)(c:Vis X.env.scope x:=by first | exact ui rfl | exact EM (ui rfl) | exact EM (EM rfl))(d:(x == ("__debug__" : Str))=false:=by decide)
  (b:(x == ("__classdict__" : Str))=false:=by decide):PE X (.Name x a) (kRU i):=kSK f c d b
end
def yC{A B:Prop}(h:B):if false=true then A else B:=by
 rw[if_neg eC];exact h
def wQ{A B:Prop}(h:A):if true=true then A else B:=by
 rw[if_pos rfl];exact h
def kIO{c A B:Prop}[Decidable c](h1:c->A)(a:¬ c->B):if c then A else B:=by
 by_cases h:c
 ·rw[if_pos h]
  exact h1 h
 ·rw[if_neg h]
  exact a h
def Same(H H':Hp):Prop:=∀ b o,H b=some o->H' b=some o
def Same.refl(H:Hp):Same H H:=λ _ _ h=>h
def Same.trans{H d f:Hp}(a:Same H d)(b:Same d f):Same H f:=λ c o h=>b c o (a c o h)
def Same.free{H H':Hp}(e:Same H H'){l:av}(h:H' l=GU):H l=GU:=by
 cases q:H l with
 | none=>rfl
 | some o =>
  rw[e l o q]at h;cases h
end L2
namespace Own
open PySem PySem.Spec PyProof.Rows L2
def Has(P:eX)(w:iN)(K:be)(mg:Str->Option au)(base:iV)(x:Str)(ps:List Str)(k:Nat)(sp:Sp):Prop :=
 ∃(f:av)(a:ue),FnOk P w K mg base CX0 k f a ps sp/\Binds K a ps []/\AL K (.ref f)=true/\mg x=some (.ref f)
section
variable {X:Cx} {k:Nat} {ps:List Str} {sp:Sp} {x:Str} {p pos:Pos} {e:iW} {es:List iW} {t:TA}
def pe_has(h:Has X.prog X.w X.K X.mg X.base x ps k sp)(d:Room k X.A)(j:Gl X x)
  (i:PA X (e::es) t) (a:(x == ("__debug__" : Str))=false:=by decide) (l:starEach (e::es) X.env=(false,eval e X.env)::starEach es X.env:=by rfl) (c:(backTo pos (starEach es X.env)).any (·.1)=false:=by rfl) :
  PE X (.Call (.Name x p) (e::es) [] pos) (kJY sp [] E0 t):=by
 obtain⟨f,n,F,b,g,m⟩:=h;exact kPB F d j m g b .nil kUV i a l c
end
def kVU(i j:Int):Prop:=i.natAbs<2 ^ 9000/\j.natAbs<2 ^ 9000
def kVV(i j:Int):Prop:=j≠0/\j.natAbs<2 ^ 9000
def kGN{i:Int}(h:i.natAbs<2 ^ 9000):Ga i<=2 ^ 20 :=
 jt (intBits_le h) (by decide)
section
variable {X:Cx}
def op_mulW:OpR X (binaryOp .Mult) (rI kVU λ i j=>.int (i*j)):=opI λ _ _ _ _ _ _ _ a q=>mul_int q (IntMulOk.of_bits (kGN a.1) (kGN a.2))
theorem log2_lt{n:Nat}(h:n<2 ^ 9000):n.log2<9000:=by
 by_cases h0:n=0
 ·subst h0;decide
 ·exact(Nat.log2_lt h0).mpr h
def op_fdivW:OpR X (binaryOp .FloorDiv) (rI kVV λ i j=>.int (i.fdiv j)):=opI λ _ _ _ _ _ _ _ a q=>floordiv_int a.1 q (.inl (PyProof.noPylong_of_log2 (log2_lt a.2)))
inductive pI(K:be)(xs:List V)(H:Hp)(Q:VK):Prop
 | mk:∀ x t T b,(xs=[x,.ty T])->(dG K H x t)->(El K t (.type T)=some b)->(Q (.bl b) H)->pI K xs H Q
def call_isi:zD X (.builtin "isinstance") (pI X.K):=by
 intro a s i H g j Q I r h;obtain⟨x,t,T,b,rfl,f,e,q⟩:=h;obtain⟨u,l,rfl,c,d⟩:=kEF r;cases d
 exact kIP I c f e λ tk=>⟨.bl b,H,I.tok _,rfl,q⟩
end
end Own
namespace L2
open PySem
def jK(K:be)(n:Str)(st:oz):Prop:=∃(f:av)(a:ue),ju K gn n=some (some (.ref f))/\Fun K n n st f a
def df_mk{K:be}{n:Str}{st:oz}{f:av}{h:au}{j i:Option av}{d:Array (Option au)}{kV g m b ct:au}(a:ju K gn n=some (some (.ref f)))(l:K.lookup f=some ⟨h,j,.func (vd n n (vM st) (zK st) (kO st) .none kV g m i b ct),d⟩)(c:BU K b n=true)(k:AL K (.ref f)=true):jK K n st:=⟨f,_,a,kTO l c k⟩
def kTJ{P:eX}{w:iN}{K:be}{mg:Str->Option au}{h base:iV}(X:K.In h)(G:h.Ns gn mg){n:Str}{st:oz}{ps:List Str}{l:Nat}{sp:Sp}(d:jK K n st)
  (ok:∀(f:av)(c:ue),Fun K n n st f c->FnOk P w K mg base CX0 l f c ps sp) (b:∀(kV i o:au)(m:Option av)(j ct:au)(g:List au),g.length=ps.length->bindArgs (vd n n (vM st) (zK st) (kO st) .none kV i o m j ct) ⟨g,[]⟩=pure (ps.zip g)):Own.Has P w K mg base n ps l sp:=by
 obtain⟨f,c,a,F⟩:=d;exact⟨f,c,ok f c F,F.binds b,F.kp,Fg X G a⟩
open PySem PySem.Spec PyProof.Rows
section
variable {κ:Type} [DecidableEq κ]
def jS(kvs:List (κ×V))(k:κ):Option V:=(kvs.find? λ a=>decide (a.1=k)).map (·.2)
def xC(kvs:List (κ×V))(k:κ)(v:V):List (κ×V) :=
 if(kvs.any λ a=>decide (a.1=k))=true then kvs.map (λ a=>if a.1=k then(a.1,v) else a) else kvs++[(k,v)]
def jO{p:κ×V}{r:List (κ×V)}{k:κ}(e:p.1=k):jS (p::r) k=some p.2:=by simp[jS,uw,e]
def jP{p:κ×V}{r:List (κ×V)}{k:κ}(e:¬ p.1=k):jS (p::r) k=jS r k:=by simp[jS,uw,e]
theorem vX(k:κ):∀ kvs:List (κ×V),(kvs.any λ kv=>decide (kv.1=k))=(jS kvs k).isSome
 | []=>rfl
 | p::r=>by
  rw[Ao];by_cases e:p.1=k
  ·simp only[jO e,decide_eq_true e,Bool.true_or,Option.isSome_some]
  ·rw[jP e,decide_eq_false e,Bool.false_or];exact vX k r
theorem tM(k j:κ)(y:V):∀ kvs:List (κ×V),jS (kvs.map λ kv=>if kv.1=k then(kv.1,y) else kv) j=(jS kvs j).map λ x=>if j=k then y else x
 | []=>rfl
 | p::r=>by
  have a:=tM k j y r;rw[eZ];by_cases h:p.1=k
  ·rw[if_pos h]
   by_cases e:p.1=j
   ·rw[jO (p:=(p.1,y)) e,jO e,xw,if_pos (e.symm.trans h)]
   ·rw[jP (p:=(p.1,y)) e,jP e,a]
  ·rw[if_neg h]
   by_cases e:p.1=j
   ·rw[jO (p:=p) e,jO e,xw,if_neg (λ z=>h (e.trans z))]
   ·rw[jP (p:=p) e,jP e,a]
theorem nL(k j:κ)(y:V):∀ kvs:List (κ×V),jS kvs k=none->jS (kvs++[(k,y)]) j=if j=k then some y else jS kvs j
 | [],_=>by
  by_cases e:k=j
  ·rw[if_pos e.symm];exact jO (p:=(k,y)) e
  ·rw[if_neg (λ z=>e z.symm)];exact jP (p:=(k,y)) e
 | p::r,hn=>by
  rw[mj];have a:¬ p.1=k:=λ z=>by rw[jO z]at hn;cases hn
  rw[jP a]at hn;have b:=nL k j y r hn;by_cases e:p.1=j
  ·rw[jO e,jO e,if_neg (λ z=>a (e.trans z))]
  ·rw[jP e,jP e,b]
def fY(kvs:List (κ×V))(k j:κ)(y:V):jS (xC kvs k y) j=if j=k then some y else jS kvs j:=by
 unfold xC;by_cases a:(kvs.any λ c=>decide (c.1=k))=true
 ·rw[if_pos a,tM]
  rw[vX]at a;by_cases e:j=k
  ·obtain⟨x,b⟩:=zj.mp a
   rw[if_pos e,e,b,xw,if_pos rfl]
  ·rw[if_neg e]
   cases jS kvs j with
   | none=>rfl
   | some x=>rw[xw,if_neg e]
 ·rw[if_neg a]
  refine nL k j y kvs ?_;rw[vX]at a
  cases q:jS kvs k with
  | none=>rfl
  | some x=>rw[q]at a;exact(a rfl).elim
def xY(kvs:List (κ×V))(k:κ)(v:V):(xC kvs k v).length<=kvs.length+1:=by
 unfold xC
 split
 ·rw[aj];omega
 ·rw[bu,iJ,yo];omega
def kAK{kvs:List (κ×V)}{k:κ}(v:V)(h:jS kvs k=none):xC kvs k v=kvs++[(k,v)]:=by
 unfold xC;rw[vX,h];exact if_neg (by decide)
def RelO.isSome_eq{o:Option V}{u:Option au}(r:RelO o u):o.isSome=u.isSome:=by
 cases o with
 | none=>cases u with
  | none=>rfl
  | some _=>exact(show False from r).elim
 | some _=>cases u with
  | none=>exact(show False from r).elim
  | some _=>rfl
def KV.val{kvs:List (κ×V)}{c:List (κ×au)}(r:KV kvs c)(k:κ):RelO (jS kvs k) (valueAt c k):=by
 unfold KV at r
 induction r with
 | nil=>exact tm
 | @cons p q ps qs h t ih =>
  obtain⟨h1,d⟩:=h;by_cases e:p.1=k
  ·have a:q.1=k:=h1.symm.trans e
   have b:valueAt (q::qs) k=some q.2:=by simp[valueAt,uw,a]
   rw[jO e,b];exact d
  ·have a:¬ q.1=k:=λ z=>e (h1.trans z)
   have b:valueAt (q::qs) k=valueAt qs k:=by simp[valueAt,uw,a]
   rw[jP e,b];exact ih
theorem KV.any{kvs:List (κ×V)}{a:List (κ×au)}(r:KV kvs a)(k:κ):(kvs.any λ kv=>decide (kv.1=k))=a.any λ kv=>decide (kv.1=k):=by
 unfold KV at r
 induction r with
 | nil=>rfl
 | cons h t ih=>rw[Ao,Ao,ih,h.1]
def KV.repl{kvs:List (κ×V)}{a:List (κ×au)}(r:KV kvs a)(k:κ){y:V}{u:au}(b:RelV y u) :
  KV (kvs.map λ kv=>if kv.1=k then(kv.1,y) else kv) (a.map λ kv=>if kv.1=k then(kv.1,u) else kv):=by
 unfold KV at r ⊢
 induction r with
 | nil=>exact .nil
 | @cons p q ps qs h t ih =>
  rw[eZ,eZ];refine .cons ?_ ih;obtain⟨h1,c⟩:=h;by_cases e:p.1=k
  ·rw[if_pos e,if_pos (h1.symm.trans e)];exact⟨h1,b⟩
  ·rw[if_neg e,if_neg (λ z=>e (h1.trans z))];exact⟨h1,c⟩
def KV.put{kvs:List (κ×V)}{a:List (κ×au)}(r:KV kvs a)(k:κ){y:V}{u:au}(b:RelV y u):KV (xC kvs k y) (stored a k u):=by
 unfold xC stored;rw[r.any k];by_cases e:(a.any λ c=>decide (c.1=k))=true
 ·rw[if_pos e,if_pos e];exact r.repl k b
 ·rw[if_neg e,if_neg e];exact GV r ⟨rfl,b⟩
theorem KV.length{kvs:List (κ×V)}{a:List (κ×au)}(r:KV kvs a):kvs.length=a.length:=wd r
end
def kBC{P:eX}{w:iN}{k:Key}{u:au}(r:RelV (kV k) u):(qH P w).is k u=true:=by
 cases k with
 | inl i=>obtain⟨t,e⟩:=(show ∃ t,u=ur i t from r);subst e;exact kAY P w i t
 | inr x=>obtain⟨t,e⟩:=(show ∃ t,u=EG x t from r);subst e;exact kAX P w x t
theorem oU{P:eX}{w:iN}:∀{a:List Key}{b:List au},Vals (a.map kV) b->ItemsAre (qH P w) a b
 | [],_,r=>by rw[Do]at r;cases r;exact .nil
 | k::a,_,r=>by
  rw[eZ]at r
  cases r with
  | cons h t=>exact .cons (kBC h) (oU t)
abbrev KT(H:Hp):List (List Key×V)->List (List Key×av×au)->Prop:=Eg λ p q=>p.1=q.1/\H q.2.1=some (.tup (p.1.map kV))/\RelV p.2 q.2.2
def KT.val{H:Hp}{kvs:List (List Key×V)}{xs:List (List Key×av×au)}(r:KT H kvs xs)(k:List Key):RelO (jS kvs k) ((atKey xs k).map (·.2)):=by
 induction r with
 | nil=>exact tm
 | @cons p q ps qs h t ih =>
  obtain⟨h1,_,c⟩:=h;by_cases e:p.1=k
  ·have a:q.1=k:=h1.symm.trans e
   have b:atKey (q::qs) k=some q.2:=by simp[atKey,uw,a]
   rw[jO e,b];exact c
  ·have a:¬ q.1=k:=λ z=>e (h1.trans z)
   have b:atKey (q::qs) k=atKey qs k:=by simp[atKey,uw,a]
   rw[jP e,b];exact ih
def KT.repl{H:Hp}{kvs:List (List Key×V)}{xs:List (List Key×av×au)}(r:KT H kvs xs)(k:List Key){y:V}{u:au}(b:RelV y u) :
  KT H (kvs.map λ kv=>if kv.1=k then(kv.1,y) else kv) (xs.map (putAt k u)):=by
 induction r with
 | nil=>exact .nil
 | @cons p q ps qs h t ih =>
  rw[eZ,eZ];refine .cons ?_ ih;obtain⟨h1,a,c⟩:=h;unfold putAt;by_cases e:p.1=k
  ·rw[if_pos e,if_pos (h1.symm.trans e)];exact⟨h1,a,b⟩
  ·rw[if_neg e,if_neg (λ z=>e (h1.trans z))];exact⟨h1,a,c⟩
def KT.put{H:Hp}{kvs:List (List Key×V)}{xs:List (List Key×av×au)}(r:KT H kvs xs)(k:List Key){b:av}{y:V}{u:au}(c:H b=some (.tup (k.map kV)))(a:RelV y u) :
  KT H (xC kvs k y) (storedH xs k b u):=by
 have e:(kvs.any λ d=>decide (d.1=k))=(atKey xs k).isSome:=by
  rw[vX,(r.val k).isSome_eq,Dq]
 unfold xC storedH;rw[e];by_cases q:(atKey xs k).isSome=true
 ·rw[if_pos q,if_pos q];exact r.repl k a
 ·rw[if_neg q,if_neg q];exact GV r ⟨rfl,c,a⟩
def KT.keeps{H H':Hp}{kvs:List (List Key×V)}{xs:List (List Key×av×au)}(r:KT H kvs xs)(a:∀ b ys,H b=some (.tup ys)->H' b=some (.tup ys)):KT H' kvs xs :=
 Paired.mapP r λ _ _ z=>⟨z.1,a _ _ z.2.1,z.2.2⟩
section
variable {P:eX} {w:iN} {H:Hp} {h:iV} {a:av}
def kQX{u:HO}(ok:HOk P w H h)(e:Rd H a u):ObjOk P w H h a u:=e.ok ok
def kGG{kvs:List (Key×V)}(ok:HOk P w H h)(e:Rd H a (.dK kvs)):kvs.length<=sizeLine/\(a == sysModules)=false/\∃ vs,KV kvs vs/\h.DictOf (qH P w) a vs :=
 show ObjOk P w H h a (.dK kvs) from kQX ok e
def kNG{kvs:List (Key×V)}(ok:HOk P w H h)(e:H a=some (.dK kvs)):kvs.length<=sizeLine/\(a == sysModules)=false/\∃ vs,KV kvs vs/\h.DictOf (qH P w) a vs:=kGG ok (.inl e)
def mD{b:List Key}(ok:HOk P w H h)(e:H a=some (.tup (b.map kV))):(tupleKind (qH P w)).is h b a:=by
 obtain⟨_,c,r,o,h1,f,n,d,_⟩:=(show ObjOk P w H h a (.tup (b.map kV)) from ok a _ e);exact⟨o,c.toArray,n,h1,f,d,by simpa using oU r⟩
def kGD{kvs:List (List Key×V)}(ok:HOk P w H h)(e:Rd H a (.dT kvs)):kvs.length<=sizeLine/\(a == sysModules)=false /\
  ∃ xs,KT H kvs xs/\h.DictOfH (tupleKind (qH P w)) a xs:=by
 obtain⟨z,y,xs,r,o,i,j,h1,g,f,c,d⟩:=(show ObjOk P w H h a (.dT kvs) from kQX ok e);refine⟨z,y,xs,r,o,i,j,h1,g,f,c,λ x b=>?_,d⟩
 have all:∀{l:List (List Key×V)}{m:List (List Key×av×au)},KT H l m->∀ x∈m,(tupleKind (qH P w)).is h x.1 x.2.1:=by
  intro l m q
  induction q with
  | nil=>intro x b;exact nomatch b
  | @cons p q ps qs hq t ih =>
   intro x b;rcases eA.mp b with e | b
   ·subst e
    exact mD ok (by rw[<-hq.1];exact hq.2.1)
   ·exact ih x b
 exact all r x b
def kGE{kvs:List (List Key×V)}(ok:HOk P w H h)(e:H a=some (.dT kvs)):kvs.length<=sizeLine/\(a == sysModules)=false /\
  ∃ xs,KT H kvs xs/\h.DictOfH (tupleKind (qH P w)) a xs:=kGD ok (.inl e)
end
def DGet(H:Hp)(a:av)(y:V)(r:Option V):Prop :=
 (∃ c k,Rd H a (.dK c)/\y=kV k/\r=jS c k)\/∃ c k b,Rd H a (.dT c)/\y=.ref b/\H b=some (.tup (k.map kV))/\r=jS c k
def DPut(H:Hp)(a:av)(y v:V)(H':Hp):Prop :=
 (∃ c k,H a=some (.dK c)/\y=kV k/\c.length<sizeLine/\H'=upd H a (.dK (xC c k v))) \/
 ∃ c k b,H a=some (.dT c)/\y=.ref b/\H b=some (.tup (k.map kV))/\c.length<sizeLine/\H'=upd H a (.dT (xC c k v))
theorem DGet.k{H:Hp}{a:av}{kvs:List (Key×V)}{k:Key}(e:H a=some (.dK kvs)):DGet H a (kV k) (jS kvs k):=.inl ⟨kvs,k,.inl e,rfl,rfl⟩
def DGet.t{H:Hp}{a b:av}{kvs:List (List Key×V)}{k:List Key}(e:H a=some (.dT kvs))(c:H b=some (.tup (k.map kV))):DGet H a (.ref b) (jS kvs k):=.inr ⟨kvs,k,b,.inl e,rfl,c,rfl⟩
theorem DPut.k{H:Hp}{a:av}{kvs:List (Key×V)}{k:Key}{v:V}(e:H a=some (.dK kvs))(b:kvs.length<sizeLine):DPut H a (kV k) v (upd H a (.dK (xC kvs k v))):=.inl ⟨kvs,k,e,rfl,b,rfl⟩
def DPut.t{H:Hp}{a b:av}{kvs:List (List Key×V)}{k:List Key}{v:V}(e:H a=some (.dT kvs))(c:H b=some (.tup (k.map kV)))(d:kvs.length<sizeLine) :
  DPut H a (.ref b) v (upd H a (.dT (xC kvs k v))):=.inr ⟨kvs,k,b,e,rfl,c,d,rfl⟩
section
variable {X:Cx} {pins:List (av×Obj)} {σ:St} {H:Hp} {s:az} {a:av} {y v:V} {u r:au} {o:Option V} {A:fk} {E:au->az->Prop}
def Inv.big(I:Inv X pins σ H s):sysModules<s.heap.objs.size:=by
 have h:gn<s.heap.objs.size:=(I.mod.glob.keeps I.bk).lt;exact Nat.lt_trans (by decide) h
def kIZ{Q:au->az->Prop}(B:A.units+1<cLine)(I:Inv X pins σ H s)(g:DGet H a y (some v))(q:RelV y u)(h:∀ w' s',Inv X pins σ H s'->RelV v w'->Q w' s') :
  dj (model X.prog X.w) A (getItem (.ref a) u) Q E s:=by
 rcases g with⟨m,k,e,i,l⟩ | ⟨m,k,b,e,i,C,l⟩
 ·subst i
  obtain⟨z,x,D,d,f⟩:=kGG I.hok e;obtain⟨w',n,c⟩:=RelO.some_of (v:=v) (o:=valueAt D k) (by rw[l];exact d.val k);exact wpAny_getItem_of (kBC q) f.mapOf n (h w' _ (I.tok _) c)
 ·subst i
  cases(show u=jx b from q)
  obtain⟨z,x,r,d,f⟩:=kGD I.hok e;obtain⟨w',n,c⟩:=RelO.some_of (v:=v) (o:=(atKey r k).map (·.2)) (by rw[l];exact d.val k);obtain⟨p,hp,j⟩:=bp.mp n;refine wpAny_getItem_heap (AE B) (mD I.hok C) f hp ?_;rw[j];exact h w' _ (I.tok _) c
def kQK{Q:au->az->Prop}(n:A.units+1<cLine)(I:Inv X pins σ H s)(g:DGet H a y o)(m:RelV y u)(h:∀ s',Inv X pins σ H s'->Q (.bool (!o.isSome)) s') :
  dj (model X.prog X.w) A (compareOp .NotIn u (.ref a)) Q E s:=by
 rcases g with⟨i,k,e,f,l⟩ | ⟨i,k,b,e,f,p,l⟩
 ·subst f
  obtain⟨z,j,v,c,d⟩:=kGG I.hok e;refine wpAny_notIn_of (kBC m) j d.mapOf ?_;rw[<-(c.val k).isSome_eq,<-l];exact h _ (I.tok _)
 ·subst f
  cases(show u=jx b from m)
  obtain⟨z,j,r,c,d⟩:=kGD I.hok e;refine wpAny_notIn_heap (AE n) (mD I.hok p) j d ?_;have q:=(c.val k).isSome_eq;rw[Dq]at q;rw[<-q,<-l];exact h _ (I.tok _)
def uU{h':iV}{t':Nat}{ob:HO}(I:Inv X pins σ H s)(c:Mut (H a))(g:iz a s.heap h')(d:∃ q,h'.get? a=some q)(new:ObjOk X.prog X.w (upd H a ob) h' a ob) :
  Inv X pins σ (upd H a ob) {s with heap:=h',toks:=t'} :=
 I.write (x:=a) (e:=a) c (.inl rfl) (λ b q f z=>(g.2 b f).trans z) d new
def kNH{P:eX}{w:iN}{H':Hp}{h':iV}{kvs:List (Key×V)}{b:List (Key×au)}(z:kvs.length<=sizeLine)(f:(a == sysModules)=false)(c:KV kvs b)(d:h'.DictOf (qH P w) a b) :
  ObjOk P w H' h' a (.dK kvs):=⟨z,f,b,c,d⟩
def kIY{H':Hp}{Q:Unit->az->Prop}(hu:A.units+1<cLine)(I:Inv X pins σ H s)(g:DPut H a y v H')(L:RelV y u)(G:RelV v r)(h:∀ s',Inv X pins σ H' s'->Q () s') :
  dj (model X.prog X.w) A (setItem (.ref a) u r) Q E s:=by
 rcases g with⟨d,k,e,m,l,B⟩ | ⟨d,k,b,e,m,M,l,B⟩
 ·subst m B
  obtain⟨z,C,vs,f,p⟩:=kNG I.hok e;have x:vs.length<=sizeLine:=by rw[<-f.length];exact z
  have n:(xC d k v).length<=sizeLine:=by have:=xY d k v;omega
  refine wpAny_setItem_pairs (hsz:=x) (kBC L) p λ D i o=>h _ ?_;have he:∃ q,D.get? a=some q:=let ⟨q,_,_,j,_⟩:=i;⟨q,j⟩;exact uU I (by rw[e];exact tm) o he (kNH n C (f.put k G) i)
 ·subst m B
  cases(show u=jx b from L)
  obtain⟨z,C,O,f,p⟩:=kGE I.hok e;have x:O.length<=sizeLine:=by rw[<-wd f];exact z
  have n:(xC d k v).length<=sizeLine:=by have:=xY d k v;omega
  refine wpAny_setItem_heap (hsz:=x) (AE hu) (mD I.hok M) p λ D i o=>h _ ?_;obtain⟨q,S,U,j,T,N,Y,_,Z⟩:=i;refine uU I (by rw[e];exact tm) o ⟨q,j⟩ ⟨n,C,_,(f.put k M G).keeps λ c ys J=>?_,q,S,U,j,T,N,Y,Z⟩;rw[kL (wP J e (λ z=>nomatch z))];exact J
end
section
variable {X:Cx} {pins:List (av×Obj)} {σ:St} {H:Hp} {s:az} {a:av} {kvs:List (Key×V)} {k:Key} {u:au} {A:fk} {E:au->az->Prop}
end
def kVS(i:iW):Prop:=∀ b a,subscripted i false b a=operate [b,a] (getItem b a)
def kOC{prog:eX}{w:iN}{A:fk}{E:au->az->Prop}{s:az}{env:Env}{value a:iW}{j:Pos}{T id:String}{Q:au->az->Prop}
  (m:typeLookup (.type T) "__getitem__" = pure (some (.builtin id))) (n:kVS a)
  (h:dj (model prog w) A (eval value env) (λ o s₁=>dj (model prog w) A (eval a env) (λ i s₂=>s₂.TypeIs o T/\dj (model prog w) A (getItem o i) Q E s₂) E s₁) E s) :
  dj (model prog w) A (eval (.Subscript value a j) env) Q E s:=by
 refine DW (we h (λ o s₁ g=>we g (λ i s₂ b=>?_) λ _ _ x=>x) λ _ _ x=>x);obtain⟨l,b⟩:=b;unfold subscriptTail;refine ai ?_;rw[getitemInPython_of_ne l.not_modules];refine ai (Ck l m ?_)
 have d:dj (model prog w) A (subscripted a false o i) (λ r c=>dj (model prog w) A (letTemporaryGo value o r >>= λ _=>pure r) Q E c) E s₂:=by
  rw[n o i];exact wpAny_operating (we b (λ r c f=>ai (wpAny_letTemporaryGo (bg f))) λ _ _ x=>x)
 first
  | exact bg (ai d)
  | exact ai (bg (ai d))
  | exact ai d
def kBR{X:Cx}{c:List (av×Obj)}{h:St}{H:Hp}{s:az}{a:av}{y:V}{o:Option V}(I:Inv X c h H s)(g:DGet H a y o):s.TypeIs (.ref a) "dict":=by
 rcases g with⟨f,k,e,_,_⟩ | ⟨f,k,b,e,_,_,_⟩
 ·obtain⟨_,_,j,_,d⟩:=kGG I.hok e
  exact d.typeIs
 ·obtain⟨_,_,i,_,d⟩:=kGD I.hok e
  exact d.typeIs
inductive kJX(Q:VK)(x:V)(y:V)(H2:Hp):Prop
 | mk:∀ a v,(x=.ref a)->(DGet H2 a y (some v))->(Q v H2)->kJX Q x y H2
def kUI(b f:TE):TE:=λ a H Q=>b a H λ x c=>f a c λ y d=>kJX Q x y d
inductive tO(Q:VK)(y:V)(x:V)(H2:Hp):Prop
 | mk:∀ a o,(x=.ref a)->(DGet H2 a y o)->(Q (.bl (!o.isSome)) H2)->tO Q y x H2
def kOB(f b:TE):TE:=λ a H Q=>f a H λ y c=>b a c λ x d=>tO Q y x d
inductive kKV(D:Ends)(σ:St)(v:V)(x:V)(y:V)(H3:Hp):Prop
 | mk:∀ a H4,(x=.ref a)->(DPut H3 a y v H4)->(D.nx σ H4)->kKV D σ v x y H3
def kUN(d h b:TE):TS:=λ D a H=>b a H λ v c=>d a c λ x g=>h a g λ y f=>kKV D a v x y f
section
variable {X:Cx} {o i e value:iW} {pos pos' tpos:Pos} {td ty tv:TE}
def bE(G:X.A.units+1<cLine)(L:PE X o td)(hi:PE X i ty)(r:kVS i):PE X (.Subscript o i pos) (kUI td ty):=by
 intro b s d H Q I h;refine kOC PySem.F.slot_dict_getitem.lookup r (thn (L b s d H _ I h) λ u D ⟨x,m,q,B,p⟩=>thn (hi b D d m _ q p) λ N O ⟨y,C,f,J,a,v,l,g,n⟩=>?_);subst l;obtain rfl:u=jx a:=B;exact⟨kBR f g,kIZ G f g J λ S M j c=>⟨v,C,j,c,n⟩⟩
def kIA(B:X.A.units+1<cLine)(hi:PE X i ty)(G:PE X o td):PC X .NotIn i o (kOB ty td):=by
 intro b s c H Q I h;refine thn (hi b s c H _ I h) λ L v ⟨y,j,p,D,n⟩=>thn (G b v c j _ p n) λ u M ⟨x,r,C,q,a,m,f,g,l⟩=>?_;subst f;obtain rfl:u=jx a:=q;exact kQK B C g D λ J d=>⟨.bl (!m.isSome),r,d,rfl,l⟩
def kFI(Q:X.A.units+1<cLine)(U:PE X o td)(hi:PE X i ty)(O:PE X value tv)(J:swapsWith value (some (.Subscript o i pos')) pos.line X.env=pure false) :
  PS X (.Assign [.Subscript o i pos'] value pos) (kUN td ty tv):=by
 intro b s c H D I h;refine wpAny_Assign_Subscript (thn (O b s c H _ I h) λ r N ⟨v,j,C,q,B⟩=>thn (U b N c j _ C B) λ u G ⟨x,M,S,L,l⟩=>thn (hi b G c M _ S l) λ Z Y ⟨y,H3,d,T,a,m,f,g,p⟩=>?_) J;subst f;obtain rfl:u=jx a:=L;exact kIY Q d g T q λ s4 n=>⟨c,m,n,p⟩
end
def kNF{P:eX}{w:iN}{H:Hp}(h:iV)(a:sysModules<h.objs.size):ObjOk P w H (h.push {cls:=.type "dict",data:=.dict #[]}) h.objs.size (.dT []) :=
 ⟨iH _,beq_eq_false_iff_ne.mpr (ub (dw a)),[],.nil,_,#[],0,ck _ rfl,⟨rfl,rfl,rfl⟩,rfl,rfl,yx⟩
def kRW:TE:=λ _ H Q=>∀ p,H p=none->Q (.ref p) (upd H p (.dT []))
section
variable {X:Cx} {pos:Pos}
def kLN:PE X (.Dict [] [] pos) kRW:=λ b s c H Q I h =>
 wpAny_Dict_empty ⟨.ref s.heap.objs.size,_,I.laid (a:=s.heap.objs.size) (o:=.dT []) (t':=s.toks) (λ _ _ q=>ar _ q) (bf _) (kNF s.heap I.big),rfl,h _ (I.hok.fresh (bf _))⟩
end
section
variable {X:Cx} {pins:List (av×Obj)} {σ:St} {H:Hp} {s:az} {a:av} {y d:V} {u r:au} {o:Option V} {A:fk} {E:au->az->Prop}
end
section
variable {X:Cx} {o e f:iW} {apos cpos:Pos} {td ty tx:TE}
end
section
variable {X:Cx} {pins:List (av×Obj)} {σ:St} {H:Hp} {s:az} {a:av} {kvs:List (Key×V)} {A:fk} {E:au->az->Prop}
end
section
variable {X:Cx} {pins:List (av×Obj)} {σ:St} {H:Hp} {s:az} {a:av} {y:V} {u:au} {A:fk} {E:au->az->Prop}
end
section
variable {κ:Type} [DecidableEq κ]
end
end L2
set_option maxHeartbeats 4000000
namespace L2
open PySem PySem.Spec PyProof.Rows
abbrev TB:=(St->Hp->Prop)->St->Hp->Prop
def PBd(X:Cx)(code:Sem Unit)(b:TB):Prop :=
 ∀(pins:List (av×Obj))(s:az)(σ:St)(H:Hp)(N:St->Hp->Prop),Inv X pins σ H s->b N σ H ->
  dj (model X.prog X.w) X.A code (λ _ d=>∃ a c,Inv X pins a c d/\N a c) X.xe s
def PTl(X:Cx)(tail:Sem ux)(L:Gk)(b:TB):Prop :=
 ∀(pins:List (av×Obj))(s:az)(σ:St)(H:Hp)(N:St->Hp->Prop),Inv X pins σ H s->b N σ H ->
  dj (model X.prog X.w) X.A tail (λ c f=>c=.again L/\∃ a d,Inv X pins a d f/\N a d) X.xe s
def yE(b:List iW)(env:Env)(a:Sem Unit)(L:Gk):Sem ux :=
 (forIn b true λ c r=>if r=true then do let ok <-isTrue c env (eval c env);pure (je ok) else pure (je r)) >>= λ ok=>if ok=true then a >>= λ _=>again L else again L
def zT(J:It)(g:TG)(b:TB)(l:St->Hp->Prop)(a:St)(H:Hp):Prop :=
 ∃ W:Nat->Nat->St->Hp->Prop,(∃ m,W 0 m a H)/\∀ i m a H,W i m a H ->
  (J.stop i H/\l a H)\/(J.go i H/\∃ N:St->Hp->Prop,(∀ d c,N d c->∃ h,h<m/\W (i+1) h d c)/\∀ x c,J.yld i H x c->g x a c λ f j=>b N f j)
section
variable {X:Cx} {e tg:iW} {gens:List DO} {sc:wq} {cpos:Pos} {d:Nat} {it:av} {acc:au} {tail:Sem ux} {p:Pos} {g:TG} {b:TB} {J:It} {fp:List av} {tn:Nat->iV->Prop} {N0:St->Hp->Prop} {R:Result->az->Prop}
def yQ(he:(∃ el,e=.ListComp el gens sc cpos)\/∃ k v,e=.DictComp k v gens sc cpos)(hx:X.xe=λ _ _=>False)(hc:X.calm=true)
  (ht:compTurn e d (.ref it) acc X.env=(standAt p >>= λ _=>pyNext (.ref it) >>= λ r=>match r with
   | none=>pure (.done .next)
   | some v=>letOwnedTupleGo tg (.ref it) v >>= λ _=>assign tg X.env v >>= λ _=>tail))
  (T:Turn X.prog X.w X.K tg J fp it tn) (hg:PG X tg g) (f:PTl X tail (.compLoop e d (.ref it) acc X.env) b) {a:List (av×Obj)} {U:St} {H:Hp} {s:az}
  (I:Inv X a U H s) (st:tn 0 s.heap) (f2:∀ b∈fp,zG X a H b) (hw:zT J g b N0 U H)
  (hR:∀ σ' H' s',Inv X a σ' H' s'->N0 σ' H'->R (.ok .next) s') :
  codeAny (model X.prog X.w) X.A (.compLoop e d (.ref it) acc X.env) R s:=by
 obtain⟨W,⟨m0,w0⟩,turn⟩:=hw;have c:∀{H':Hp},(∀ b∈fp,H' b=none)->∀ b∈fp,zG X a H' b:=λ hn b f=>⟨hn b f,(f2 b f).2⟩;refine codeAny_loop rfl (λ n s'=>∃ i σ' H',Inv X a σ' H' s'/\tn i s'.heap/\(∀ b∈fp,H' b=none)/\W i n σ' H') ?_ m0 ⟨0,U,H,I,st,λ b f=>(f2 b f).1,w0⟩;rintro n M ⟨i,j,Y,I3,y,C,w3⟩
 have l:(model X.prog X.w).den (.compLoop e d (.ref it) acc X.env)=((compTurn e d (.ref it) acc X.env).onRaise (λ x=>do noteFrame x X.env;theTreesLotGoes x))/\X.A.under (.compLoop e d (.ref it) acc X.env)=X.A:=by
  rcases he with⟨el,rfl⟩ | ⟨k,v,rfl⟩<;>exact⟨rfl,rfl⟩
 rw[l.1,l.2];show dj _ _ ((compTurn e d (.ref it) acc X.env).onRaise (λ x=>do noteFrame x X.env;theTreesLotGoes x)) _ _ M;refine wpAny_noted ?_;rw[ht]
 have B:∀{α:Type}{t:Sem α}{Q:α->az->Prop}{E:au->az->Prop}{s:az},dj (model X.prog X.w) X.A t Q X.xe s->dj (model X.prog X.w) X.A t Q E s :=
  λ h=>we h (λ _ _ q=>q) λ _ _ q=>by rw[hx]at q;exact q.elim
 refine ai (ya (ai ?_));rcases turn i n j Y w3 with⟨stop,qn⟩ | ⟨go,N,hN,step⟩
 ·refine B (thn (T.done X rfl rfl rfl hc i a M j Y X.xe I3 (c C) y stop) λ r s4 ⟨G,I4⟩=>?_)
  subst G;exact bg (hR _ _ _ I4 qn)
 ·refine B (thn (T.item X rfl rfl rfl hc i a M j Y X.xe I3 (c C) y go) λ r s4 ⟨u,G,h4⟩=>?_)
  subst G;refine ai (B (thn h4 λ _ s5 ⟨x,H5,I5,r5,y5,m,L⟩=>?_));have S:=I5.pinned (c L) (T.obj _ _ m);refine ai (B (thn (hg _ s5 j H5 x u _ S r5 (step x H5 y5)) λ _ s6 ⟨O,H6,I6,q6⟩=>?_));refine B (thn (f _ s6 O H6 _ I6 q6) λ a0 s7 ⟨hf,D,H7,Z,n7⟩=>?_);subst hf;obtain⟨m',hm,w7⟩:=hN D H7 n7;refine⟨rfl,m',hm,i+1,D,H7,Z.unpinned,T.keep _ _ _ m λ b f o e=>(Z.pin (b,o) (dc _ (dc _ (vI f e)))).1,λ b f=>?_,w7⟩;obtain⟨o,e,d⟩:=T.obj _ _ m b f;exact(Z.pin (b,o) (dc _ (dc _ (vI f e)))).2.1
end
def bIf(t:TT)(b:TB):TB:=λ N a H=>t a H λ c d=>if c=true then b N a d else N a d
def qF{X:Cx}{a:Sem Unit}{L:Gk}{b:TB}(f:PBd X a b):PTl X (yE [] X.env a L) L b:=by
 intro c s d H N I h;unfold yE;refine ai (EY ?_);show dj _ _ (a >>= λ _=>again L) _ _ s;exact ai (thn (f c s d H N I h) λ _ g q=>bg ⟨rfl,q⟩)
def zQ{X:Cx}{c:iW}{t:TT}{a:Sem Unit}{L:Gk}{b:TB}(j:PT X c t)(l:PBd X a b):PTl X (yE [c] X.env a L) L (bIf t b):=by
 intro d s f H N I h;unfold yE;refine ai (wpAny_tests_one (thn (j d s f H _ I h) λ ok m ⟨g,i,q⟩=>?_))
 cases ok with
 | true=>exact ai (thn (l d m f g N i (by simpa using q)) λ _ n q=>bg ⟨rfl,q⟩)
 | false=>exact bg ⟨rfl,f,g,i,by simpa using q⟩
def kTX(D:av)(d:TE):TB:=λ N c H=>d c H λ x b=>∃ a,b D=some (.lst a)/\a.length<sizeLine/\N c (upd b D (.lst (a++[x])))
def qV{X:Cx}{d:iW}{f:TE}{D:av}(v:PE X d f):PBd X (do let _ <-call (.builtin "list.append") [.ref D,<-eval d X.env]) (kTX D f):=by
 intro a s b H N I h;refine ai (thn (v a s b H _ I h) λ u o ⟨x,g,l,r,j,n,m,q⟩=>?_);refine ai (thn (xG a o b g (.ref D) [x] (.ref D) [u] (λ _ c=>N b c) l rfl (.cons r .nil) ⟨D,j,x,rfl,rfl,n,m,q⟩) λ _ y ⟨_,c,p,_,i⟩=>?_);exact bg ⟨b,c,p,i⟩
def kEG(f d iter:iW)(b:List iW)(g:wq)(a:Pos)(it c:au)(env:Env) :
  compTurn (.ListComp f [⟨d,iter,b,0⟩] g a) 0 it c env=(standAt iter.pos >>= λ _=>pyNext it >>= λ r=>match r with
   | none=>pure (.done .next)
   | some v=>letOwnedTupleGo d it v >>= λ _=>assign d env v >>= λ _=>yE b env (do let _ <-call (.builtin "list.append") [c,<-eval f env]) (.compLoop (.ListComp f [⟨d,iter,b,0⟩] g a) 0 it c env)):=by rfl
def kJR(b:List iW)(env:Env)(a:iW)(next:au->Gk)(L:Gk):Sem ux :=
 (forIn b true λ c r=>if r=true then do let ok <-isTrue c env (eval c env);pure (je ok) else pure (je r)) >>= λ ok=>if ok=true then
  (eval a env >>= λ x=>standAt a.pos >>= λ _=>foldedSetIterable a env x >>= λ x=>holding [x] (pyIter x) >>= λ i=>runOwn (next i) env >>= λ _=>again L) else again L
def kJN(j h iter g a:iW)(d b:List iW)(l:wq)(c:Pos)(it f:au)(env:Env) :
  compTurn (.ListComp j [⟨h,iter,d,0⟩,⟨g,a,b,0⟩] l c) 0 it f env=(standAt iter.pos >>= λ _=>pyNext it >>= λ r=>match r with
   | none=>pure (.done .next)
   | some v=>letOwnedTupleGo h it v >>= λ _=>assign h env v >>= λ _=>kJR d env a (λ i=>.compStart (.ListComp j [⟨h,iter,d,0⟩,⟨g,a,b,0⟩] l c) 1 i f env) (.compLoop (.ListComp j [⟨h,iter,d,0⟩,⟨g,a,b,0⟩] l c) 0 it f env)):=by rfl
def kJM(h i iter c a:iW)(g b:List iW)(j:wq)(d:Pos)(it f:au)(env:Env) :
  compTurn (.ListComp h [⟨i,iter,g,0⟩,⟨c,a,b,0⟩] j d) 1 it f env=(standAt a.pos >>= λ _=>pyNext it >>= λ r=>match r with
   | none=>pure (.done .next)
   | some v=>letOwnedTupleGo c it v >>= λ _=>assign c env v >>= λ _=>yE b env (do let _ <-call (.builtin "list.append") [f,<-eval h env]) (.compLoop (.ListComp h [⟨i,iter,g,0⟩,⟨c,a,b,0⟩] j d) 1 it f env)):=by rfl
def vN(env:Env)(a:List (Str×av))(y:Str×uf):List (Str×av) :=
 if(y.2 == .free)=true then(match env.cells.lookup y.1 with | some c=>(y.1,c)::a | none=>a) else a
def uW(a:wq)(env:Env):List (Str×av):=a.names.foldl (vN env) []
def sR(env:Env)(x:Str×uf)(r:List (Str×av)):Sem (ForInStep (List (Str×av))) :=
 match x with | (name,kind)=>if(kind == .free)=true then(do let a <-cellOf env name;pure (je ((name,a)::r))) else pure (je r)
def kJB{env:Env}{y:Str×uf}{b:List (Str×av)}(h:y.2=.free->∃ c,env.cells.lookup y.1=some c):sR env y b=pure (je (vN env b y)):=by
 obtain⟨n,k⟩:=y;unfold sR vN
 cases hk:k == Bx with
 | false=>simp[hk]
 | true =>
  obtain⟨c,d⟩:=h (by simpa using hk);have a:List.lookup n env.cells=some c:=d;simp only[hk,if_true,cellOf,a,pure_bind]
theorem mP{env:Env}:∀(l:List (Str×uf))(a:List (Str×av)),(∀ y∈l,y.2=.free->∃ c,env.cells.lookup y.1=some c) ->
  (forIn l a (sR env):Sem (List (Str×av)))=pure (l.foldl (vN env) a)
 | [],a,_=>rfl
 | y::r,a,h=>by
  rw[zy,kJB (h y eP),pure_bind,wg];exact mP r _ λ y b=>h y (du _ b)
def yR{a:wq}{env:Env}(h:∀ y∈a.names,y.2=.free->∃ c,env.cells.lookup y.1=some c):closureFor a env=pure (uW a env):=by
 have q:=mP (env:=env) a.names [] h;have z:closureFor a env=(forIn a.names [] (sR env) >>= λ r=>pure r):=rfl;rw[z,q]
 rfl
theorem cC{env:Env}{x:Str}{c:av}:∀(l:List (Str×uf))(a:List (Str×av)),(a.lookup x=some c->env.cells.lookup x=some c)->(l.foldl (vN env) a).lookup x=some c->env.cells.lookup x=some c
 | [],a,h,e=>h e
 | (n,k)::r,a,h,e=>by
  rw[wg]at e;refine cC r _ (λ z=>?_) e;unfold vN at z
  split at z
  ·split at z
   ·rename_i c' hc
    rw[Ag]at z
    split at z
    ·rename_i hx
     have:x=n:=by simpa using hx
     subst this;cases z
     exact hc
    ·exact h z
   ·exact h z
  ·exact h z
theorem kDU{env:Env}{x:Str}:∀(l:List (Str×uf))(a:List (Str×av)),(∃ c,env.cells.lookup x=some c)->((∃ c,a.lookup x=some c)\/(x,Bx)∈l)->∃ c,(l.foldl (vN env) a).lookup x=some c
 | [],a,_,h=>h.elim id (λ z=>nomatch z)
 | (n,k)::r,a,he,h=>by
  rw[wg];refine kDU r _ he ?_;rcases h with⟨c,h⟩ | h
  ·left
   unfold vN
   split
   ·split
    ·rename_i c' b
     rw[Ag]
     split
     ·exact⟨_,rfl⟩
     ·exact⟨c,h⟩
    ·exact⟨c,h⟩
   ·exact⟨c,h⟩
  ·rcases eA.mp h with z | z
   ·cases z
    obtain⟨c,b⟩:=he
    left
    refine⟨c,?_⟩;unfold vN;simp[b]
   ·exact .inr z
structure CS(sc S0:wq):Prop where
 kind:sc.kind=.function
 names:∀ y∈sc.names,y.2=.local->sc.names.lookup y.1=some .local
 nocell:∀ y∈sc.names,y.2≠.cell
 free:∀ y∈sc.names,y.2=.free->S0.names.lookup y.1=some .cell
def zP(env:Env)(y:Str×uf):Str×uf:=if(y.2 == .free && env.scope.kind == .function && env.kindOf y.1 == some .cell)=true then(y.1,.cell) else(y.1,y.2)
def kCV(env:Env)(y:Str×uf):(zP env y).1=y.1:=by
 unfold zP
 split<;>rfl
theorem hX{env:Env}{x:Str}:∀(l:List (Str×uf)),(l.map (zP env)).lookup x=(l.lookup x).map λ k=>(zP env (x,k)).2
 | []=>rfl
 | (n,k)::r=>by
  rw[eZ];have e:zP env (n,k)=(n,(zP env (n,k)).2):=qv (kCV env (n,k)) rfl;rw[e,Ag,Ag]
  cases hx:x == n with
  | true =>
   have:x=n:=by simpa using hx
   subst this
   rfl
  | false=>exact hX r
def cxC(X:Cx)(Nc:List Str)(d:wq)(C:av)(c:az)(a:Hp)(f:List av)(b:List (av×Obj)):Cx :=
 {X with N:=Nc,s₀:=c,H₀:=a,env:=compEnvC d (uW d X.env) C X.env,outer:=X.stack,ex:=f,fn:=λ _=>false,pn:=X.pn++b}
def dD(js:List (Option Nat))(a:St):St:=js.map λ o=>o.bind λ j=>(a[j]?).join
def cD(js:List (Option Nat))(Nc N:List Str)(names:List (Str×uf)):Bool :=
 decide (js.length=Nc.length) && (js.zip Nc).all λ(o,x)=>match o with | none=>true | some j=>decide (N[j]?=some x) && decide (names.lookup x=some .free)
def kTV{js:List (Option Nat)}{Nc N:List Str}{names:List (Str×uf)}(h:cD js Nc N names=true):js.length=Nc.length/\∀(i j:Nat)(x:Str),js[i]?=some (some j)->Nc[i]?=some x->N[j]?=some x/\names.lookup x=some .free:=by
 unfold cD at h;rw[iI]at h;refine⟨of_decide_eq_true h.1,λ i j x b a=>?_⟩
 have z:(js.zip Nc)[i]?=some (some j,x):=by
  rw[kj];exact⟨b,a⟩
 have q:=vg.mp h.2 _ (dh z);dsimp only at q;rw[iI]at q;exact⟨of_decide_eq_true q.1,of_decide_eq_true q.2⟩
section
variable {X:Cx} {pins:List (av×Obj)} {σ:St} {H:Hp} {s:az} {sc:wq} {Nc:List Str} {js:List (Option Nat)} {fp:List av}
def kPI(I:Inv X pins σ H s)(S:CS sc X.env.scope)(f:∀ b∈fp,zG X pins H b)(h:∀ b∈fp,b<s.heap.objs.size){C:av}(hC:s.heap.objs.size<=C):(cxC X Nc sc C s H fp pins).Ok:=by
 have d:∀ x c,(uW sc X.env).lookup x=some c->X.env.cells.lookup x=some c:=λ x c e=>cC sc.names [] (λ z=>nomatch z) e;refine⟨I.ok.mod,S.kind,I.ok.glob,I.ok.blt,hC,λ x y c G r=>I.ok.inj x y c (d x c G) (d y c r),λ x D=>?_,λ x c z=>(nomatch z),I.ok.hd,I.ok.frames,.inl rfl,λ b g=>⟨?_,λ x c e=>(f b g).2.2.2.2.1 x c (d x c e)⟩,I.bs,jt I.ok.bsz I.sz,λ b o e g=>?_,λ b g v=>?_,I.stack,I.stkFree⟩
 ·have a:(sc.names.map (zP X.env)).lookup x=some .cell\/(sc.names.map (zP X.env)).lookup x=some .free:=D
  rw[hX]at a
  cases e:sc.names.lookup x with
  | none=>rw[e]at a;rcases a with z | z<;>cases z
  | some k =>
   rw[e]at a;have m:(x,k)∈sc.names:=oh e
   have q:k=.free:=by
    have u:=S.nocell _ m;unfold zP at a;by_cases p:(k == Bx)=true
    ·simpa using p
    ·have j:(k == Bx)=false:=by simpa using p
     simp only[j,Ei,xw]at a;rcases a with z | z
     ·exact absurd (by simpa using z) u
     ·simpa using z
   subst q;have i:=S.free _ m rfl;obtain⟨c,J⟩:=I.ok.has x (.inl i);exact kDU sc.names [] ⟨c,J⟩ (.inr m)
 ·exact dw (cv (h b g) hC)
 ·obtain⟨h0,h1,n,l,A,B⟩:=f b g
  rcases l with z | z
  ·exact I.ok.noex b o e z
  ·exact absurd (cv (cj (I.ok.bs b o e).1) z) (rj _)
 ·obtain⟨h0,h1,n,l,A,B⟩:=f b g
  rcases eA.mp (I.stkSub b v) with z | z
  ·exact h1 z
  ·exact n z
def wR(I:Inv X pins σ H s)(S:CS sc X.env.scope)(f:∀ b∈fp,zG X pins H b)(B:∀ b∈fp,b<s.heap.objs.size)(L:cD js Nc X.N sc.names=true){C D:av}{o:HO}{h₁:iV}{m:Str->Option au}{tk:Nat}
  (hC:s.heap.objs.size<=C) (y:s.heap.objs.size<=D) (J:D≠C) (A:∀ b ob,s.heap.get? b=some ob->h₁.get? b=some ob) (O:h₁.Ns C m) (new:ObjOk X.prog X.w (upd H D o) h₁ D o) :
  Inv (cxC X Nc sc C s H fp pins) [] (dD js σ) (upd H D o) {s with heap:=h₁,toks:=tk}:=by
 have h:∀ x c,(uW sc X.env).lookup x=some c->X.env.cells.lookup x=some c:=λ x c e=>cC sc.names [] (λ z=>nomatch z) e;have fresh:∀ a,s.heap.objs.size<=a->H a=none:=λ a ha=>I.hok.fresh ha;obtain⟨cl,Z⟩:=kTV L;refine⟨kPI I S f B hC,rfl,I.bare,Un.laid A y (fresh D y),⟨m,O,λ i x v e1 g e3=>?_⟩,λ x c e=>?_,?_,λ x c e=>?_,λ p hp=>?_,I.hok.laid A y new,?_⟩
 ·-- a name of the frame's
  unfold dD at g;rw[bb]at g
  cases ej:js[i]? with
  | none=>rw[ej]at g;cases g
  | some oj =>
   rw[ej]at g
   cases oj with
   | none=>cases g
   | some j =>
    obtain⟨hN,d⟩:=Z i j x ej e1
    have hv:σ[j]?=some (some v):=by
     simp only[xw,Option.bind_some,Gi]at g
     cases e:σ[j]? with
     | none=>rw[e]at g;cases g
     | some w=>rw[e]at g;exact congrArg some g
    have Q:X.env.kindOf x=some .cell:=S.free _ (oh d) rfl;obtain⟨m',a0,hl⟩:=I.loc;obtain⟨u,r,Y⟩:=hl j x v hN hv (.inr (.inl Q));refine⟨u,r,.inr ⟨.inl ?_,?_⟩⟩
    ·show(sc.names.map (zP X.env)).lookup x=some .cell
     rw[hX,d];unfold zP;simp[I.ok.kind,Q]
    ·rcases Y with⟨z,_⟩ | ⟨_,c,U,l⟩
     ·rw[Q]at z;cases z
     ·obtain⟨M,n⟩:=kDU sc.names [] ⟨c,U⟩ (.inr (oh d))
      have:M=c:=bh ((h x M n).symm.trans U);subst this;exact⟨M,n,l.keeps A⟩
 ·obtain⟨v,l⟩:=I.cell x c (h x c e)
  exact⟨v,l.keeps A⟩
 ·show upd H D o C=none
  rw[kL J.symm];exact fresh C hC
 ·have q:=h x c e
  obtain⟨v,l⟩:=I.cell x c q;show upd H D o c=none;rw[kL (dw (cv l.lt y))];exact I.freeC x c q
 ·have G:p∈X.pn++pins:=by
   rcases bz.mp hp with z | z
   ·exact z
   ·exact absurd z (by simp)
  obtain⟨T,a2,a3,a4,a5⟩:=I.pin p G;have lt:=cj T;refine⟨A _ _ T,?_,dw (cv lt hC),λ z=>?_,a5⟩
  ·rw[kL (dw (cv lt y))]
   exact a2
  ·rcases eA.mp (I.stkSub _ z) with z | z
   ·exact a3 z
   ·exact a4 z
 ·unfold dD
  rw[aj];exact cl
def wS{C:av}{j:St}{H':Hp}{i:az}{h':iV}(I:Inv X pins σ H s)(f:∀ b∈fp,zG X pins H b)(hC:s.heap.objs.size<=C)(J:Inv (cxC X Nc sc C s H fp pins) [] j H' i)(p:iz C i.heap h') :
  Inv X pins σ H' {i with heap:=h'}:=by
 have u:=J.base;have m:H' C=none:=J.free;have stay:∀ b a,b≠C->i.heap.get? b=some a->h'.get? b=some a:=λ b a g e=>p.extBut b a g e;have d:∀ b a,s.heap.get? b=some a->b≠C:=λ b a e=>dw (cv (cj e) hC);refine I.call' (ch:=fp) J.os ?_ (λ b v e=>?_) J.bare λ b g=>⟨(f b g).2.2.2.1,(f b g).2.1,(f b g).2.2.2.2.1,(f b g).2.2.2.2.2⟩
 ·refine⟨λ b a e n h1 h=>stay b a (d b a e) (u.keep b a e n h1 h),λ b a e n h1 h=>?_,u.free,λ b a e h=>?_,u.tups,u.frzs,u.tbls⟩
  ·obtain⟨x,q⟩:=u.slot b a e n h1 h
   exact⟨x,stay b _ (d b a e) q⟩
  ·obtain⟨o,q⟩:=u.there b a e h
   exact⟨o,stay b _ (d b a e) q⟩
 ·have l:∀ c w,H' c=some w->c≠C:=λ c w e z=>by rw[z,m]at e;cases e
  refine(J.hok b v e).stay (λ c w r q=>stay c w ?_ q) (λ _ q=>q) λ _ _ q=>q;rcases r with z | z
  ·rw[z];exact l b v e
  ·exact l c _ z
end
section
variable {X:Cx} {e tg iter el:iW} {ifs:List iW} {gens rest:List DO} {sc:wq} {pos:Pos} {Nc:List Str} {js:List (Option Nat)} {wi:TI}
def xX{prog:eX}{w:iN}{A:fk}{env:Env}{R:Result->az->Prop}{s:az}{d:Nat}{it a:au}{g:DO}(l:(∃ el,e=.ListComp el gens sc pos)\/∃ k v,e=.DictComp k v gens sc pos)
  (j:(clausesOf e)[d]?=some g) (f:g.is_async=0)
  (h0:codeAny (model prog w) A (.compLoop e d it a env) R s)
  (h:dj (model prog w) A (pyIter it) (λ it' s'=>codeAny (model prog w) A (.compLoop e d it' a env) R s') (λ _ _=>False) s) :
  codeAny (model prog w) A (.compStart e d it a env) R s:=by
 refine codeAny_of_tree ?_
 have b:(model prog w).den (.compStart e d it a env)=((compStart e d it a env).onRaise (λ x=>do noteFrame x env;standAt theWindowsPlace))/\A.under (.compStart e d it a env)=A:=by
  rcases l with⟨el,rfl⟩ | ⟨k,v,rfl⟩<;>exact⟨rfl,rfl⟩
 have m:∀ d it a,(Code.compLoop e d it a env).quiet=true:=λ _ _ _=>rfl;rw[b.1,b.2];refine wpAny_notedAt ?_;unfold compStart;rw[j];have c:((some g).elim false λ x=>x.is_async != 0)=false:=by show(g.is_async != 0)=false;rw[f];rfl
 rw[c];show dj _ _ (ask >>= _) _ _ s;refine ai (wpAny_askSetting (wpAny_ite ?_))
 split
 ·first
   | exact ai (bg (bg (Fw rfl h0)))
   | exact bg (Fw rfl h0)
 ·refine ai (xp ?_)
  show dj _ _ (standAt g.iter.pos >>= _) _ _ s;exact ai (ya (ai (we h (λ it' s' i=>bg (Fw rfl i)) λ _ _ x=>x.elim)))
def tLC(js:List (Option Nat))(c:TI)(g:TG)(bd:av->TB):TE:=λ b H Q=>c b H λ J a=>∀ D,a D=none->zT J g (bd D) (λ _ d=>Q (.ref D) d) (dD js b) (upd a D (.lst []))
def jG{g:TG}{bd:av->TB}(hx:X.xe=λ _ _=>False)(hc:X.calm=true)(hi:PI X tg iter wi)(S:CS sc X.env.scope)(a1:cD js Nc X.N sc.names=true)
  (hg:∀ C s₂ H₂ fp pins,PG (cxC X Nc sc C s₂ H₂ fp pins) tg g)
  (l:∀ C s₂ H₂ fp pins D L,PTl (cxC X Nc sc C s₂ H₂ fp pins) (yE ifs (cxC X Nc sc C s₂ H₂ fp pins).env (do let _ <-call (.builtin "list.append") [.ref D,<-eval el (cxC X Nc sc C s₂ H₂ fp pins).env]) L) L (bd D))
  (hs:∀ x,foldedSetIterable iter X.env x=pure x:=by intro _;rfl) :
  PE X (.ListComp el [⟨tg,iter,ifs,0⟩] sc pos) (tLC js wi g bd):=by
 intro pins s σ H Q I h;rw[eval_ListComp];have a3:closureFor sc X.env=pure (uW sc X.env):=yR λ y hy hf=>I.ok.has y.1 (.inl (S.free y hy hf));refine ox (use:=none) rfl hs a3 S.kind S.names (thn (hi pins s σ H _ I h) λ v s1 h1=>thn h1 λ a6 d h2=>?_);obtain⟨it,fp,tn,J,U,e,Z,T,Y,f2,hw⟩:=h2;subst e;have n:∀ b∈fp,b<d.heap.objs.size:=λ b l=>let ⟨o,ho,_⟩:=T.obj _ _ Y b l;cj ho;refine iO (sj S.nocell (by intro y hy;simp at hy) (λ i f a=>?_) S.kind);dsimp only at f a ⊢;generalize r:d.heap.push {cls:=.type "list",dict:=none,data:=.seq ([]:List au).toArray}=G at f a ⊢;have a4:G.objs.size=d.heap.objs.size+1:=by rw[<-r,ir]
 have B:d.heap.objs.size≠G.objs.size:=by omega
 have j:d.heap.objs.size<=G.objs.size:=by omega
 have u:∀ b o,d.heap.get? b=some o->i.get? b=some o:=λ b o e=>a.extBut b o (dw (cv (cj e) j)) (ar _ (r ▸ ar _ e));have M:i.get? d.heap.objs.size=some {cls:=.type "list",dict:=none,data:=.seq ([]:List au).toArray}:=a.extBut _ _ B (ar _ (r ▸ ck _ rfl));have new:ObjOk X.prog X.w (upd U d.heap.objs.size (.lst [])) i d.heap.objs.size (.lst []):=⟨iH _,[],_,.nil,M⟩;have I4:=wR (js:=js) (Nc:=Nc) (tk:=d.toks+([]:List (Str×au)).length) Z S f2 n a1 j (bf _) B u f new;have hn:U d.heap.objs.size=none:=Z.fresh
 have f4:∀ b∈fp,zG (cxC X Nc sc G.objs.size d U fp pins) [] (upd U d.heap.objs.size (.lst [])) b:=λ b l=>by
  obtain⟨h0,h1,h2,h3,h4,h5⟩:=f2 b l;refine⟨?_,dw (cv (n b l) j),λ z=>?_,.inl l,λ x c z=>?_,λ p hp=>?_⟩
  ·rw[kL (dw (n b l))];exact h0
  ·rcases eA.mp (Z.stkSub b z) with q | q
   ·exact h1 q
   ·exact h2 q
  ·exact h4 x c (cC sc.names [] (λ z=>nomatch z) z)
  ·rcases bz.mp hp with z | z
   ·exact h5 p z
   ·exact absurd z (by simp)
 have O:tn 0 i:=T.keep _ _ _ Y λ b l o e=>u b o e
 have m:codeAny (model X.prog X.w) X.A (.compLoop (.ListComp el [⟨tg,iter,ifs,0⟩] sc pos) 0 (.ref it) (.ref d.heap.objs.size) (compEnvC sc (uW sc X.env) G.objs.size X.env))
   (compPost (model X.prog X.w) X.A X.xe none (EP X pins σ Q) (.ref d.heap.objs.size) G.objs.size) {d with heap:=i,toks:=d.toks+([]:List (Str×au)).length}:=by
  refine yQ (X:=cxC X Nc sc G.objs.size d U fp pins) (.inl ⟨el,rfl⟩) hx hc (kEG _ _ _ _ _ _ _ _ _) T (hg _ _ _ _ _) (l _ _ _ _ _ _ _) I4 O f4 (hw _ hn) λ a5 H' s' I' q=>?_;obtain⟨m',a2,_⟩:=I'.loc;exact⟨m',a2,λ h' a0=>⟨.ref d.heap.objs.size,H',wS Z f2 j I' a0,rfl,q⟩⟩
 exact xX (.inl ⟨el,rfl⟩) rfl rfl m (T.self _ _ _ _ _ O m)
end
section
variable {X:Cx}
inductive kFF(x:V)(vs:List V)(H:Hp)(Q:VK):Prop
 | mk:∀ l xs i y,(x=.ref l)->(vs=[.int i,y])->(H l=some (.lst xs))->(0<=i)->(i<2 ^ 62)->(xs.length<sizeLine)->(Q .non (upd H l (.lst (xs.take i.toNat++y::xs.drop i.toNat))))->kFF x vs H Q
def oS:MtM X "list.insert" kFF:=by
 intro f s D H x J v G Q I j g h;obtain⟨l,p,i,y,rfl,rfl,d,h1,C,B,q⟩:=h;cases j
 obtain⟨u,w,rfl,⟨t,rfl⟩,c⟩:=g.two;obtain⟨z,a,n,r,A,e⟩:=I.lstM d
 refine Af F.slot_list_insert ⟨_,e,rfl⟩ F.entry_list_insert (F.args_list_insert_3 _ _ _)
  (AutoSeq1.list_insert_list_int_val_1 l a.toArray n i t w (by rw[Er (by omega) (by omega)];decide) (by rw[eY];omega)) ⟨e,?_⟩
 refine⟨.non,_,I.lset (its':=a.take i.toNat++w::a.drop i.toNat) d e ?_ ((r.take i.toNat).append (.cons c (r.drop i.toNat))) ?_,rfl,q⟩
 ·have m:¬ i<0:=by omega
  simp only[m,if_false,eY];apply Array.toList_inj.mp;simp;by_cases o:i.toNat<=a.length
  ·rw[ni o,md (l:=Gm i.toNat a) (by rw[iZ];omega)]
  ·have b:a.length<=i.toNat:=by omega
   rw[Nat.min_eq_right b,md (bf _),md b,oq (bf _),oq b,List.take_nil]
 ·simp only[bu,dq,iJ,iZ]
  omega
def cJ(a:List Int)(n:Int)(j:Nat):Prop:=a[j]?=some n/\∀ m:Nat,m<j->a[m]?≠some n
def wE{b:List Int}{a:List au}(r:Vals (b.map V.int) a){m:Nat}(g:m<a.length):∃ k t,b[m]?=some k/\a[m]=ur k t:=by
 have f:=r.length;rw[aj]at f;have d:m<b.length:=by omega
 obtain⟨u,c,q⟩:=r.get (i:=m) (x:=.int b[m]) (by rw[bb,ae d];rfl);obtain⟨t,rfl⟩:=q;refine⟨b[m],t,ae d,?_⟩;rw[ae g]at c;exact bh c
def dU(n:Int)(v:au):Bool:=match v with | .int k _=>k == n | _=>false
def vB{b:List Int}{a:List au}(r:Vals (b.map V.int) a)(n:Int)(t:Tok):∀ y,y∈a.toArray->MeetsSeq.EqGives y (.int n t) (dU n y):=λ y d=>by
 obtain⟨m,c,rfl⟩:=eO.mp (List.mem_toArray.mp d);obtain⟨k,f,_,e⟩:=wE r c;rw[e];exact GW _ _ _ _
def dC{f:List Int}{a:List au}(r:Vals (f.map V.int) a){n:Int}{j:Nat}(h:cJ f n j):∃ hj:j<a.toArray.size,dU n a.toArray[j]=true/\∀ m (i:m<a.toArray.size),m<j->dU n a.toArray[m]=false:=by
 have l:=r.length;rw[aj]at l;have hj:j<f.length:=(ak.mp h.1).1;have b:j<a.length:=by omega
 refine⟨by rw[eY];exact b,?_,λ m i d=>?_⟩
 ·obtain⟨k,t,c,g⟩:=wE r b
  rw[h.1]at c;cases c
  simp[g,dU]
 ·rw[eY]at i
  obtain⟨k,t,c,g⟩:=wE r i;have:k≠n:=λ z=>h.2 m d (by rw[c,z]);simp[g,dU,this]
inductive kLG(x:V)(vs:List V)(H:Hp)(Q:VK):Prop
 | mk:∀(l:av)(ns:List Int)(n:Int)(j:Nat),(x=.ref l)->(vs=[.int n])->(H l=some (.lst (ns.map V.int)))->(cJ ns n j)->(Q (.int j) H)->kLG x vs H Q
def zR:MtM X "list.index" kLG:=by
 intro b s A H x D v B Q I i d h;obtain⟨l,C,n,j,rfl,rfl,o,g,q⟩:=h;cases i
 obtain⟨u,rfl,t,rfl⟩:=d.one;obtain⟨z,a,m,r,y,e⟩:=I.lstM o;obtain⟨h1,p,c⟩:=dC r g
 have f:(j:Int)<2 ^ 63-1:=by
  have:=cZ;rw[eY]at h1;omega
 refine Af F.slot_list_index ⟨_,e,rfl⟩ F.entry_list_index (F.args_list_index_2 _ _) (MeetsSeq.list_index l a.toArray m (.int n t) (dU n) (vB r n t) j h1 f p c) ⟨e,?_⟩;exact⟨.int j,H,I.tok _,⟨_,rfl⟩,q⟩
inductive kFE(x:V)(vs:List V)(H:Hp)(Q:VK):Prop
 | mk:∀(l:av)(ns:List Int)(n:Int)(j:Nat),(x=.ref l)->(vs=[.int n])->(H l=some (.lst (ns.map V.int)))->(cJ ns n j)->(Q .non (upd H l (.lst ((ns.eraseIdx j).map V.int))))->kFE x vs H Q
theorem vJ{α β:Type}(f:α->β):∀(l:List α)(j:Nat),(l.eraseIdx j).map f=(l.map f).eraseIdx j
 | [],j=>by simp
 | x::r,0=>by simp
 | x::r,j+1=>by simp[vJ f r j]
def oR:MtM X "list.remove" kFE:=by
 intro c s A H x C v B Q I i f h;obtain⟨l,p,n,j,rfl,rfl,b,g,q⟩:=h;cases i
 obtain⟨u,rfl,t,rfl⟩:=f.one;obtain⟨z,a,m,r,y,e⟩:=I.lstM b;obtain⟨h1,o,d⟩:=dC r g;refine Af F.slot_list_remove ⟨_,e,rfl⟩ F.entry_list_remove (F.args_list_remove_2 _ _) (MeetsSeq.list_remove l a.toArray m (.int n t) (dU n) (vB r n t) j h1 o d (by rw[eY];omega)) ⟨e,?_⟩;refine⟨.non,_,I.lset (its':=a.eraseIdx j) b e ?_ (by rw[vJ];exact r.eraseIdx j) ?_,rfl,q⟩
 ·show a.toArray.eraseIdxIfInBounds j=(a.eraseIdx j).toArray
  rw[List.eraseIdxIfInBounds_toArray]
 ·rw[aj]
  have:=oT p j;rw[aj]at z;omega
end
def wZ{lo:Int}{n:Nat}{g:TG}{b:TB}{d:St->Hp->Prop}{a:St}{H:Hp}(Pv:Nat->St->Hp->Prop)(h0:Pv 0 a H)
  (o:∀ i a H,i<n->Pv i a H->g (.int (lo+i)) a H λ σ2 H2=>b (Pv (i+1)) σ2 H2) (h:∀ a H,Pv n a H->d a H):zT (Itr lo n) g b d a H:=by
 refine⟨λ i m a H=>m=n-i/\i<=n/\Pv i a H,⟨n,by simp,iH _,h0⟩,?_⟩;rintro i m a H ⟨rfl,f,p⟩;by_cases c:i<n
 ·refine .inr ⟨c,Pv (i+1),λ l j q=>⟨n-(i+1),by omega,rfl,by omega,q⟩,λ x j r=>?_⟩
  obtain⟨rfl,rfl⟩:=r;exact o i a _ c p
 ·have:i=n:=by omega
  subst this;exact .inl ⟨bf _,h a H p⟩
def jN{K:be}{a:av}{xs:List V}{g:TG}{b:TB}{j:St->Hp->Prop}{c:St}{H:Hp}(Pv:Nat->St->Hp->Prop)(h0:Pv 0 c H)(f:∀ i c H,i<=xs.length->Pv i c H->SqL K H a xs)
  (s:∀ i x c H,xs[i]?=some x->Pv i c H->g x c H λ σ2 H2=>b (Pv (i+1)) σ2 H2) (l:∀ c H,Pv xs.length c H->j c H):zT (Itl K a) g b j c H:=by
 refine⟨λ i m c H=>m=xs.length-i/\i<=xs.length/\Pv i c H,⟨xs.length,by simp,iH _,h0⟩,?_⟩;rintro i m c H ⟨rfl,d,p⟩;by_cases o:i<xs.length
 ·refine .inr ⟨⟨xs,xs[i],f i c H d p,by simp[o]⟩,Pv (i+1),λ r n q=>⟨xs.length-(i+1),by omega,rfl,by omega,q⟩,λ x n h=>?_⟩
  obtain⟨rfl,h⟩:=h;exact s i x c _ (h xs (f i c _ d p)) p
 ·have:i=xs.length:=by omega
  subst this;exact .inl ⟨⟨xs,f _ c H d p,bf _⟩,l c H p⟩
def jM{K:be}{a:av}{xs:List V}{g:TG}{b:TB}{j:St->Hp->Prop}{c:St}{H:Hp}(Pv:Nat->St->Hp->Prop)(h0:Pv 0 c H)(f:∀ i c H,i<=xs.length->Pv i c H->SqT K H a xs)
  (s:∀ i x c H,xs[i]?=some x->Pv i c H->g x c H λ σ2 H2=>b (Pv (i+1)) σ2 H2) (l:∀ c H,Pv xs.length c H->j c H):zT (Itt K a) g b j c H:=by
 refine⟨λ i m c H=>m=xs.length-i/\i<=xs.length/\Pv i c H,⟨xs.length,by simp,iH _,h0⟩,?_⟩;rintro i m c H ⟨rfl,d,p⟩;by_cases o:i<xs.length
 ·refine .inr ⟨⟨xs,xs[i],f i c H d p,by simp[o]⟩,Pv (i+1),λ r n q=>⟨xs.length-(i+1),by omega,rfl,by omega,q⟩,λ x n h=>?_⟩
  obtain⟨rfl,h⟩:=h;exact s i x c _ (h xs (f i c _ d p)) p
 ·have:i=xs.length:=by omega
  subst this;exact .inl ⟨⟨xs,f _ c H d p,bf _⟩,l c H p⟩
section
variable {prog:eX} {w:iN} {A:fk} {E:au->az->Prop}
end
section
variable {X:Cx} {pos:Pos}
theorem fS:∀{b:List Int}{a:List au},Vals (b.map V.int) a->Dm a b
 | [],_,r=>by cases r;exact .nil
 | n::b,_,r=>by
  cases r with
  | cons r1 r2 =>
   obtain⟨t,rfl⟩:=r1;exact .cons n t (fS r2)
end
mutual
def Dt(K:be)(H:Hp):CY->V->Prop
 | .none,v=>v=.non
 | .bool b,v=>v=.bl b
 | .int i,v=>v=.int i
 | .str x,v=>v=.str x
 | .tuple xs,v=>∃ a c,v=.ref a/\SqT K H a c/\DtAll K H xs c
 | .list xs,v=>∃ a c,v=.ref a/\SqL K H a c/\DtAll K H xs c
 | .dict _,_=>False
def DtAll(K:be)(H:Hp):List CY->List V->Prop
 | [],vs=>vs=[]
 | d::ds,vs=>∃ v a,vs=v::a/\Dt K H d v/\DtAll K H ds a
end
section
variable {X:Cx} {pins:List (av×Obj)} {σ:St} {H:Hp} {s:az}
mutual
theorem Dt.reads(I:Inv X pins σ H s):∀(d:CY)(v:V)(u:au),RelV v u->Dt X.K H d v->∃ as,Reads s.heap u d as
 | .none,v,u,r,h=>by unfold Dt at h;subst h;cases r;exact⟨_,.none⟩
 | .bool b,v,u,r,h=>by unfold Dt at h;subst h;cases r;exact⟨_,.bool b⟩
 | .int i,v,u,r,h=>by unfold Dt at h;subst h;obtain⟨t,rfl⟩:=r;exact⟨_,.int i t⟩
 | .str x,v,u,r,h=>by unfold Dt at h;subst h;obtain⟨t,rfl⟩:=r;exact⟨_,.str x t⟩
 | .tuple xs,v,u,r,h=>by
  unfold Dt at h;obtain⟨a,p,rfl,q,g⟩:=h;cases r
  obtain⟨c,m,⟨o,f,l,n,y⟩,A⟩:=I.tuple q;obtain⟨as,j⟩:=DtAll.reads I xs p c m g;exact⟨_,.tuple f l y (by simpa using j)⟩
 | .list xs,v,u,r,h=>by
  unfold Dt at h;obtain⟨a,p,rfl,q,g⟩:=h;cases r
  obtain⟨c,m,B,A⟩:=I.list q;obtain⟨as,j⟩:=DtAll.reads I xs p c m g;obtain⟨o,f,l,n,y⟩:=B.isList;exact⟨_,.list f l y (by simpa using j)⟩
 | .dict _,v,u,r,h=>by unfold Dt at h;exact h.elim
theorem DtAll.reads(I:Inv X pins σ H s):∀(b:List CY)(c:List V)(a:List au),Vals c a->DtAll X.K H b c->∃ as,ReadsAll s.heap a b as
 | [],c,a,r,h=>by unfold DtAll at h;subst h;cases r;exact⟨_,.nil⟩
 | d::b,c,a,r,h=>by
  unfold DtAll at h;obtain⟨v,f,rfl,h1,i⟩:=h
  cases r with
  | cons r1 r2 =>
   obtain⟨as,j⟩:=Dt.reads I d v _ r1 h1;obtain⟨bs,g⟩:=DtAll.reads I b f _ r2 i;exact⟨_,.cons j g⟩
end
end
section
variable {X:Cx}
inductive kOU(K:be)(neg:Bool)(x:V)(y:V)(H:Hp)(Q:VK):Prop
 | mk:∀ d e,(Dt K H d x)->(Dt K H e y)->(jg d=true)->(jg e=true)->(Q (.bl (if neg then !PyData.eqv d e else ie d e)) H)->kOU K neg x y H Q
def kDC(i:X.A.units+64<cLine):OpR X (compareOp .Eq) (kOU X.K false):=by
 intro a s l H x y v u Q I c j h;obtain⟨d,e,h1,f,g,b,q⟩:=h;obtain⟨m,p1⟩:=Dt.reads I d x v c h1;obtain⟨bs,p2⟩:=Dt.reads I e y u j f;exact SeqAt.compareEq_shaped p1 p2 g b i ⟨.bl _,H,I,rfl,q⟩
def cS(i:X.A.units+64<cLine):OpR X (compareOp .NotEq) (kOU X.K true):=by
 intro a s l H x y v u Q I c j h;obtain⟨d,e,h1,f,g,b,q⟩:=h;obtain⟨m,p1⟩:=Dt.reads I d x v c h1;obtain⟨bs,p2⟩:=Dt.reads I e y u j f;exact SeqAt.compareNe_shaped p1 p2 g b i ⟨.bl _,H,I,rfl,q⟩
end
def kWL(a b:wq):Bool:=(a.names.all λ y=>(y.2 != .local || a.names.lookup y.1 == some .local) && y.2 != .cell && (y.2 != .free || b.names.lookup y.1 == some .cell))
def CS.of{a f:wq}(k:a.kind=.function)(h:kWL a f=true):CS a f:=by
 have q:∀ y∈a.names,_:=vg.mp h;refine⟨k,λ y b e=>?_,λ y b e=>?_,λ y b e=>?_⟩<;>have z:=q y b<;>rw[iI,iI]at z<;>obtain⟨⟨c,d⟩,g⟩:=z
 ·rw[e]at c;simpa using c
 ·rw[e]at d;simp at d
 ·rw[e]at g;simpa using g
section
variable {prog:eX} {w:iN} {A:fk} {E:au->az->Prop} {s:az}
def kDH{it t:av}{i:Nat}{a:Array au}{x:au}{Q:au->az->Prop}(b:s.heap.IsTupleIter it t i)(l:s.heap.IsTuple t a)(h:a[i]?=some x)
  (m:∀ h',h'.IsTupleIter it t (i+1)->iz it s.heap h'->Q x {s with heap:=h'}):dj (model prog w) A (gv (.ref it)) Q E s:=by
 obtain⟨o,d,j,c⟩:=id b;obtain⟨n,g,_,p,f⟩:=l;unfold gv;refine ai (jc (name:=ve "__next__") b.typeIs uj (ky uj b.typeIs BK ?_ (BB _)));show dj _ _ (field (.ref it) 0 >>= _) _ _ s;refine ai (iQ d c (x:=.ref t) rfl ?_);show dj _ _ (if(jx t == AD)=true then _ else _) _ _ s;rw[if_neg (show ¬ ((jx t == AD)=true) from eC)];show dj _ _ (field (.ref it) 1 >>= _) _ _ s;refine ai (iQ d c (x:=.int i 0) rfl ?_);show dj _ _ (seqItems? (.ref t) >>= _) _ _ s;refine ai (jz g f ?_);simp only[kg,h];refine ai (Et d c (by simp) (bg ⟨x,rfl,bg (m _ ?_ (jv ..))⟩));refine⟨_,qz _ d (Obj.isFreed_of_fields (DY c _)),(Obj.cls_mapFields ..).trans j,?_⟩;rw[DY c];simp[rawInt]
def lY{it t:av}{i:Nat}{b:Array au}{Q:au->az->Prop}(j:A.handled=none)(c:s.heap.IsTupleIter it t i)(p:s.heap.IsTuple t b)(l:b[i]?=none)
  (n:∀ h' e,Heap.ExtBut it s.heap h'->(∃ o,h'.get? e=some o/\o.cls=.type "StopIteration")->E (.ref e) {s with heap:=h'}):dj (model prog w) A (gv (.ref it)) Q E s:=by
 obtain⟨o,g,r,f⟩:=id c;obtain⟨q,h,_,u,d⟩:=p;unfold gv;refine ai (jc (name:=ve "__next__") c.typeIs uj (ky uj c.typeIs BK ?_ (BB _)));show dj _ _ (field (.ref it) 0 >>= _) _ _ s;refine ai (iQ g f (x:=.ref t) rfl ?_);show dj _ _ (if(jx t == AD)=true then _ else _) _ _ s;rw[if_neg (show ¬ ((jx t == AD)=true) from eC)];show dj _ _ (field (.ref it) 1 >>= _) _ _ s;refine ai (iQ g f (x:=.int i 0) rfl ?_);show dj _ _ (seqItems? (.ref t) >>= _) _ _ s;refine ai (jz h d ?_);simp only[kg,l];refine ai (xp (ai (Et g f (by simp) ?_)));show dj _ _ (newExc (.type "StopIteration") [] >>= _) _ _ _;refine ai ?_;simp only[newExc,newTuple];refine ai (iO ?_ (by size_fits));refine ai (m:=firstArgMember _ _) (wpAny_of_eq (a:=AD) (by first | rfl | (simp only[firstArgMember];rfl)) ?_);refine iO ?_ (by size_fits);simp only[raiseNew];refine ai (wpAny_handled ?_)
 first | rw[show A.in1.handled=none from j] | rw[j]
 refine ai (bg (wpAny_throw ?_));exact n _ _ (((jv ..).extBut.push _).push _) ⟨_,ck _ rfl,rfl⟩
end
def ItOf(k:Bool)(h:iV)(it a:av)(i:Nat):Prop:=match k with | true=>h.IsListIter it a i | false=>h.IsTupleIter it a i
def SqOf(k:Bool)(h:iV)(a:av)(b:Array au):Prop:=match k with | true=>h.IsList a b | false=>h.IsTuple a b
def zE(k:Bool):String:=match k with | true=>"list_iterator" | false=>"tuple_iterator"
def SqX(K:be)(k:Bool)(H:Hp)(a:av)(xs:List V):Prop:=match k with | true=>SqL K H a xs | false=>SqT K H a xs
def ItOf.at{k:Bool}{h h':iV}{it a:av}{i:Nat}(x:ItOf k h it a i)(g:∀ o,h.get? it=some o->h'.get? it=some o):ItOf k h' it a i:=by
 cases k
 ·obtain⟨o,e,r⟩:=x;exact⟨o,g o e,r⟩
 ·obtain⟨o,e,r⟩:=x;exact⟨o,g o e,r⟩
def ItOf.live{k:Bool}{h:iV}{it a:av}{i:Nat}(x:ItOf k h it a i):∃ o,h.get? it=some o/\∀ v,o.data≠.cell v:=by
 cases k
 ·obtain⟨o,e,c,d⟩:=x;exact⟨o,e,λ v z=>by rw[d]at z;cases z⟩
 ·obtain⟨o,e,c,d⟩:=x;exact⟨o,e,λ v z=>by rw[d]at z;cases z⟩
def SqOf.at{k:Bool}{h h':iV}{a:av}{b:Array au}(x:SqOf k h a b)(g:∀ o,h.get? a=some o->h'.get? a=some o):SqOf k h' a b:=by
 cases k
 ·obtain⟨o,e,r⟩:=x;exact⟨o,g o e,r⟩
 ·obtain⟨o,e,r⟩:=x;exact⟨o,g o e,r⟩
def SqOf.there{k:Bool}{h:iV}{a:av}{b:Array au}(x:SqOf k h a b):∃ o,h.get? a=some o:=by
 cases k
 ·obtain⟨o,e,r⟩:=x;exact⟨o,e⟩
 ·obtain⟨o,e,r⟩:=x;exact⟨o,e⟩
def SqOf.lt{k:Bool}{h:iV}{a:av}{b:Array au}(x:SqOf k h a b):a<h.objs.size:=let ⟨_,e⟩:=x.there;cj e
def ItOf.new(k:Bool)(h:iV)(a:av):ItOf k (h.push {cls:=.type (zE k),data:=.fields #[.ref a,.int 0 0]}) h.objs.size a 0:=by
 cases k
 ·exact⟨_,ck _ rfl,rfl,rfl⟩
 ·exact⟨_,ck _ rfl,rfl,rfl⟩
def Inv.sq{X:Cx}{b:List (av×Obj)}{c:St}{H:Hp}{s:az}{k:Bool}{a:av}{xs:List V}(I:Inv X b c H s)(h:SqX X.K k H a xs):∃ its:List au,Vals xs its/\SqOf k s.heap a its.toArray:=by
 cases k
 ·obtain⟨its,r,p,_⟩:=I.tuple h
  exact⟨its,r,p⟩
 ·obtain⟨its,r,p,_⟩:=I.list h
  exact⟨its,r,p.isList⟩
def Inv.sq_inj{X:Cx}{b:List (av×Obj)}{c:St}{H:Hp}{s:az}{k:Bool}{a:av}{xs ys:List V}(I:Inv X b c H s)(h:SqX X.K k H a xs)(h':SqX X.K k H a ys):xs=ys:=by
 cases k
 ·exact I.tuple_inj h h'
 ·exact I.list_inj h h'
section
variable {prog:eX} {w:iN} {A:fk} {E:au->az->Prop} {s:az}
def bQ{k:Bool}{a:av}{b:Array au}{Q:au->az->Prop}(h:SqOf k s.heap a b)(c:Q (.ref s.heap.objs.size) {s with heap:=s.heap.push {cls:=.type (zE k),data:=.fields #[.ref a,.int 0 0]}}) :
  dj (model prog w) A (pyIter (.ref a)) Q E s:=by
 cases k
 ·exact xk h c
 ·exact Bq h c
def xU(n:A.handled=none)(k:Bool)(it a:av)(f:a≠it)(b:Array au):EU prog w A it [it,a] b.size (λ i v=>b[i]?=some v) (λ i h=>ItOf k h it a i/\SqOf k h a b) where
 live:=λ _ _ st=>let ⟨o,ho,_⟩:=st.1.live;⟨o,ho⟩
 frame:=λ _ _ _ st m=>⟨st.1.at λ o e=>m it (by simp) o e,st.2.at λ o e=>m a (by simp) o e⟩
 item:=λ i s Q E q st p=>by
  have g:b[i]?=some b[i]:=by simp[q]
  cases k
  ·exact kDH st.1 st.2 g λ j c d=>p _ j s.toks g ⟨c,st.2.at λ o e=>d.extBut a o f e⟩ d
  ·exact wpAny_nextOf_list_item st.1 st.2 g λ j c d=>p _ j s.toks g ⟨c,st.2.at λ o e=>d.extBut a o f e⟩ d
 done:=λ s Q E st l=>by
  cases k
  ·exact lY n st.1 st.2 (by simp) l
  ·exact wpAny_nextOf_list_end n st.1 st.2 (by simp) l
end
def Inv.turnedL{X:Cx}{a:List (av×Obj)}{h:St}{H:Hp}{s:az}{h':iV}{t':Nat}{ch:List av}(I:Inv X a h H s)(k:∀ b o,b∉ch->s.heap.get? b=some o->h'.get? b=some o)(g:∀ b∈ch,zG X a H b) :
  Inv X a h H {s with heap:=h',toks:=t'}:=by
 have f:∀ b u,H b=some u->b∉ch:=λ b u e z=>by rw[(g b z).1]at e;cases e
 refine I.step (g':=s.gens) (d':=s.drawn) (ch:=ch) (λ b i=>?_) (λ b o _ _ d e _=>k b o d e) (λ b o _ _ d e _=>⟨o.slots,k b o d e⟩) (λ _ _ _ _ n=>n)
  (λ b o d e=>⟨o,k b o d e⟩) (λ _ _ e=>e) (λ _ _ _ e=>e) (λ b ps e=>⟨#[],by rw[e];simp⟩) (λ m j=>?_) (λ b u e=>?_) I.bare
 ·obtain⟨G,p,D,B,y,A⟩:=g b i
  exact⟨B,p,y,A⟩
 ·obtain⟨o,l,x,C,r⟩:=j
  exact⟨o,l,x,k _ o (λ z=>(g _ z).2.1 rfl) C,r⟩
 ·refine(I.hok b u e).stay (λ c v d q=>k c v ?_ q) (λ _ q=>q) λ _ _ q=>q
  rcases d with z | z
  ·rw[z];exact f b u e
  ·exact f c _ z
open AutoSeq1 (wpAny_loadPart')
def sP(l:av)(a:Array au)(n:Nat)(i:Option av)(o:Array (Option au)) :
  Meets (AA.«enumerate.__new__» ⟨[.type "enumerate",.ref l],[]⟩) (λ _ R s=>s.heap.get? l=some {cls:=.type "tuple",dict:=i,data:=.seq a n,slots:=o} /\
   R (.ok (.ret (.ref (s.heap.push {cls:=.type "tuple_iterator",data:=.fields #[.ref l,.int 0 0]}).objs.size)))
    {s with heap:=(s.heap.push {cls:=.type "tuple_iterator",data:=.fields #[.ref l,.int 0 0]}).push {cls:=.type "enumerate",data:=.fields #[.none,.bool false,.ref s.heap.objs.size,rawInt 0,.none,.none]}}) :=
 .of_wp λ m w A R s h=>by
  obtain⟨hp,g,d,tk,os⟩:=s;obtain⟨b,h⟩:=h;have j:=sub_enumerate;have f:Heap.IsTuple (Ar ⟨hp,g,d,tk,os⟩) l a:=⟨_,b,rfl,n,rfl⟩
  wp_walk using AB b
  refine wpAny_stack_any λ st=>bg ?_
  split
  ·rename_i c _ _ _ _ _
   cases(c == BP "enumerate")
   ·wp_walk using AB b,xk f
    exact⟨_,rfl,h⟩
   ·wp_walk using AB b,xk f
    exact⟨_,rfl,h⟩
  ·wp_walk using AB b,xk f
   exact⟨_,rfl,h⟩
section
variable {prog:eX} {w:iN} {A:fk} {E:au->az->Prop} {s:az}
def sV{k:Bool}{l:av}{a:Array au}{Q:au->az->Prop}(m:SqOf k s.heap l a)
  (h:∀ h',IsEnum h' (s.heap.objs.size+1) s.heap.objs.size 0 .none->ItOf k h' s.heap.objs.size l 0->(∀ b o,s.heap.get? b=some o->h'.get? b=some o)->Q (.ref (s.heap.objs.size+1)) {s with heap:=h'}) :
  dj (model prog w) A (call (.type "enumerate") [.ref l]) Q E s:=by
 cases k
 ·obtain⟨⟨c,i,dt,u⟩,p,g,n,f⟩:=m
  replace g:c=.type "tuple":=g
  replace f:dt=.seq a n:=f
  subst g f;refine Dr F.called_enumerate (by decide) (F.typeCall_enumerate_1 _) (F.newCall_enumerate_1 _) (λ obj=>F.args_object_init_2 obj _) F.entry_enumerate_new (sP l a n i u) ⟨p,?_⟩;have j:(s.heap.push {cls:=.type "tuple_iterator",data:=.fields #[.ref l,.int 0 0]}).objs.size=s.heap.objs.size+1:=ir ..;show _/\_;rw[j];have d:=ck (s.heap.push {cls:=.type "tuple_iterator",data:=.fields #[.ref l,.int 0 0]}) (o:={cls:=.type "enumerate",data:=.fields #[.none,.bool false,.ref s.heap.objs.size,rawInt 0,.none,.none]}) rfl;rw[j]at d;exact⟨⟨_,d,rfl⟩,h _ d ⟨_,ar _ (ck _ rfl),rfl,rfl⟩ λ b o x=>ar _ (ar _ x)⟩
 ·exact call_enumerate_list m λ h' d q _ r=>h h' d q r
end
def uY{k f:Bool}{h:iV}{a it b:av}{i:Nat}{d:Array au}(x:SqOf k h a d)(y:ItOf f h it b i):a≠it:=by
 intro z;subst z
 cases k<;>cases f<;>obtain⟨o,e,c,_⟩:=x<;>obtain⟨l,j,g,_⟩:=y<;>rw[e]at j<;>cases j<;>rw[c]at g<;>revert g<;>decide
def kNN{h:iV}{a b:av}{o u:Obj}{m n:String}(h1:h.get? a=some o)(f:h.get? b=some u)(g:o.cls=.type m)(c:u.cls=.type n)(d:m≠n):a≠b:=by
 intro z;subst z;rw[h1]at f;cases f
 rw[g]at c;injection c with e
 exact d e
theorem ItOf.cls{k:Bool}{h:iV}{it a:av}{i:Nat}(x:ItOf k h it a i):∃ o,h.get? it=some o/\o.cls=.type (zE k):=by
 cases k<;>obtain⟨o,e,c,_⟩:=x<;>exact⟨o,e,c⟩
def kRY(k:Bool):String:=match k with | true=>"list" | false=>"tuple"
theorem SqOf.cls{k:Bool}{h:iV}{a:av}{b:Array au}(x:SqOf k h a b):∃ o,h.get? a=some o/\o.cls=.type (kRY k):=by
 cases k<;>obtain⟨o,e,c,_⟩:=x<;>exact⟨o,e,c⟩
def Inv.handed{X:Cx}{a:List (av×Obj)}{f:St}{H:Hp}{s:az}{h':iV}{t':Nat}{ch:List av}{x y:V}{u v:au}(I:Inv X a f H s)(i:RelV x u)(p:RelV y v)
  (r:h'.get? s.heap.objs.size=some {cls:=.type "tuple",data:=.seq #[u,v]}) (k:∀ b o,b∉ch->s.heap.get? b=some o->h'.get? b=some o) (h:∀ b∈ch,zG X a H b) (d:∀ b∈ch,b<s.heap.objs.size) :
  Inv X a f (upd H s.heap.objs.size (.tup [x,y])) {s with heap:=h',toks:=t'}/\(∀ b∈ch,upd H s.heap.objs.size (.tup [x,y]) b=none):=by
 have g:∀ b∈ch,upd H s.heap.objs.size (.tup [x,y]) b=none:=λ b c=>by rw[kL (dw (d b c))];exact(h b c).1
 have q:Inv X a f (upd H s.heap.objs.size (.tup [x,y])) {s with heap:=s.heap.push {cls:=.type "tuple",data:=.seq #[u,v]},toks:=s.toks} :=
  I.laid (λ b o e=>ar _ e) (bf _) ⟨by simp only[iJ,yo];rw[Br];decide,[u,v],.cons i (.cons p .nil),⟨_,ck _ rfl,rfl,0,rfl,rfl⟩⟩
 have n:=Inv.turnedL (h':=h') (t':=t') (ch:=ch) q (λ b o c e=>by
  rcases Cw e with⟨rfl,rfl⟩ | e
  ·exact r
  ·exact k b o c e) (λ b c=>by
  obtain⟨C,m,B,l,A,j⟩:=h b c;exact⟨g b c,m,B,l,A,j⟩)
 exact⟨n,g⟩
def Ite(k:Bool)(K:be)(a:av):It :=
 ⟨λ i H=>∃ b x,SqX K k H a b/\b[i]?=some x,λ i H v c=>∃ T x,H T=none/\v=.ref T/\(∀ b,SqX K k H a b->b[i]?=some x)/\c=upd H T (.tup [.int i,x]),λ i H=>∃ b,SqX K k H a b/\b.length=i⟩
def kHG{P:eX}{w:iN}{K:be}{C:List iW} {x1} {O:Pos} (k:Bool) (a e it:av):Turn P w K (.Tuple C x1 O) (Ite k K a) [e,it] e (λ i h=>(∃ old,IsEnum h e it i old)/\ItOf k h it a i) where
 mem:=by simp
 obj:=λ i h st b c=>by
  obtain⟨⟨old,f⟩,g⟩:=st;rcases eA.mp c with rfl | c
  ·exact⟨_,f,λ v z=>by cases z⟩
  ·have:b=it:=by simpa using c
   subst this;exact g.live
 keep:=λ i h h' st kk=>by
  obtain⟨⟨old,f⟩,g⟩:=st;exact⟨⟨old,kk e (by simp) _ f⟩,g.at λ o q=>kk it (by simp) o q⟩
 item:=by
  intro X M hw Y hc i B s σ H E I hf st hg;subst M hw Y;obtain⟨⟨old,f⟩,g⟩:=st;obtain⟨xs,x,G,J⟩:=hg;obtain⟨d,Q,p⟩:=I.sq G;obtain⟨u,hu,ru⟩:=Q.get J;have m:=uY p g;obtain⟨oi,ei,ci⟩:=g.cls;obtain⟨oa,ea,ca⟩:=p.cls;have l:e≠it:=kNN f ei rfl ci (by cases k<;>decide);have N:e≠a:=kNN f ea rfl ca (by cases k<;>decide);have D:=xU (prog:=X.prog) (w:=X.w) (A:=X.A.in1) (I.ok.hd hc) k it a m d.toArray
  have L:i<d.toArray.size:=by
   have:=(ak.mp hu).1;simpa using this
  refine wpAny_pyNext_enum_itemD D f ⟨g,p⟩ L l (by simp[l,N]) λ y h' tk hy ho T hT hz hk=>?_
  have ey:y=u:=by
   have r:d[i]?=some y:=by simpa using hy
   rw[hu]at r;exact(bh r).symm
  subst ey;refine⟨_,rfl,wpAny_letOwnedTupleGo_enum ho λ h2 Z j=>?_⟩;have n:e<s.heap.objs.size:=cj f;have U:it<s.heap.objs.size:=cj ei;have S:h2.get? s.heap.objs.size=some {cls:=.type "tuple",data:=.seq #[.int i tk,y]}:=j.extBut _ _ (ja n) hT
  obtain⟨I2,n2⟩:=I.handed (x:=.int i) (u:=.int i tk) (t':=tk+1) (ch:=[e,it]) ⟨tk,rfl⟩ ru S (λ b o c q=>j.extBut b o (λ z=>c (by simp[z])) (hk b o (λ z=>c (by simp[z])) (λ z=>c (by simp[z])) q)) hf
   (λ b c=>by rcases eA.mp c with rfl | c;exact n;rw[cg.mp c];exact U)
  refine⟨.ref s.heap.objs.size,_,I2,rfl,⟨_,x,I.hok.fresh (bf _),rfl,λ ys a0=>by rw[I.sq_inj a0 G];exact J,rfl⟩,⟨⟨_,by simpa using Z⟩,T.1.at λ o q=>j.extBut it o l.symm q⟩,n2⟩
 done:=by
  intro X M hw Y hc i B s σ H E I hf st hg;subst M hw Y;obtain⟨⟨old,f⟩,g⟩:=st;obtain⟨xs,G,J⟩:=hg;obtain⟨d,Q,p⟩:=I.sq G;have m:=uY p g;have D:=xU (prog:=X.prog) (w:=X.w) (A:=X.A.in1) (I.ok.hd hc) k it a m d.toArray;have hl:d.toArray.size=i:=by rw[<-J,Q.length];simp
  refine wpAny_pyNext_enum_endD D f ⟨hl ▸ g,p⟩ λ h' eb=>⟨rfl,I.turnedL (t':=s.toks) (ch:=[it]) (λ b o c q=>eb b o (λ z=>c (by simp[z])) q) λ b c=>hf b (by simp at c ⊢;exact .inr c)⟩
 self:=λ _ _ _ _ _ st h=>by
  obtain⟨⟨old,f⟩,_⟩:=st;exact Ds f h
section
variable {X:Cx}
inductive kMQ(k:Bool)(K:be)(R:It->Hp->Prop)(vs:List V)(H1:Hp):Prop
 | mk:∀ a,(vs=[.ref a])->((∃ xs,SqX K k H1 a xs))->(R (Ite k K a) H1)->kMQ k K R vs H1
def kVH(k:Bool)(K:be)(c:TA):TI:=λ b H R=>c b H λ d a=>kMQ k K R d a
def kFK(k:Bool){a:iW}{x:TA}{p g i:Pos}{m:List iW} {x1} (Q:Gl X "enumerate") (B:X.mg "enumerate" = none) (M:PA X [a] x) (J:starEach [a] X.env=[(false,eval a X.env)]:=by rfl) :
  PI X (.Tuple m x1 i) (.Call (.Name "enumerate" p) [a] [] g) (kVH k X.K x):=by
 intro c s N H R I h;refine Fv (wH I Q B boot_enumerate (iu (thn (M g c s N H _ I h) λ Y j ⟨Z,o,n,C,G⟩=>?_) J rfl));obtain⟨l,rfl,⟨U,A⟩,q⟩:=G;obtain⟨u,rfl,r⟩:=uX C;cases r
 obtain⟨D,T,L⟩:=n.sq A;refine sV L λ y v O S=>?_;refine Ds (s:={j with heap:=y}) v ?_
 have f:∀ b,j.heap.objs.size<=b->zG X c o b:=λ b d=>n.fpOk d (n.hok.fresh d);refine⟨_,[j.heap.objs.size+1,j.heap.objs.size],_,_,o,rfl,n.kept (t':=j.toks) S,kHG k l _ _,⟨⟨_,v⟩,O⟩,λ b d=>?_,q⟩;rcases eA.mp d with rfl | d
 ·exact f _ (by omega)
 ·rw[cg.mp d];exact f _ (bf _)
end
end L2
namespace L2
open PySem PySem.Spec PyProof.Rows
structure ZAp(z TI TO i1 i2:av)(fp1 fp2:List av):Prop where
 zTI:z≠TI
 zTO:z≠TO
 zi1:z≠i1
 zi2:z≠i2
 TOi1:TO≠i1
 TOi2:TO≠i2
 i12:i1≠i2
 TITO:TI≠TO
 TIi1:TI≠i1
 TIi2:TI≠i2
 z1:z∉fp1
 z2:z∉fp2
 t1:TO∉fp1
 t2:TO∉fp2
 i2f:i2∉fp1
 i1f:i1∉fp2
section
variable {prog:eX} {w:iN} {A:fk} {E:au->az->Prop} {s:az} {z TI TO i1 i2:av} {fp1 fp2:List av} {n1 n2 j:Nat} {P1 P2:Nat->au->Prop} {S1 S2:Nat->iV->Prop} {a b:au}
def kGV{Q:au->az->Prop}(D1:EU prog w A i1 fp1 n1 P1 S1)(O:EU prog w A i2 fp2 n2 P2 S2)(d:ZAp z TI TO i1 i2 fp1 fp2)
  (hz:xh s.heap z TI TO .none) (Y:yd s.heap TI (.ref i1) (.ref i2)) (a2:yd s.heap TO a b) (h1:S1 j s.heap) (h2:S2 j s.heap) (l1:j<n1) (l2:j<n2)
  (hQ:∀ x y h' tk,P1 j x->P2 j y->xh h' z TI TO (rawInt s.heap.objs.size)->yd h' TO x y->S1 (j+1) h'->S2 (j+1) h'->yd h' s.heap.objs.size x y ->
   (∀ c o,c≠z->c≠TO->c≠i1->c≠i2->s.heap.get? c=some o->h'.get? c=some o)->Q (.ref s.heap.objs.size) {s with heap:=h',toks:=tk}) :
  dj (model prog w) A (AA.«zip.__next__» ⟨[.ref z],[]⟩) (λ fin s'=>∃ v,fin=.done (.ret v)/\Q v s') E s:=by
 have l:∀{i:Nat}{h h':iV}{c:av},S1 i h->iz c h h'->c∉fp1->S1 i h':=λ st U hc=>D1.frame _ _ _ st λ b m o e=>U.extBut b o (λ q=>hc (q ▸ m)) e;have g:∀{i:Nat}{h h':iV}{c:av},S2 i h->iz c h h'->c∉fp2->S2 i h':=λ st U hc=>O.frame _ _ _ st λ b m o e=>U.extBut b o (λ q=>hc (q ▸ m)) e;show dj _ _ (field (.ref z) 2 >>= _) _ _ _;refine ai (iQ hz rfl (x:=.bool false) rfl ?_);show dj _ _ (field (.ref z) 3 >>= _) _ _ _;refine ai (iQ hz rfl (x:=.ref TI) rfl ?_);refine ai (jz Y rfl ?_);show dj _ _ (iA (.ref z) >>= _) _ _ _;refine ai ?_;unfold iA;refine ai (iQ hz rfl (x:=.none) rfl (bg ?_));simp only[if_true];refine ai (xp ?_);refine ai (iQ hz rfl (x:=.ref TO) rfl ?_);refine ai (km hz (by simp) λ g1 G D=>?_)
 replace G:xh g1 z TI TO .ellipsis:=G
 refine ai ?_
 simp only[yy,BC,zy,BX]
 refine ai (ai (wj ?_));show dj _ _ (gv (.ref i1) >>= _) _ _ _;refine ai (D1.item j _ _ _ l1 (l h1 D d.z1) λ x g2 a4 px a1 C=>bg ?_);have o2:yd g2 TO a b:=C.extBut _ _ d.TOi1 (D.extBut _ _ d.zTO.symm a2);refine ai (jz o2 rfl ?_);refine ai (As o2 λ g3 T r=>?_)
 replace T:yd g3 TO x b:=T
 refine ai (Au (bg ?_))
 refine ai (ai (wj ?_));show dj _ _ (gv (.ref i2) >>= _) _ _ _;refine ai (O.item j _ _ _ l2 (g (g (g h2 D d.z2) C d.i1f) r d.t2) λ y g4 a3 py X H=>bg ?_);have o4:yd g4 TO x b:=H.extBut _ _ d.TOi2 T;refine ai (jz o4 rfl ?_);refine ai (As o4 λ f J u=>?_)
 replace J:yd f TO x y:=J
 refine ai (Au (bg (bg ?_)))
 refine ai (jz J rfl ?_);refine ai (Cy ?_);have sz:f.objs.size=s.heap.objs.size:=by rw[u.1,H.1,r.1,C.1,D.1]
 have z5:xh f z TI TO .ellipsis:=u.extBut _ _ d.zTO (H.extBut _ _ d.zi2 (r.extBut _ _ d.zTO (C.extBut _ _ d.zi1 G)))
 have k5:∀ c o,c≠z->c≠TO->c≠i1->c≠i2->s.heap.get? c=some o->f.get? c=some o:=λ c o n I c3 S e =>
  u.extBut _ _ I (H.extBut _ _ S (r.extBut _ _ I (C.extBut _ _ c3 (D.extBut _ _ n e))))
 have a0:S1 (j+1) f:=l (l (l a1 r d.t1) H d.i2f) u d.t1;have B:S2 (j+1) f:=g X u d.t2;have p:z<f.objs.size:=cj z5;show dj _ _ (om (.ref z) (.ref f.objs.size) >>= _) _ _ _;refine ai ?_;unfold om;have z6:xh (f.push {cls:=.type "tuple",data:=.seq #[x,y]}) z TI TO .ellipsis:=ar _ z5;refine ai (km z6 (by simp) λ g7 Z s7=>?_)
 replace Z:xh g7 z TI TO (rawInt f.objs.size):=Z
 refine km Z (by simp) λ N L s8=>?_
 replace L:xh N z TI TO (rawInt f.objs.size):=L
 have M:∀ c o,c≠z->f.get? c=some o->N.get? c=some o:=λ c o n e=>s8.extBut _ _ n (s7.extBut _ _ n (ar _ e));have t8:yd N f.objs.size x y:=s8.extBut _ _ (ja p) (s7.extBut _ _ (ja p) (ck _ rfl));rw[sz]at L t8;refine bg ⟨_,rfl,?_⟩;show Q (.ref f.objs.size) _;rw[sz];exact hQ x y N _ px py L (M _ _ d.zTO.symm J) (D1.frame _ _ _ a0 λ b m o e=>M b o (λ q=>d.z1 (q ▸ m)) e) (O.frame _ _ _ B λ b m o e=>M b o (λ q=>d.z2 (q ▸ m)) e) t8 λ c o n I c3 S e=>M c o n (k5 c o n I c3 S e)
end
def kCA(b r:Bool)(a c:av)(xs ys:Array au) :
  Meets (AA.«zip.__new__» ⟨[.type "zip",.ref a,.ref c],[]⟩) (λ _ R s=>SqOf b s.heap a xs/\SqOf r s.heap c ys /\
   ∀(l j f n v:iV),l=s.heap.push {cls:=.type (zE b),data:=.fields #[.ref a,.int 0 0]}->j=l.push {cls:=.type (zE r),data:=.fields #[.ref c,.int 0 0]} ->
    f=j.push {cls:=.type "tuple",data:=.seq #[.ref s.heap.objs.size,.ref l.objs.size]}->n=f.push {cls:=.type "tuple",data:=.seq #[.none,.none]} ->
    v=n.push {cls:=.type "zip",data:=.fields #[.none,.bool false,.bool false,.ref j.objs.size,.ref f.objs.size]}->R (.ok (.ret (.ref n.objs.size))) {s with heap:=v}) :=
 .of_wp λ x w A R s h=>by
  obtain⟨hp,g,d,tk,os⟩:=s;obtain⟨q,i,h⟩:=h;have u:=sub_zip;have p:SqOf b (Ar ⟨hp,g,d,tk,os⟩) a xs:=q;have m:SqOf r (Ar ⟨hp.push {cls:=.type (zE b),data:=.fields #[.ref a,.int 0 0]},g,d,tk,os⟩) c ys:=i.at λ o e=>ar _ e;have h:=h _ _ _ _ _ rfl rfl rfl rfl rfl
  wp_walk using bQ p,bQ m
  exact⟨_,rfl,h⟩
section
variable {prog:eX} {w:iN} {A:fk} {E:au->az->Prop} {s:az}
def kBW{j m:Bool}{g d:av}{xs ys:Array au}{Q:au->az->Prop}(h1:SqOf j s.heap g xs)(T:SqOf m s.heap d ys)
  (h:∀ h',xh h' (s.heap.objs.size+4) (s.heap.objs.size+2) (s.heap.objs.size+3) .none->yd h' (s.heap.objs.size+2) (.ref s.heap.objs.size) (.ref (s.heap.objs.size+1)) ->
   yd h' (s.heap.objs.size+3) .none .none->ItOf j h' s.heap.objs.size g 0->ItOf m h' (s.heap.objs.size+1) d 0->(∀ c o,s.heap.get? c=some o->h'.get? c=some o)->Q (.ref (s.heap.objs.size+4)) {s with heap:=h'}) :
  dj (model prog w) A (call (.type "zip") [.ref g,.ref d]) Q E s:=by
 refine Dr GD (by decide) (F.typeCall_zip_2 _ _) (F.newCall_zip_2 _ _) (λ obj=>F.args_object_init_3 obj _ _) EZ (kCA j m g d xs ys) ⟨h1,T,?_⟩;intro a f i p b G u B v N;have C:a.objs.size=s.heap.objs.size+1:=by rw[G];exact ir ..
 have D:f.objs.size=s.heap.objs.size+2:=by rw[u,ir,C]
 have q:i.objs.size=s.heap.objs.size+3:=by rw[B,ir,D]
 have J:p.objs.size=s.heap.objs.size+4:=by rw[v,ir,q]
 have O:∀ c o,s.heap.get? c=some o->a.get? c=some o:=λ c o e=>by rw[G];exact ar _ e
 have M:∀ c o,a.get? c=some o->f.get? c=some o:=λ c o e=>by rw[u];exact ar _ e
 have y:∀ c o,f.get? c=some o->i.get? c=some o:=λ c o e=>by rw[B];exact ar _ e
 have n:∀ c o,i.get? c=some o->p.get? c=some o:=λ c o e=>by rw[v];exact ar _ e
 have l:∀ c o,p.get? c=some o->b.get? c=some o:=λ c o e=>by rw[N];exact ar _ e
 have r:xh b p.objs.size f.objs.size i.objs.size .none:=by rw[N];exact ck _ rfl
 have L:yd b i.objs.size .none .none:=l _ _ (by rw[v];exact ck _ rfl);have I:yd b f.objs.size (.ref s.heap.objs.size) (.ref a.objs.size):=l _ _ (n _ _ (by rw[B];exact ck _ rfl));have S:ItOf j b s.heap.objs.size g 0:=ItOf.at (h:=a) (by rw[G];exact ItOf.new j s.heap g) λ o e=>l _ _ (n _ _ (y _ _ (M _ _ e)));have H:ItOf m b a.objs.size d 0:=ItOf.at (h:=f) (by rw[u];exact ItOf.new m a d) λ o e=>l _ _ (n _ _ (y _ _ e));show _/\_;rw[D,q,J]at r;rw[C,D]at I;rw[q]at L;rw[C]at H;rw[J];exact⟨⟨_,r,rfl⟩,h _ r I L S H λ c o x=>l _ _ (n _ _ (y _ _ (M _ _ (O _ _ x))))⟩
end
def zap(n a b:Nat)(g:a<n)(i:b<n):ZAp (n+4) (n+2) (n+3) n (n+1) [n,a] [n+1,b]:=by
 have q:∀{x y u:Nat},x≠y->x≠u->¬ x∈[y,u]:=λ h1 f c=>by
  rcases eA.mp c with e | e
  ·exact h1 e
  ·exact f (cg.mp e)
 have d:∀{x y:Nat},x<y->y≠x:=λ h=>ja h;have e:∀{x y:Nat},x<y->x≠y:=λ h=>dw h
 exact⟨d (by omega),d (by omega),d (by omega),d (by omega),d (by omega),d (by omega),e (by omega),e (by omega),d (by omega),d (by omega),
  q (d (by omega)) (d (by omega)),q (d (by omega)) (d (by omega)),q (d (by omega)) (d (by omega)),q (d (by omega)) (d (by omega)),q (d (by omega)) (d (by omega)),q (e (by omega)) (d (by omega))⟩
section
variable {X:Cx}
end
section
variable {X:Cx} {tg iter el:iW} {ifs:List iW} {sc:wq} {pos py spos:Pos} {Nc:List Str} {js:List (Option Nat)} {wi:TI} {i:Nat} {y:Str}
def bC{g:TG}{bd:av->TB}(hx:X.xe=λ _ _=>False)(hc:X.calm=true)(hN:X.N.Nodup)(aa:X.N[i]?=some y)(Y:Loc X.env.scope y)(hi:PI X tg iter wi)(S:CS sc X.env.scope)(a7:cD js Nc X.N sc.names=true)
  (hg:∀ C s₂ H₂ fp pins,PG (cxC X Nc sc C s₂ H₂ fp pins) tg g)
  (n:∀ C s₂ H₂ fp pins D L,PTl (cxC X Nc sc C s₂ H₂ fp pins) (yE ifs (cxC X Nc sc C s₂ H₂ fp pins).env (do let _ <-call (.builtin "list.append") [.ref D,<-eval el (cxC X Nc sc C s₂ H₂ fp pins).env]) L) L (bd D))
  (hs:∀ x,foldedSetIterable iter X.env x=pure x:=by intro _;rfl)
  (a4:swapsWith (.ListComp el [⟨tg,iter,ifs,0⟩] sc pos) (some (.Name y py)) spos.line X.env=pure true:=by rfl)
  (hf:X.fn y=true\/X.env.scope.names.lookup y=some .local:=by first | exact .inl rfl | exact .inr rfl | assumption) :
  PS X (.Assign [.Name y py] (.ListComp el [⟨tg,iter,ifs,0⟩] sc pos) spos) (kJZ (tLC js wi g bd) (vU i)):=by
 intro pins s σ H D0 I h;have a9:closureFor sc X.env=pure (uW sc X.env):=yR λ y Y hf=>I.ok.has y.1 (.inl (S.free y Y hf));rw[Cs _ _ _ _ a4];refine ai (ya (ai ?_));show dj _ X.A (do let _ <-comprehension (.ListComp el [⟨tg,iter,ifs,0⟩] sc pos) sc X.env _ (newList []) false (eval iter X.env) (some (assign (.Name y py) X.env))) _ _ s
 refine ai (we (ox (use:=some (assign (.Name y py) X.env)) (Q:=λ _ u=>SP X pins D0 .next u) rfl hs a9 S.kind S.names
  (thn (hi pins s σ H _ I h) λ v s1 h1=>thn h1 λ af f h2=>?_)) (λ _ u hq=>bg (bg hq)) λ _ _ e=>e)
 obtain⟨it,fp,tn,J,H2,e,I2,T,a2,f2,hw⟩:=h2;subst e;have B:∀ b∈fp,b<f.heap.objs.size:=λ b n=>let ⟨o,ho,_⟩:=T.obj _ _ a2 b n;cj ho;refine iO (sj S.nocell (by intro y Y;simp at Y) (λ m j d=>?_) S.kind);dsimp only at j d ⊢;generalize O:f.heap.push {cls:=.type "list",dict:=none,data:=.seq ([]:List au).toArray}=G at j d ⊢;have ab:G.objs.size=f.heap.objs.size+1:=by rw[<-O,ir]
 have Z:f.heap.objs.size≠G.objs.size:=by omega
 have l:f.heap.objs.size<=G.objs.size:=by omega
 have U:∀ b o,f.heap.get? b=some o->m.get? b=some o:=λ b o e=>d.extBut b o (dw (cv (cj e) l)) (ar _ (O ▸ ar _ e));have a0:m.get? f.heap.objs.size=some {cls:=.type "list",dict:=none,data:=.seq ([]:List au).toArray}:=d.extBut _ _ Z (ar _ (O ▸ ck _ rfl));have new:ObjOk X.prog X.w (upd H2 f.heap.objs.size (.lst [])) m f.heap.objs.size (.lst []):=⟨iH _,[],_,.nil,a0⟩;have I4:=wR (js:=js) (Nc:=Nc) (tk:=f.toks+([]:List (Str×au)).length) I2 S f2 B a7 l (bf _) Z U j new;have hn:H2 f.heap.objs.size=none:=I2.fresh
 have f4:∀ b∈fp,zG (cxC X Nc sc G.objs.size f H2 fp pins) [] (upd H2 f.heap.objs.size (.lst [])) b:=λ b n=>by
  obtain⟨h0,h1,h2,h3,h4,h5⟩:=f2 b n;refine⟨?_,dw (cv (B b n) l),λ z=>?_,.inl n,λ x c z=>?_,λ p hp=>?_⟩
  ·rw[kL (dw (B b n))];exact h0
  ·rcases eA.mp (I2.stkSub b z) with q | q
   ·exact h1 q
   ·exact h2 q
  ·exact h4 x c (cC sc.names [] (λ z=>nomatch z) z)
  ·rcases bz.mp hp with z | z
   ·exact h5 p z
   ·exact absurd z (by simp)
 have a1:tn 0 m:=T.keep _ _ _ a2 λ b n o e=>U b o e
 have r:codeAny (model X.prog X.w) X.A (.compLoop (.ListComp el [⟨tg,iter,ifs,0⟩] sc pos) 0 (.ref it) (.ref f.heap.objs.size) (compEnvC sc (uW sc X.env) G.objs.size X.env))
   (compPost (model X.prog X.w) X.A X.xe (some (assign (.Name y py) X.env)) (λ _ u=>SP X pins D0 .next u) (.ref f.heap.objs.size) G.objs.size) {f with heap:=m,toks:=f.toks+([]:List (Str×au)).length}:=by
  refine yQ (X:=cxC X Nc sc G.objs.size f H2 fp pins) (.inl ⟨el,rfl⟩) hx hc (kEG _ _ _ _ _ _ _ _ _) T (hg _ _ _ _ _) (n _ _ _ _ _ _ _) I4 a1 f4 (hw _ hn) λ ac H' u I' q=>?_;obtain⟨m',a8,_⟩:=I'.loc;have IB:Inv X pins σ H' {u with heap:=u.heap}:=wS I2 f2 l I' (AO ..)
  have nC:H' G.objs.size=none:=I'.free;have fC:zG X pins H' G.objs.size:=I2.fpOk l nC;show dj _ X.A (assign (.Name y py) X.env (.ref f.heap.objs.size)) _ _ u;refine Bp (cL (v:=.ref f.heap.objs.size) IB hN aa Y rfl (λ a3 IC a6=>?_) hf);obtain⟨a,sb,ha⟩:=a6
  have aC:G.objs.size≠a:=by
   rcases ha with rfl | ha
   ·exact fC.2.1
   ·exact λ z=>fC.2.2.2.2.1 y a ha z.symm
  refine⟨m',a8.sameBut sb aC,λ h' a5=>?_⟩;exact⟨_,H',IC.turnedL (t':=a3.toks) (ch:=[G.objs.size]) (λ b o M e=>a5.extBut b o (λ z=>M (by simp[z])) e) (λ b M=>by rw[cg.mp M];exact fC),q⟩
 exact xX (.inl ⟨el,rfl⟩) rfl rfl r (T.self _ _ _ _ _ a1 r)
end
def kMW{k:Bool}{K:be}{a:av}{xs:List V}{g:TG}{f:TS}{D:Ends}{b:St}{H:Hp}(Pv:Nat->St->Hp->Prop)(h0:Pv 0 b H)(h:∀ i b H,i<=xs.length->Pv i b H->SqX K k H a xs)
  (r:∀ i x T b H,xs[i]?=some x->H T=none->Pv i b H->g (.ref T) b (upd H T (.tup [.int i,x])) λ σ2 H2=>f {D with nx:=Pv (i+1),ct:=Pv (i+1),bk:=D.nx} σ2 H2) (l:∀ b H,Pv xs.length b H->D.nx b H) :
  ∃ W:Nat->Nat->St->Hp->Prop,(∃ m,W 0 m b H)/\∀ i m b H,W i m b H ->
   ((Ite k K a).stop i H/\D.nx b H)\/((Ite k K a).go i H/\∃ N:St->Hp->Prop,(∀ σ' H',N σ' H'->∃ m',m'<m/\W (i+1) m' σ' H')/\∀ x H',(Ite k K a).yld i H x H'->g x b H' λ σ2 H2=>f {D with nx:=N,ct:=N,bk:=D.nx} σ2 H2):=by
 refine⟨λ i m b H=>m=xs.length-i/\i<=xs.length/\Pv i b H,⟨xs.length,by simp,iH _,h0⟩,?_⟩;rintro i m b H ⟨rfl,c,p⟩;have d:=h i b H c p;by_cases n:i<xs.length
 ·refine .inr ⟨⟨xs,xs[i],d,by simp[n]⟩,Pv (i+1),λ σ' H' q=>⟨xs.length-(i+1),by omega,rfl,by omega,q⟩,λ x H' s=>?_⟩
  obtain⟨T,j,u,rfl,o,rfl⟩:=s;exact r i j T b H (o xs d) u p
 ·have:i=xs.length:=by omega
  subst this;exact .inl ⟨⟨xs,d,rfl⟩,l b H p⟩
def kHU(bs:List Bool):(cf bs.length).all (λ i=>bs.getD i false)=bs.all id:=by
 rw[iX,vg,vg];constructor
 ·intro h b d
  obtain⟨i,a,rfl⟩:=eO.mp d;have:=h i (iP.mpr a);simpa[ao,a] using this
 ·intro h i a
  have c:i<bs.length:=iP.mp a;have:=h bs[i] (iR c);simpa[ao,c] using this
theorem kEE:∀{bs:List Bool}{a:List au},Vals (bs.map V.bl) a->a=bs.map BO
 | [],_,r=>by cases r;rfl
 | b::bs,_,r=>by
  cases r with
  | cons r1 r2 =>
   cases r1
   rw[kEE r2]
   rfl
section
variable {X:Cx}
def kJO{prog:eX}{w:iN}{A:fk}{bs:List Bool}{a:Array au}(e:a=(bs.map BO).toArray):TruthOf prog w A (λ i v=>a[i]?=some v) (λ i=>bs.getD i false):=by
 intro i v s Q E h q;rw[e]at h;have c:(bs.map BO)[i]?=some v:=by simpa using h
 rw[bb]at c
 cases z:bs[i]? with
 | none=>rw[z]at c;cases c
 | some b =>
  rw[z]at c
  cases c
  refine qe ?_;simpa[ao,z] using q
inductive mT(K:be)(xs:List V)(H:Hp)(Q:VK):Prop
 | mk:∀(a:av)(bs:List Bool),(xs=[.ref a])->(SqL K H a (bs.map V.bl))->(Q (.bl (bs.all id)) H)->mT K xs H Q
def dE(v:X.calm=true):zD X (.builtin "all") (mT X.K):=by
 intro j s D H B G Q I r h;obtain⟨a,bs,rfl,l,q⟩:=h;obtain⟨u,rfl,n⟩:=uX r;cases n
 obtain⟨d,m,p,C⟩:=I.list l;have f:=p.isList;have i:a≠s.heap.objs.size:=by obtain⟨o,e,_⟩:=f;exact dw (cj e)
 have c:=kEE m;refine call_all_walk (Bq f ⟨_,_,_,_,_,_,_,rfl,Walks.list (A:=X.A.in1) (I.ok.hd v) _ a i d.toArray,⟨⟨_,ck _ rfl,rfl,rfl⟩,f.push _⟩,kJO (bs:=bs) (by rw[c]),λ y tk x=>?_⟩);have e:d.toArray.size=bs.length:=by rw[c];simp
 rw[e,kHU];refine⟨.bl _,H,I.kept λ b o g=>x b o (λ z=>?_) (ar _ g),rfl,q⟩;rw[cg.mp z]at g;exact absurd (cj g) (rj _)
inductive mR(K:be)(xs:List V)(H:Hp)(Q:VK):Prop
 | mk:∀(a:av)(ns:List Int),(xs=[.ref a])->(SqL K H a (ns.map V.int))->(0<ns.length)->(∀ M,M∈ns->(∀ i∈ns,M<=i)->Q (.int M) H)->mR K xs H Q
def kJC(J:X.calm=true):zD X (.builtin "min") (mR X.K):=by
 intro m s O H c S Q I r h;obtain⟨a,G,rfl,o,f,q⟩:=h;obtain⟨u,rfl,x⟩:=uX r;cases x
 obtain⟨y,p,A,N⟩:=I.list o;have n:=fS p;obtain⟨c,e⟩:=n.allInts.items;have b:G=c.toList.map (·.1):=by rw[<-n.numsOf,<-nums_intItems,<-e]
 have d:0<c.size:=by
  have g:=f;rw[b,aj,iE]at g;exact g
 have i:=A.isList;rw[e]at i;refine min_intList (I.ok.hd J) i d λ v M tk D L=>?_;obtain⟨t,rfl⟩:=intItems_at D;obtain⟨h1,C⟩:=argBest_lt (numAt c) (c.size-1);refine⟨.int _,H,I.kept L,⟨_,rfl⟩,q _ ?_ λ a l=>?_⟩
 ·rw[b,numAt_eq];exact getD_mem (by rw[aj,iE];omega)
 ·rw[b]at l
  obtain⟨j,B,rfl⟩:=mem_getD l;rw[aj,iE]at B;rw[<-numAt_eq];exact C j (by omega)
end
section
variable {X:Cx} {tg iter el tg2 iter2:iW} {ifs ifs2:List iW} {sc:wq} {pos:Pos} {Nc:List Str} {js:List (Option Nat)} {wi wi2:TI} {g g2:TG}
def kRK(a:TI)(d:TG)(f:TB):TB:=λ N b H=>a b H λ J c=>zT J d f N b c
def kLJ{D:av}{l:TB}{L:Gk}{e:iW}(o:e=.ListComp el [⟨tg,iter,[],0⟩,⟨tg2,iter2,ifs2,0⟩] sc pos)(M:X.xe=λ _ _=>False)(S:X.calm=true)(hi:PI X tg2 iter2 wi2)(U:PG X tg2 g2)
  (n:∀ L,PTl X (yE ifs2 X.env (do let _ <-call (.builtin "list.append") [.ref D,<-eval el X.env]) L) L l) (u:∀ x,foldedSetIterable iter2 X.env x=pure x) :
  PTl X (kJR [] X.env iter2 (λ i=>.compStart e 1 i (.ref D) X.env) L) L (kRK wi2 g2 l):=by
 subst o;intro c s B H N I h;unfold kJR;refine ai (EY ?_);show dj _ _ (eval iter2 X.env >>= _) _ _ s;refine ai (thn (hi c s B H _ I h) λ v s1 h1=>?_);refine ai (ya (ai (wpAny_of_eq (u v) (ai (kr (thn h1 λ O p y=>?_))))));obtain⟨it,fp,Y,J,Z,e,Q,T,d,G,C⟩:=y;subst e;refine ai (wpAny_runOwn ?_)
 have b:codeAny (model X.prog X.w) X.A (.compLoop (.ListComp el [⟨tg,iter,[],0⟩,⟨tg2,iter2,ifs2,0⟩] sc pos) 1 (.ref it) (.ref D) X.env)
   (λ r f=>match r with | .ok _=>dj (model X.prog X.w) X.A (again L) (λ j f=>j=.again L/\∃ a g,Inv X c a g f/\N a g) X.xe f | .error e=>cameBackBy (model X.prog X.w) X.A X.env X.xe e f) p :=
  yQ (.inl ⟨el,rfl⟩) M S (kJM _ _ _ _ _ _ _ _ _ _ _ _) T U (n _) Q d G C λ a g f m q=>bg ⟨rfl,a,g,m,q⟩
 exact xX (.inl ⟨el,rfl⟩) rfl rfl b (T.self _ _ _ _ _ d b)
def rO{bd:av->TB}(hx:X.xe=λ _ _=>False)(hc:X.calm=true)(hi:PI X tg iter wi)(S:CS sc X.env.scope)(a3:cD js Nc X.N sc.names=true)
  (hg:∀ C s₂ H₂ fp pins,PG (cxC X Nc sc C s₂ H₂ fp pins) tg g) (a2:∀ C s₂ H₂ fp pins,PI (cxC X Nc sc C s₂ H₂ fp pins) tg2 iter2 wi2) (a6:∀ C s₂ H₂ fp pins,PG (cxC X Nc sc C s₂ H₂ fp pins) tg2 g2)
  (l:∀ C s₂ H₂ fp pins D L,PTl (cxC X Nc sc C s₂ H₂ fp pins) (yE ifs2 (cxC X Nc sc C s₂ H₂ fp pins).env (do let _ <-call (.builtin "list.append") [.ref D,<-eval el (cxC X Nc sc C s₂ H₂ fp pins).env]) L) L (bd D))
  (hs:∀ x,foldedSetIterable iter X.env x=pure x:=by intro _;rfl) (a1:∀ C s₂ H₂ fp pins x,foldedSetIterable iter2 (cxC X Nc sc C s₂ H₂ fp pins).env x=pure x:=by intro _ _ _ _ _ _;rfl) :
  PE X (.ListComp el [⟨tg,iter,[],0⟩,⟨tg2,iter2,ifs2,0⟩] sc pos) (tLC js wi g λ D=>kRK wi2 g2 (bd D)):=by
 intro pins s σ H Q I h;rw[eval_ListComp];have a5:closureFor sc X.env=pure (uW sc X.env):=yR λ y hy hf=>I.ok.has y.1 (.inl (S.free y hy hf));refine ox (use:=none) rfl hs a5 S.kind S.names (thn (hi pins s σ H _ I h) λ v s1 h1=>thn h1 λ a9 d h2=>?_);obtain⟨it,fp,tn,J,u,e,Z,T,Y,f2,hw⟩:=h2;subst e;have n:∀ b∈fp,b<d.heap.objs.size:=λ b l=>let ⟨o,ho,_⟩:=T.obj _ _ Y b l;cj ho;refine iO (sj S.nocell (by intro y hy;simp at hy) (λ i f a=>?_) S.kind);dsimp only at f a ⊢;generalize r:d.heap.push {cls:=.type "list",dict:=none,data:=.seq ([]:List au).toArray}=G at f a ⊢;have a7:G.objs.size=d.heap.objs.size+1:=by rw[<-r,ir]
 have M:d.heap.objs.size≠G.objs.size:=by omega
 have j:d.heap.objs.size<=G.objs.size:=by omega
 have B:∀ b o,d.heap.get? b=some o->i.get? b=some o:=λ b o e=>a.extBut b o (dw (cv (cj e) j)) (ar _ (r ▸ ar _ e));have O:i.get? d.heap.objs.size=some {cls:=.type "list",dict:=none,data:=.seq ([]:List au).toArray}:=a.extBut _ _ M (ar _ (r ▸ ck _ rfl));have new:ObjOk X.prog X.w (upd u d.heap.objs.size (.lst [])) i d.heap.objs.size (.lst []):=⟨iH _,[],_,.nil,O⟩;have I4:=wR (js:=js) (Nc:=Nc) (tk:=d.toks+([]:List (Str×au)).length) Z S f2 n a3 j (bf _) M B f new;have hn:u d.heap.objs.size=none:=Z.fresh
 have f4:∀ b∈fp,zG (cxC X Nc sc G.objs.size d u fp pins) [] (upd u d.heap.objs.size (.lst [])) b:=λ b l=>by
  obtain⟨h0,h1,h2,h3,h4,h5⟩:=f2 b l;refine⟨?_,dw (cv (n b l) j),λ z=>?_,.inl l,λ x c z=>?_,λ p hp=>?_⟩
  ·rw[kL (dw (n b l))];exact h0
  ·rcases eA.mp (Z.stkSub b z) with q | q
   ·exact h1 q
   ·exact h2 q
  ·exact h4 x c (cC sc.names [] (λ z=>nomatch z) z)
  ·rcases bz.mp hp with z | z
   ·exact h5 p z
   ·exact absurd z (by simp)
 have U:tn 0 i:=T.keep _ _ _ Y λ b l o e=>B b o e
 have m:codeAny (model X.prog X.w) X.A (.compLoop (.ListComp el [⟨tg,iter,[],0⟩,⟨tg2,iter2,ifs2,0⟩] sc pos) 0 (.ref it) (.ref d.heap.objs.size) (compEnvC sc (uW sc X.env) G.objs.size X.env))
   (compPost (model X.prog X.w) X.A X.xe none (EP X pins σ Q) (.ref d.heap.objs.size) G.objs.size) {d with heap:=i,toks:=d.toks+([]:List (Str×au)).length}:=by
  refine yQ (X:=cxC X Nc sc G.objs.size d u fp pins) (.inl ⟨el,rfl⟩) hx hc (kJN _ _ _ _ _ _ _ _ _ _ _ _) T (hg _ _ _ _ _)
   (kLJ (X:=cxC X Nc sc G.objs.size d u fp pins) rfl hx hc (a2 _ _ _ _ _) (a6 _ _ _ _ _) (λ L=>l _ _ _ _ _ _ L) (a1 _ _ _ _ _)) I4 U f4 (hw _ hn) λ a8 H' s' I' q=>?_
  obtain⟨m',a4,_⟩:=I'.loc;exact⟨m',a4,λ h' a0=>⟨.ref d.heap.objs.size,H',wS Z f2 j I' a0,rfl,q⟩⟩
 exact xX (.inl ⟨el,rfl⟩) rfl rfl m (T.self _ _ _ _ _ U m)
end
open AutoSeq1 (wpAny_loadPart')
def kHH(l:av)(a:Array au)(n:Nat)(I:Option av)(J:Array (Option au))(x:au)(e:au->Bool)(j:Nat)(S:j<a.size)(u:e a[j]=true)(B:∀ m (O:m<a.size),m<j->e a[m]=false) :
  Meets (AA.«tuple.index» ⟨[.ref l,x],[]⟩) (λ A R s=>s.heap.get? l=some {cls:=.type "tuple",dict:=I,data:=.seq a n,slots:=J}/\(∀ y,y∈a->Em A.in1 s y x (e y))/\R (.ok (.ret (.int j s.toks))) {s with toks:=s.toks+1}) :=
 .of_wp λ o w A R s h=>by
  obtain⟨hp,g,d,tk,os⟩:=s;obtain⟨H,N,h⟩:=h
  wp_walk using AB H
  have D:∀(f:Nat->Option ux×PUnit->Sem (ForInStep (Option ux×PUnit)))(Q:Option ux×PUnit->az->Prop)(E:au->az->Prop)(v:az),
    dj (model o w) A.in1 (forIn (AJ 0 a.size) ((none:Option ux),Ge) f) Q E v->dj (model o w) A.in1 (forIn [:min a.size a.size] ((none:Option ux),Ge) f) Q E v:=λ f Q E v z=>by
   rw[sk];simpa[Ab] using z
  refine D (λ i __s=>match a[i]? with
      | some y=>do
       if <-eqBool y x then do
         let r <-retInt (i:Nat)
         pure (yp (some r,()))
        else pure (je (none,()))
      | _=>pure (je (none,()))) _ _ _ ?_
  refine Ah _ (λ rest b C=>b.1=none/\C=⟨hp,g,d,tk,os⟩/\∃ i,i<=j/\rest=AJ i (a.size-i)) _ ?_ ?_ _ _ ⟨rfl,rfl,0,iH _,by simp⟩
  ·rintro y rest b C ⟨G,rfl,i,L,q⟩
   have p:i<a.size:=by omega
   rw[show a.size-i=(a.size-(i+1))+1 by omega,wx]at q;injection q with e1 e2
   subst e1;have M:a[y]?=some a[y]:=by simp[p]
   simp only[M];refine ai (N _ (Bu p) o w _ _ ?_);by_cases c:y=j
   ·subst c
    rw[u]
    wp_walk
    exact⟨_,rfl,h⟩
   ·rw[B y p (by omega)]
    wp_walk
    exact⟨rfl,rfl,y+1,by omega,e2⟩
  ·rintro b C ⟨G,rfl,i,L,q⟩
   have:jb ([]:List Nat)=a.size-i:=by rw[q,List.length_range']
   simp at this;omega
section
variable {X:Cx}
inductive kFG(K:be)(x:V)(vs:List V)(H:Hp)(Q:VK):Prop
 | mk:∀(l:av)(ns:List Int)(n:Int)(j:Nat),(x=.ref l)->(vs=[.int n])->(SqT K H l (ns.map V.int))->(cJ ns n j)->(Q (.int j) H)->kFG K x vs H Q
def cX:MtM X "tuple.index" (kFG X.K):=by
 intro b s L H x O v M Q I A i h;obtain⟨l,N,n,j,rfl,rfl,C,p,q⟩:=h;cases A
 obtain⟨u,rfl,t,rfl⟩:=i.one;obtain⟨a,r,⟨⟨cls,B,dt,G⟩,f,d,m,c⟩,J⟩:=I.tuple C;simp only at d c;subst d c;obtain⟨h1,D,g⟩:=dC r p;refine Af F.slot_tuple_index ⟨_,f,rfl⟩ F.entry_tuple_index (F.args_tuple_index_2 _ _) (kHH l a.toArray m B G (.int n t) (dU n) j h1 D g) ⟨f,λ y o=>(vB r n t y o).at _ _,?_⟩;exact⟨.int j,H,I.tok _,⟨_,rfl⟩,q⟩
end
def qN{N P:List Str}{f:wq}(a:f.kind=.function:=by rfl)(b:f.isCoroutine=false:=by rfl)(c:f.isGenerator=false:=by rfl)(d:N.Nodup:=by decide +kernel)(e:N.take P.length=P:=by rfl)
  (g:∀ x∈P,f.names.lookup x=some .local\/f.names.lookup x=some .cell:=by decide +kernel) (h:∀ y∈f.names,y.2≠.free:=by decide +kernel):FnScope N P f:=⟨a,b,c,d,e,g,h⟩
def kVC{α:Type}{a:List α}(h:a.length=0):a=[]:=pe.mp h
def kPR{α:Type}{b:List α}{n:Nat}(h:b.length=n+1):∃ a r,b=a::r/\r.length=n:=by
 cases b with
 | nil=>exact nomatch h
 | cons a r=>exact⟨a,r,rfl,Nat.succ.inj h⟩
def kVB{α:Type}{b:List α}(h:b.length=1):∃ a,b=[a]:=by
 obtain⟨a,r,rfl,g⟩:=kPR h;exact⟨a,by rw[kVC g]⟩
def kVA{α:Type}{c:List α}(h:c.length=2):∃ a b,c=[a,b]:=by
 obtain⟨a,r,rfl,g⟩:=kPR h;obtain⟨b,rfl⟩:=kVB g;exact⟨a,b,rfl⟩
def kUZ{α:Type}{d:List α}(h:d.length=3):∃ a b c,d=[a,b,c]:=by
 obtain⟨a,r,rfl,g⟩:=kPR h;obtain⟨b,c,rfl⟩:=kVA g;exact⟨a,b,c,rfl⟩
def kWI{α:Type}{f:List α}(h:f.length=4):∃ a b c d,f=[a,b,c,d]:=by
 obtain⟨a,r,rfl,g⟩:=kPR h;obtain⟨b,c,d,rfl⟩:=kUZ g;exact⟨a,b,c,d,rfl⟩
section
variable {P:eX} {w:iN} {K:be} {mg:Str->Option au} {base:iV}
def qO{n:Str}{st:oz}{N ps:List Str}{k:Nat}{sp:Sp}(X:∃ h:iV,K.In h/\h.Ns gn mg)(d:jK K n st)(S:FnScope N ps (kO st))
  (c:∀(f:av)(a:au)(A:fk)(outer:List Env)(s:az)(H:Hp)(i:List V)(Q:VK)(E:XK),N.Nodup->Room k (A.deeper (envOfC n (kO st) s.heap.objs.size f a))->sp i H Q E ->
   ∃ t,PSs (qX CX0 P w K mg base N n (kO st) f a A outer s H E).nox (zK st) t/\t {nx:=λ _ H'=>Q .non H',rt:=Q} (start N i) H)
  (len:∀ i H Q E,sp i H Q E->i.length=ps.length:=by intro _ _ _ _ h;first | (cases h;subst_vars;rfl) | (rcases h with h | h<;>cases h<;>subst_vars<;>rfl))
  (b:∀(kV l o:au)(m:Option av)(a ct:au)(j:List au),j.length=ps.length->bindArgs (vd n n (vM st) (zK st) (kO st) .none kV l o m a ct) ⟨j,[]⟩=pure (ps.zip j):=by
   intro _ _ _ _ _ _ j hl;first | (obtain⟨_,rfl⟩:=kVB hl;rfl) | (obtain⟨_,_,rfl⟩:=kVA hl;rfl) | (obtain⟨_,_,_,rfl⟩:=kUZ hl;rfl) | (obtain⟨_,_,_,_,rfl⟩:=kWI hl;rfl) | (obtain⟨_,_,_,_,_,rfl⟩:=len5 hl;rfl) | (obtain rfl:=kVC hl;rfl)):Own.Has P w K mg base n ps (k+1) sp:=by
 obtain⟨h,x,g⟩:=X;exact kTJ x g d (λ f p F=>F.ok S len λ a A outer s H i Q E=>c f a A outer s H i Q E S.nd) b
end
inductive nU(K:be)(vs:List V)(H:Hp)(Q:VK)(E:XK):Prop
 | mk (a:av) (ns:List Int):vs=[.ref a]->SqL K H a (ns.map V.int)->ns.length<=63->(∀ H',Q (.bl true) H')->nU K vs H Q E
structure Cn where
 P:eX
 w:iN
 K:be
 mg:Str->Option au
 base:iV
instance:Nonempty Cn:=⟨⟨default,⟨λ _ _=>0,{strHash:=λ _=>0,shareClass:=id,mergeTok:=id,idOf:=λ _=>0,idOfShared:=λ _ _=>0,followText:=λ _=>true,idOfImm:=λ _=>0}⟩,default,λ _=>none,default⟩⟩
section
variable {X:Cx} {e:iW} {es:List iW} {te:TE} {t:TA} {p pos pos':Pos} {x:Str}
def pf{j k:Nat}{ps:List Str}{sp:Sp}(h:Own.Has X.prog X.w X.K X.mg X.base x ps j sp)(c:Room k X.A)(f:PA X (e::es) t)(d:j<=k:=by decide)(g:Gl X x:=by rfl)
  (a:(x == ("__debug__" : Str))=false:=by decide) (i:starEach (e::es) X.env=(false,eval e X.env)::starEach es X.env:=by rfl) (b:(backTo pos (starEach es X.env)).any (·.1)=false:=by rfl) :
  PE X (.Call (.Name x p) (e::es) [] pos) (kJY sp [] E0 t):=Own.pe_has h (c.mono d) g f a i b
def pst(i:Nat)(c:X.N.Nodup)(b:PE X e te)(hi:X.N[i]?=some x:=by rfl)(a:Loc X.env.scope x:=by first | exact ui rfl | exact EM rfl)(d:swapsWith e (some (.Name x pos')) pos.line X.env=pure false:=by rfl)
  (f:X.fn x=true\/X.env.scope.names.lookup x=some .local:=by first | exact .inl rfl | exact .inr rfl):PS X (.Assign [.Name x pos'] e pos) (kJZ te (vU i)):=kSH c hi a b d f
def pgn(i:Nat)(a:X.N.Nodup)(hi:X.N[i]?=some x:=by rfl)(b:Loc X.env.scope x:=by first | exact ui rfl | exact EM rfl)(c:X.fn x=true\/X.env.scope.names.lookup x=some .local:=by first | exact .inl rfl | exact .inr rfl):PG X (.Name x pos) (vU i):=jT a hi b c
def rK{b iter:iW}{a:List oz}{c:TI}{g:TG}{d:TS}(hi:PI X b iter c)(h:PG X b g)(i:PSs X a d)(hp:Fn (model X.prog X.w) X.A X.env X.xe:=by exact Ea)(f:X.calm=true:=by rfl)
  (j:∀ x,foldedSetIterable iter X.env x=pure x:=by intro _;rfl):PS X (.For b iter a [] pos) (kUG c g d):=kSI hp f hi h i j
variable {a b c d:iW} {ta tb tc td:TE}
def pix{r:R2}(c:IxR X r)(f:PE X a ta)(d:PE X b tb)(g:kGT b:=by exact λ _ _=>rfl):PE X (.Subscript a b pos) (tOp r ta tb):=kUU c f d g
def p1(b:PE X a ta)(h1:starEach [a] X.env=(false,eval a X.env)::starEach [] X.env:=by rfl):PA X [a] (kEI ta kRV):=kE b kU h1
def p2(d:PE X a ta)(c:PE X b tb)(h1:starEach [a,b] X.env=(false,eval a X.env)::starEach [b] X.env:=by rfl)(f:starEach [b] X.env=(false,eval b X.env)::starEach [] X.env:=by rfl):PA X [a,b] (kEI ta (kEI tb kRV)):=kE d (kE c kU f) h1
def nd1{a:Str}:[a].Nodup:=gh.mpr ⟨ml,yx⟩
def nd2{a b:Str}(h:a≠b):[a,b].Nodup:=gh.mpr ⟨λ m=>h (cg.mp m),nd1⟩
def nd3{a b c:Str}(h:a≠b)(h':a≠c)(d:b≠c):[a,b,c].Nodup:=gh.mpr ⟨λ m=>(eA.mp m).elim h λ m=>h' (cg.mp m),nd2 d⟩
def pgc(i:Nat)(a:X.N.Nodup:=by first | exact nd1 | exact nd2 (by decide) | exact nd3 (by decide) (by decide) (by decide))(hi:X.N[i]?=some x:=by rfl)(b:Loc X.env.scope x:=by first | exact ui rfl | exact EM rfl)(c:X.fn x=true\/X.env.scope.names.lookup x=some .local:=by first | exact .inl rfl | exact .inr rfl):PG X (.Name x pos) (vU i):=jT a hi b c
section
variable {o:iW} {to:TE} {r:V->List V->Hp->VK->Prop} {apos cpos:Pos}
def jU{n:Str}{id:String}(d:Slot "list" n id)(g:typeOf (.builtin id)=pure (.type "method_descriptor"))(l:MtR X id r)(i:PE X o to)(h:PA X (e::es) t)
  (c:attributeBase o n X.env (eval o X.env)=eval o X.env:=by rfl)
  (f:((backTo cpos (starEach (e::es) X.env)).all (λ x=>!x.1) && (backToKw cpos (keywordEach [] X.env)).all (λ x=>x.1.isSome)
   && decide ((e::es).length+([]:List Ef).length+(if([]:List Ef).isEmpty then 0 else 1)<30))=true:=by rfl)
  (b:(apos.endLine == cpos.line)=true:=by rfl) (j:starEach (e::es) X.env=(false,eval e X.env)::starEach es X.env:=by rfl) (a:(backTo cpos (starEach es X.env)).any (·.1)=false:=by rfl) :
  PE X (.Call (.Attribute o n apos) (e::es) [] cpos) (tBM X.K "list" r to t):=kAN PySem.F.plainAttrs_list d g l i h c f b j a
end
end
def snoc{α:Type}{xs:List α}{x y:α}{i:Nat}(h:(xs++[x])[i]?=some y):(i<xs.length/\xs[i]?=some y)\/(i=xs.length/\some x=some y):=by
 rcases iY i xs.length with c | c
 ·rw[bq c]at h
  exact .inl ⟨c,h⟩
 ·have e:i=xs.length:=by
   have:=(ak.mp h).1;rw[bu,fj]at this;omega
  rw[e,dr]at h;exact .inr ⟨e,h⟩
def mM:entryFor table "dict_itemiterator.__iter__" = some AA.«dict_keyiterator.__iter__»:=by first | (rw[<-F.entry_dict_keyiterator_iter];rfl) | kernel_rfl | rfl | decide +kernel
section
variable {prog:eX} {w:iN} {A:fk} {E:au->az->Prop} {s:az}
def nB{it d:av}{i n ep:Nat}{ok c:au}{Q:au->az->Prop}(b:IsItemIter s.heap it d i n ep ok c)(h:Q (.ref it) s):dj (model prog w) A (pyIter (.ref it)) Q E s:=by
 have a:s.TypeIs (.ref it) "dict_itemiterator":=⟨_,b,rfl⟩;refine wpAny_pyIter_slot a Av (ky Av a mM ?_ (F.args_dict_itemiterator_iter_1 _));show dj _ _ (ret (.ref it)) _ _ s;exact bg ⟨_,rfl,"dict_itemiterator",_,a,F.slot_dict_itemiterator_next.lookup,h⟩
end
def kTD{P:eX}{w:iN}{k:Key}{u:au}(h:(qH P w).is k u=true):RelV (kV k) u:=by
 rw[kDI]at h;rcases qZ h with⟨i,t,rfl,rfl⟩ | ⟨x,t,rfl,rfl⟩
 ·exact⟨t,rfl⟩
 ·exact⟨t,rfl⟩
def Itm(d:av)(o:Obj):It :=
 ⟨λ i H=>∃ a b,H d=some (.frz o (.dK a))/\a[i]?=some b,λ i H v c=>∃ T b,H T=none/\v=.ref T/\(∀ a,H d=some (.frz o (.dK a))->a[i]?=some b)/\c=upd H T (.tup [kV b.1,b.2]),λ i H=>∃ a,H d=some (.frz o (.dK a))/\a.length=i⟩
def kDP{P:eX}{w:iN}{H:Hp}{h:iV}{d:av}{o:Obj}{b:Array CI}{ep:Nat}{kvs:List (Key×V)}(ok:HOk P w H h)(e:H d=some (.frz o (.dK kvs)))(g:o.data=.dict b ep):∃ vs,KV kvs vs/\h.DictAt (qH P w) d vs ep/\vs.length=b.size:=by
 obtain⟨f,_,_,vs,c,m,l,j,i,x,a,k,p,nd⟩:=ok d _ e;rw[f]at i;cases i
 rw[g]at a;injection a with z1 z2
 subst z1;subst z2;exact⟨vs,c,⟨o,b,f,x,g,k,p,nd⟩,by rw[<-p.length];simp⟩
def KV.at'{kvs:List (Key×V)}{c:List (Key×au)}(r:KV kvs c){i:Nat}{b:Key×V}{p:Key×au}(h1:kvs[i]?=some b)(a:c[i]?=some p):b.1=p.1/\RelV b.2 p.2:=by
 induction r generalizing i with
 | nil=>simp at h1
 | cons h t ih =>
  cases i with
  | zero =>
   simp at h1 a;subst h1;subst a;exact h
  | succ i=>exact ih (by simpa using h1) (by simpa using a)
def kCH{P:eX}{w:iN}{K:be}{B:List iW} {x1} {J:Pos} (d it:av) (o:Obj) {es:Array CI} {ep:Nat} (U:o.data=.dict es ep):Turn P w K (.Tuple B x1 J) (Itm d o) [it] it (λ i h=>∃ ok ov,IsItemIter h it d i es.size ep ok ov) where
 mem:=by simp
 obj:=λ i h st b c=>by
  obtain⟨ok,ov,a⟩:=st;rw[cg.mp c];exact⟨_,a,λ v z=>by cases z⟩
 keep:=λ i h h' st kk=>by
  obtain⟨ok,ov,a⟩:=st;exact⟨ok,ov,kk it (by simp) _ a⟩
 item:=by
  intro X G Q M hc i n s σ H E I S st Y;subst G Q M;obtain⟨ok,ov,a⟩:=st;obtain⟨A,Z,C,T⟩:=Y;obtain⟨vs,f,O,D⟩:=kDP I.hok C U;have hi:i<A.length:=(ak.mp T).1;obtain⟨⟨k',u⟩,hu⟩ : ∃ p,vs[i]?=some p:=⟨vs[i]'(by rw[<-f.length];exact hi),ae _⟩;have g:=f.at' T hu;rw[<-D]at a;refine wpAny_pyNext_items_item a O hu λ key h' r ho hT hz hk=>?_;refine⟨_,rfl,wpAny_letOwnedTupleGo_items ho λ h2 N l=>?_⟩;have m:it<s.heap.objs.size:=cj a;have L:h2.get? s.heap.objs.size=some {cls:=.type "tuple",data:=.seq #[key,u]}:=l.extBut _ _ (ja m) hT
  obtain⟨I2,n2⟩:=I.handed (x:=kV Z.1) (y:=Z.2) (u:=key) (v:=u) (t':=s.toks) (ch:=[it]) (by rw[g.1];exact kTD r) g.2 L (λ b o c q=>l.extBut b o (λ z=>c (by simp[z])) (hk b o (λ z=>c (by simp[z])) q)) S
   (λ b c=>by rw[cg.mp c];exact m)
  refine⟨.ref s.heap.objs.size,_,I2,rfl,⟨_,Z,I.hok.fresh (bf _),rfl,λ ks j=>?_,rfl⟩,⟨_,_,by rw[<-D];exact N⟩,n2⟩;rw[C]at j;cases j
  exact T
 done:=by
  intro X G Q M hc i n s σ H E I S st Y;subst G Q M;obtain⟨ok,ov,a⟩:=st;obtain⟨A,C,hl⟩:=Y;obtain⟨vs,f,O,D⟩:=kDP I.hok C U;rw[<-D]at a;refine wpAny_pyNext_items_end (I.ok.hd hc) a O (jr (by rw[<-f.length,hl];exact bf _)) λ h' eb=>⟨rfl,I.turnedL (t':=s.toks) (ch:=[it]) (λ b o c q=>eb b o (λ z=>c (by simp[z])) q) λ b c=>S b c⟩
 self:=λ _ _ _ _ _ st h=>by
  obtain⟨ok,ov,a⟩:=st;exact nB a h
section
variable {X:Cx}
inductive kFY(R:It->Hp->Prop)(x:V)(H1:Hp):Prop
 | mk:∀ d kvs,(x=.ref d)->(((H1 d=some (.dK kvs)/\∀ o,R (Itm d o) (upd H1 d (.frz o (.dK kvs))))\/∃ o,H1 d=some (.frz o (.dK kvs))/\R (Itm d o) H1))->kFY R x H1
def kTI(a:TE):TI:=λ c H R=>a c H λ x b=>kFY R x b
def kAL{o:iW}{T:TE}{f i y:Pos}{D:List iW} {x1} (ho:PE X o T)
  (m:attributeBase o "items" X.env (eval o X.env)=eval o X.env:=by rfl) (l:(f.endLine == i.line)=true:=by rfl):PI X (.Tuple D x1 y) (.Call (.Attribute o "items" f) [] [] i) (kTI T):=by
 intro j s Z H R I h;refine wpAny_Call_method0_late m l (thn (ho j s Z H _ I h) λ v c ⟨x,H1,M,r1,d,n,ex,q1⟩=>?_);subst ex;obtain rfl:v=jx d:=r1
 have fr:∃ a B,Inv X j Z B c/\B d=some (.frz a (.dK n))/\R (Itm d a) B:=by
  rcases q1 with⟨e,q⟩ | ⟨a,e,q⟩
  ·obtain⟨z,Q,G,J,p⟩:=kNG M.hok e
   obtain⟨a,es,L,h1,r⟩:=id p;exact⟨a,_,uU (t':=c.toks) (ob:=.frz a (.dK n)) M (by rw[e];exact tm) ⟨rfl,λ _ _=>rfl⟩ ⟨a,h1⟩ ⟨h1,z,Q,G,J,p⟩,kA,q a⟩
  ·exact⟨a,H1,M,e,q⟩
 obtain⟨a,B,C,S,hR⟩:=fr;obtain⟨h1,z,Q,a0,U,N⟩:=C.hok d _ S;obtain⟨a1,es,L,A,O,g,_⟩:=id N;rw[h1]at A
 cases A
 obtain⟨G,J,p,lv⟩:=kDP C.hok S g;have Y:=p.dictOf.typeIs (s:=c);refine⟨"dict","dict.items",F.plainAttrs_dict,Du,F.type_dict_items,Y,λ b q=>?_,?_⟩
 ·cases q
  exact⟨a,h1,O.2.1⟩
 refine CW rfl (PySem.evalArgs_none (call_meetsIn Du Y F.entry_dict_items (F.args_dict_items_1 _) (meets_dict_items (qH X.prog X.w) d Q) ⟨⟨G,p.dictOf⟩,?_⟩));refine wpAny_pyIter_items (knd:=qH X.prog X.w) (v:=c.heap.objs.size) (d:=d) (kvs:=G) (ep:=L) ⟨_,ck _ rfl,rfl,rfl⟩ (p.push _) ?_;have hk:∀ b u,c.heap.get? b=some u->((c.heap.push {cls:=.type "dict_items",data:=.fields #[.ref d]}).push {cls:=.type "dict_itemiterator",data:=.fields #[.none,.bool false,.ref d,.int 0 0,.int G.length 0,.int L 0,.none,.none]}).get? b=some u:=λ b u e=>ar _ (ar _ e);have hz:(c.heap.push {cls:=.type "dict_items",data:=.fields #[.ref d]}).objs.size=c.heap.objs.size+1:=ir ..;refine⟨_,[(c.heap.push {cls:=.type "dict_items",data:=.fields #[.ref d]}).objs.size],_,_,B,rfl,C.kept (t':=c.toks) hk,kCH d _ a g,⟨.none,.none,?_⟩,λ b hb=>?_,hR⟩
 ·rw[<-lv]
  exact ck _ rfl
 ·rw[cg.mp hb,hz]
  exact C.fpOk (by omega) (C.hok.fresh (by omega))
end
def fW{d:av}{o:Obj}{kvs:List (Key×V)}{g:TG}{bd:TB}{f:St->Hp->Prop}{a:St}{H:Hp}(Pv:Nat->St->Hp->Prop)(h0:Pv 0 a H)(h:∀ i a H,i<=kvs.length->Pv i a H->H d=some (.frz o (.dK kvs)))
  (u:∀ i kv T a H,kvs[i]?=some kv->H T=none->Pv i a H->g (.ref T) a (upd H T (.tup [kV kv.1,kv.2])) λ σ2 H2=>bd (Pv (i+1)) σ2 H2) (j:∀ a H,Pv kvs.length a H->f a H):zT (Itm d o) g bd f a H:=by
 refine⟨λ i m a H=>m=kvs.length-i/\i<=kvs.length/\Pv i a H,⟨kvs.length,by simp,iH _,h0⟩,?_⟩;rintro i m a H ⟨rfl,b,p⟩;have c:=h i a H b p;by_cases l:i<kvs.length
 ·refine .inr ⟨⟨kvs,kvs[i],c,by simp[l]⟩,Pv (i+1),λ s n q=>⟨kvs.length-(i+1),by omega,rfl,by omega,q⟩,λ x n v=>?_⟩
  obtain⟨T,kv,y,rfl,r,rfl⟩:=v;exact u i kv T a H (r kvs c) y p
 ·have:i=kvs.length:=by omega
  subst this;exact .inl ⟨⟨kvs,c,rfl⟩,j a H p⟩
open PySem
section
variable {X:Cx}
def rN{o:iW}{b:TE}(g:PE X o b):PE X o (λ σ H Q=>∃ P:V->Hp->Prop,b σ H P/\∀ x H1,P x H1->Q x H1):=λ a s σ H Q I ⟨P,h,m⟩=>thn (g a s σ H P I h) λ v i ⟨x,H1,f,d,c⟩=>⟨x,H1,f,d,m x H1 c⟩
inductive kBD(R:It->Hp->Prop)(x:V)(H1:Hp):Prop
 | mk:∀ d kvs,(x=.ref d)->(Rd H1 d (.dK kvs))->(∀(o:Obj)(H4:Hp),H4 d=some (.frz o (.dK kvs))->(∀ b u,b≠d->H1 b=some u->H4 b=some u)->(H1 d=some (.dK kvs)\/H4=H1)->R (Itm d o) H4)->kBD R x H1
def kQA(a:TE):TI:=λ c H R=>a c H λ x b=>kBD R x b
def kHZ{o:iW}{n:TE}{a c i:Pos}{l:List iW} {x1} (B:PE X o n)
  (g:attributeBase o "items" X.env (eval o X.env)=eval o X.env:=by rfl) (f:(a.endLine == c.line)=true:=by rfl):PI X (.Tuple l x1 i) (.Call (.Attribute o "items" a) [] [] c) (kQA n):=by
 intro j s y H R I h;refine kAL (rN B) g f j s y H R I ⟨_,h,?_⟩;rintro x r ⟨d,m,rfl,v,q⟩;refine⟨d,m,rfl,?_⟩;rcases v with e | ⟨p,e⟩
 ·exact .inl ⟨e,λ o=>q o _ kA (λ b u A e=>by rw[kL A];exact e) (.inl e)⟩
 ·exact .inr ⟨p,e,q p r e (λ _ _ _ e=>e) (.inr rfl)⟩
end
def HoX(k:Bool)(xs:List V):HO:=match k with | true=>.lst xs | false=>.tup xs
def Itk(k:Bool)(K:be)(a:av):It:=match k with | true=>Itl K a | false=>Itt K a
theorem SqX.of{K:be}{k:Bool}{H:Hp}{a:av}{xs:List V}(h:H a=some (HoX k xs)):SqX K k H a xs:=by
 cases k
 ·exact SqT.of h
 ·exact SqL.of h
inductive iKY(k:Bool)(K:be)(R:It->Hp->Prop)(x:V)(H1:Hp):Prop
 | mk:∀ a,(x=.ref a)->(∃ xs,SqX K k H1 a xs)->(R (Itk k K a) H1)->iKY k K R x H1
def iK(k:Bool)(K:be)(a:TE):TI:=λ c H R=>a c H λ x b=>iKY k K R x b
section
variable {X:Cx} {tg:iW}
def kWH(k:Bool){l:iW}{c:TE}(d:PE X l c):PI X tg l (iK k X.K c):=by
 intro b s f H R I h;cases k
 ·exact yI (rN d) b s f H R I ⟨_,h,λ x g ⟨a,e,q,r⟩=>⟨a,e,q,r⟩⟩
 ·exact xW (rN d) b s f H R I ⟨_,h,λ x g ⟨a,e,q,r⟩=>⟨a,e,q,r⟩⟩
end
def kRR{k:Bool}{K:be}{a:av}{xs:List V}{g:TG}{b:TB}{j:St->Hp->Prop}{c:St}{H:Hp}(Pv:Nat->St->Hp->Prop)(h0:Pv 0 c H)(d:∀ i c H,i<=xs.length->Pv i c H->SqX K k H a xs)
  (h:∀ i x c H,xs[i]?=some x->Pv i c H->g x c H λ σ2 H2=>b (Pv (i+1)) σ2 H2) (f:∀ c H,Pv xs.length c H->j c H):zT (Itk k K a) g b j c H:=by
 cases k
 ·exact jM Pv h0 d h f
 ·exact jN Pv h0 d h f
def fO{X:Cx}{st:oz}:PS X st (λ _ _ _=>False):=λ _ _ _ _ _ _ h=>h.elim
section
variable {X:Cx} {tg iter kx vx:iW} {ifs:List iW} {sc:wq} {pos:Pos} {Nc:List Str} {js:List (Option Nat)} {wi:TI}
def pG(c a:iW)(env:Env)(b:au):Sem Unit:=do
 let kv <-eval c env
 let vv <-holding [kv] (eval a env)
 match b with
 | .ref d=>do
  standAt (have __src:=c.pos;{line:=__src.line,col:=__src.col,endLine:=a.pos.endLine,endCol:=a.pos.endCol})
  holding [kv,vv] (dictSet d kv vv)
 | _=>unsupported "internal:dictcomp"
def pR(f g d iter:iW)(b:List iW)(h:wq)(a:Pos)(it c:au)(env:Env) :
  compTurn (.DictComp f g [⟨d,iter,b,0⟩] h a) 0 it c env=(standAt iter.pos >>= λ _=>pyNext it >>= λ r=>match r with
   | none=>pure (.done .next)
   | some v=>letOwnedTupleGo d it v >>= λ _=>assign d env v >>= λ _=>yE b env (pG f g env c) (.compLoop (.DictComp f g [⟨d,iter,b,0⟩] h a) 0 it c env)):=by rfl
def tDC(js:List (Option Nat))(c:TI)(g:TG)(bd:av->TB):TE:=λ b H Q=>c b H λ J a=>∀ D,a D=none->zT J g (bd D) (λ _ d=>Q (.ref D) d) (dD js b) (upd a D (.dK []))
def kFM{g:TG}{bd:av->TB}(hx:X.xe=λ _ _=>False)(hc:X.calm=true)(hi:PI X tg iter wi)(S:CS sc X.env.scope)(a2:cD js Nc X.N sc.names=true)
  (hg:∀ C s₂ H₂ fp pins,PG (cxC X Nc sc C s₂ H₂ fp pins) tg g)
  (l:∀ C s₂ H₂ fp pins D L,PTl (cxC X Nc sc C s₂ H₂ fp pins) (yE ifs (cxC X Nc sc C s₂ H₂ fp pins).env (pG kx vx (cxC X Nc sc C s₂ H₂ fp pins).env (.ref D)) L) L (bd D))
  (hs:∀ x,foldedSetIterable iter X.env x=pure x:=by intro _;rfl) :
  PE X (.DictComp kx vx [⟨tg,iter,ifs,0⟩] sc pos) (tDC js wi g bd):=by
 intro pins s σ H Q I h;rw[Dv];have a4:closureFor sc X.env=pure (uW sc X.env):=yR λ y hy hf=>I.ok.has y.1 (.inl (S.free y hy hf));refine ox (use:=none) rfl hs a4 S.kind S.names (thn (hi pins s σ H _ I h) λ v s1 h1=>thn h1 λ a7 d U=>?_);obtain⟨it,fp,tn,J,Y,e,Z,T,a0,f2,hw⟩:=U;subst e;have n:∀ b∈fp,b<d.heap.objs.size:=λ b l=>let ⟨o,ho,_⟩:=T.obj _ _ a0 b l;cj ho;refine iO (sj S.nocell (by intro y hy;simp at hy) (λ i f a=>?_) S.kind);dsimp only at f a ⊢;generalize r:d.heap.push {cls:=.type "dict",dict:=none,data:=.dict #[]}=G at f a ⊢;have a5:G.objs.size=d.heap.objs.size+1:=by rw[<-r,ir]
 have B:d.heap.objs.size≠G.objs.size:=by omega
 have j:d.heap.objs.size<=G.objs.size:=by omega
 have u:∀ b o,d.heap.get? b=some o->i.get? b=some o:=λ b o e=>a.extBut b o (dw (cv (cj e) j)) (ar _ (r ▸ ar _ e));have M:i.get? d.heap.objs.size=some {cls:=.type "dict",dict:=none,data:=.dict #[]}:=a.extBut _ _ B (ar _ (r ▸ ck _ rfl))
 have new:ObjOk X.prog X.w (upd Y d.heap.objs.size (.dK [])) i d.heap.objs.size (.dK []):=by
  refine⟨iH _,beq_eq_false_iff_ne.mpr (ub (dw Z.big)),[],.nil,?_⟩;obtain⟨o,es,ep,h1,rest⟩:=Eb (knd:=qH X.prog X.w) d.heap;have U:(d.heap.push {cls:=.type "dict",dict:=none,data:=.dict #[]}).get? d.heap.objs.size=some {cls:=.type "dict",dict:=none,data:=.dict #[]}:=ck _ rfl;have h3:=h1.symm.trans U;exact⟨o,es,ep,M.trans h3.symm,rest⟩
 have I4:=wR (js:=js) (Nc:=Nc) (tk:=d.toks+([]:List (Str×au)).length) Z S f2 n a2 j (bf _) B u f new;have hn:Y d.heap.objs.size=none:=Z.fresh
 have f4:∀ b∈fp,zG (cxC X Nc sc G.objs.size d Y fp pins) [] (upd Y d.heap.objs.size (.dK [])) b:=λ b l=>by
  obtain⟨h0,h1,U,h3,h4,h5⟩:=f2 b l;refine⟨?_,dw (cv (n b l) j),λ z=>?_,.inl l,λ x c z=>?_,λ p hp=>?_⟩
  ·rw[kL (dw (n b l))];exact h0
  ·rcases eA.mp (Z.stkSub b z) with q | q
   ·exact h1 q
   ·exact U q
  ·exact h4 x c (cC sc.names [] (λ z=>nomatch z) z)
  ·rcases bz.mp hp with z | z
   ·exact h5 p z
   ·exact absurd z (by simp)
 have O:tn 0 i:=T.keep _ _ _ a0 λ b l o e=>u b o e
 have m:codeAny (model X.prog X.w) X.A (.compLoop (.DictComp kx vx [⟨tg,iter,ifs,0⟩] sc pos) 0 (.ref it) (.ref d.heap.objs.size) (compEnvC sc (uW sc X.env) G.objs.size X.env))
   (compPost (model X.prog X.w) X.A X.xe none (EP X pins σ Q) (.ref d.heap.objs.size) G.objs.size) {d with heap:=i,toks:=d.toks+([]:List (Str×au)).length}:=by
  refine yQ (X:=cxC X Nc sc G.objs.size d Y fp pins) (.inr ⟨kx,vx,rfl⟩) hx hc (pR _ _ _ _ _ _ _ _ _ _) T (hg _ _ _ _ _) (l _ _ _ _ _ _ _) I4 O f4 (hw _ hn) λ a6 H' s' I' q=>?_;obtain⟨m',a3,_⟩:=I'.loc;exact⟨m',a3,λ h' a1=>⟨.ref d.heap.objs.size,H',wS Z f2 j I' a1,rfl,q⟩⟩
 exact xX (.inr ⟨kx,vx,rfl⟩) rfl rfl m (T.self _ _ _ _ _ O m)
def bW{prog:eX}{w:iN}{A:fk}{E:au->az->Prop}{s:az}{t g:av}{a:Array au}{l i:au}{lo hi:Option Int}{Q:au->az->Prop}(b:ES s.heap t a)(m:s.heap.IsSliceOf g l i .none)(o:CT l lo)(p:CT i hi)
  (j:HT.sIx a.size 0 lo=0/\HT.sIx a.size a.size hi=a.size) (h:Q (.ref t) s):dj (model prog w) A (getItem (.ref t) (.ref g)) Q E s:=by
 obtain⟨os,f,d,n⟩:=id m;have c:s.TypeIs (.ref g) "slice":=⟨os,f,d⟩;unfold getItem
 try with_reducible refine kr ?_
 first | refine ai (bg ?_) | skip
 refine ai (Bs b.typeIs (by decide) ?_)
 refine ai (jc (name:=ve "__getitem__") b.typeIs iD
  (ky iD b.typeIs BH ?_ (BW _ _)))
 show dj _ _ (yn (.ref t) >>= _) _ _ s;refine ai (DM b ?_);refine ai (yw c ?_);rw[if_pos (by decide)];refine ai (HT.sliceApplied_gen m o p ?_);show dj _ _ (if(((HT.sIx a.size 0 lo:Nat):Int) == 0 && (1:Int) == 1 && (HT.sIx a.size a.size hi-HT.sIx a.size 0 lo) == a.size)=true then _ else _) _ _ s;rw[if_pos (by rw[j.1,j.2];simp)];unfold Eu
 first
  | refine ai (ai (yw b.typeIs (bg ?_)))
  | refine ai (yw b.typeIs (bg ?_))
 rw[if_pos (by decide)];exact ai (xp (bg ⟨_,rfl,bg h⟩))
inductive kSF(K:be)(x:V)(lo:Option Int)(hi:Option Int)(H:Hp)(Q:VK):Prop
 | mk:∀ a xs,(x=.ref a)->(SqT K H a xs)->((HT.sIx xs.length 0 lo=0/\HT.sIx xs.length xs.length hi=xs.length))->(Q (.ref a) H)->kSF K x lo hi H Q
def kOI:SlR X (kSF X.K):=by
 intro f s y H x v p A lo C B Q I l j m g h;obtain⟨a,i,rfl,o,n,q⟩:=h;cases l
 obtain⟨c,r,d,u⟩:=I.tuple o;have b:c.toArray.size=i.length:=by rw[eY];exact r.length.symm
 refine⟨"tuple",_,iD.lookup,d.typeIs,?_⟩;exact bW d j m g (by rw[b];exact n) ⟨.ref a,H,I,rfl,q⟩
def kWG(K:be):V->Option Int->Option Int->Hp->VK->Prop:=λ x lo a H Q=>kSE K x lo a H Q\/kSF K x lo a H Q
def kOH:SlR X (kWG X.K):=sl_tup.or kOI
end
end L2
namespace Cyc
def Adj:List Nat->Nat->Nat->Prop
 | x::y::r,a,b=>(a=x/\b=y)\/Adj (y::r) a b
 | _,_,_=>False
def Nx(row:List Nat)(a b:Nat):Prop:=Adj (row++row.head?.toList) a b
def kGR(x a b:Nat):¬ Adj [x] a b:=id
def cH(x y:Nat)(r:List Nat)(a b:Nat):Adj (x::y::r) a b↔(a=x/\b=y)\/Adj (y::r) a b:=BL
theorem qY:∀(l:List Nat)(x:Nat)(r:List Nat)(a b:Nat),Adj (l++x::r) a b↔Adj (l++[x]) a b\/Adj (x::r) a b
 | [],x,r,a,b=>⟨.inr,λ h=>h.elim (λ z=>(kGR x a b z).elim) id⟩
 | [y],x,r,a,b=>by
  show(a=y/\b=x)\/Adj (x::r) a b↔((a=y/\b=x)\/Adj [x] a b)\/Adj (x::r) a b;have:=kGR x a b;exact⟨λ h=>h.elim (λ z=>.inl (.inl z)) .inr,λ h=>h.elim (λ z=>z.elim .inl λ q=>(this q).elim) .inr⟩
 | y::z::l,x,r,a,b=>by
  have c:=qY (z::l) x r a b;show(a=y/\b=z)\/Adj (z::l++x::r) a b↔((a=y/\b=z)\/Adj (z::l++[x]) a b)\/Adj (x::r) a b;rw[c];exact⟨λ h=>h.elim (λ q=>.inl (.inl q)) λ q=>q.elim (λ q=>.inl (.inr q)) .inr,λ h=>h.elim (λ q=>q.elim .inl λ q=>.inr (.inl q)) λ q=>.inr (.inr q)⟩
theorem qI:∀{l:List Nat}{a b:Nat},Adj l a b->a∈l/\b∈l.tail
 | [],_,_,h=>h.elim
 | [_],_,_,h=>h.elim
 | x::y::r,a,b,h=>by
  rcases h with⟨rfl,rfl⟩ | h
  ·exact⟨eP,eP⟩
  ·have:=qI h
   exact⟨du _ this.1,du _ this.2⟩
def rW(x:Nat)(r:List Nat)(a b:Nat):Nx (x::r) a b↔Adj (x::r++[x]) a b:=BL
def jF(A C:List Nat)(a b:Nat):Nx (A++C) a b↔Nx (C++A) a b:=by
 cases A with
 | nil=>rw[pd,iq]
 | cons a0 A' =>
  cases C with
  | nil=>rw[pd,iq]
  | cons c0 C' =>
   have d:Nx (a0::A'++c0::C') a b↔Adj ((a0::A')++c0::(C'++[a0])) a b:=by
    show Adj ((a0::A'++c0::C')++[a0]) a b↔_;rw[di];exact BL
   have c:Nx (c0::C'++a0::A') a b↔Adj ((c0::C')++a0::(A'++[c0])) a b:=by
    show Adj ((c0::C'++a0::A')++[c0]) a b↔_;rw[di];exact BL
   rw[d,c,qY (a0::A') c0,qY (c0::C') a0];exact Or.comm
def zX(v:Nat)(R:List Nat)(a b:Nat):Nx (v::R) a b↔(a=v/\b=(R++[v]).headD 0)\/Adj (R++[v]) a b:=by
 rw[rW]
 cases R with
 | nil=>exact BL
 | cons y r=>exact BL
theorem yA:∀{R:List Nat}{v a b:Nat},v∉R->Adj (R++[v]) a b->a≠v
 | [],_,_,_,_,h=>h.elim
 | x::r,v,a,b,hv,h=>by
  have c:v∉r:=λ z=>hv (du _ z);have d:x≠v:=λ z=>hv (by rw[z];exact eP)
  cases r with
  | nil =>
   rcases h with⟨rfl,_⟩ | h
   ·exact d
   ·exact h.elim
  | cons y r' =>
   rcases h with⟨rfl,_⟩ | h
   ·exact d
   ·exact yA c h
def kSS{A B:List Nat}{v w:Nat}(nd:(A++v::B).Nodup)(f:w∉A++v::B)(a b:Nat) :
  Nx (A++v::w::B) a b↔(a=v/\b=w)\/(a=w/\Nx (A++v::B) v b)\/(a≠v/\Nx (A++v::B) a b):=by
 rw[jF A (v::w::B),jF A (v::B),jF A (v::B)];simp only[mj]
 have c:v∉B++A:=λ z=>by
  rw[cy]at nd;rcases bz.mp z with z | z
  ·exact(gh.mp nd.2.1).1 z
  ·exact nd.2.2 v z v eP rfl
 have l:w≠v:=λ z=>f (by rw[z];simp);generalize j:B++A=R at c;rw[zX,zX,zX];have i:(w::R++[v]).headD 0=w:=rfl
 have g:Adj (w::R++[v]) a b↔(a=w/\b=(R++[v]).headD 0)\/Adj (R++[v]) a b:=by
  cases R with
  | nil=>exact BL
  | cons y r=>exact BL
 rw[i,g];constructor
 ·rintro(h | h | h)
  ·exact .inl h
  ·exact .inr (.inl ⟨h.1,.inl ⟨rfl,h.2⟩⟩)
  ·exact .inr (.inr ⟨yA c h,.inr h⟩)
 ·rintro(h | ⟨h,d⟩ | ⟨h,d⟩)
  ·exact .inl h
  ·rcases d with⟨_,z⟩ | z
   ·exact .inr (.inl ⟨h,z⟩)
   ·exact(yA c z rfl).elim
  ·rcases d with⟨z,_⟩ | z
   ·exact(h z).elim
   ·exact .inr (.inr z)
theorem fA:∀{l:List Nat}{a f b:Nat},l.tail.Nodup->Adj l a b->Adj l f b->a=f
 | [],_,_,_,_,h,_=>h.elim
 | [_],_,_,_,_,h,_=>h.elim
 | x::y::r,a,f,b,nd,h,d=>by
  have c:(y::r).Nodup:=nd;rcases h with⟨rfl,rfl⟩ | h
  ·rcases d with⟨rfl,_⟩ | d
   ·rfl
   ·exact((gh.mp c).1 (qI d).2).elim
  ·rcases d with⟨rfl,rfl⟩ | d
   ·exact((gh.mp c).1 (qI h).2).elim
   ·exact fA (l:=y::r) (gh.mp c).2 h d
def vY{row:List Nat}{v:Nat}(h:v∈row):∃ A B,row=A++v::B:=zo h
def uR{A B:List Nat}{v:Nat}(nd:(A++v::B).Nodup):v∉B++A/\(B++A).Nodup:=by
 rw[cy]at nd;obtain⟨h,d,c⟩:=nd;obtain⟨i,f⟩:=gh.mp d;refine⟨λ z=>?_,?_⟩
 ·rcases bz.mp z with z | z
  ·exact i z
  ·exact c v z v eP rfl
 ·rw[cy]
  exact⟨f,h,λ a g b j e=>c b j a (du _ g) e.symm⟩
def kT{row:List Nat}{a b:Nat}(h:Nx row a b):a∈row/\b∈row:=by
 cases row with
 | nil=>exact h.elim
 | cons x r =>
  have q:=qI h;constructor
  ·rcases bz.mp q.1 with z | z
   ·exact z
   ·exact eA.mpr (.inl (by simpa using z))
  ·rcases bz.mp q.2 with z | z
   ·exact du _ z
   ·exact eA.mpr (.inl (by simpa using z))
def jV{row:List Nat}{a b c:Nat}(nd:row.Nodup)(h:Nx row a b)(h':Nx row a c):b=c:=by
 obtain⟨A,B,rfl⟩:=vY (kT h).1;rw[jF]at h h';simp only[mj]at h h';obtain⟨d,f⟩:=uR nd;rw[zX]at h h';rcases h with⟨_,rfl⟩ | h
 ·rcases h' with⟨_,rfl⟩ | h'
  ·rfl
  ·exact(yA d h' rfl).elim
 ·exact(yA d h rfl).elim
def yJ{row:List Nat}{a c b:Nat}(nd:row.Nodup)(h:Nx row a b)(h':Nx row c b):a=c:=by
 obtain⟨A,B,rfl⟩:=vY (kT h).2;rw[jF]at h h';simp only[mj]at h h';obtain⟨i,f⟩:=uR nd;rw[rW]at h h';refine fA ?_ h h';show(B++A++[b]).Nodup;rw[cy];exact⟨f,by simp,λ x g y d e=>i (by simp at d;rw[<-d,<-e];exact g)⟩
def kST{A B:List Nat}{q:Nat}(nd:(A++q::B).Nodup)(a b:Nat) :
  Nx (A++B) a b↔(a≠q/\b≠q/\Nx (A++q::B) a b)\/(a≠q/\b≠q/\Nx (A++q::B) a q/\Nx (A++q::B) q b):=by
 rw[jF A B,jF A (q::B),jF A (q::B),jF A (q::B)];simp only[mj];obtain⟨i,m⟩:=uR nd;generalize B++A=R at i m;clear nd
 cases R with
 | nil =>
  constructor
  ·intro h;exact h.elim
  ·rintro(⟨h1,g,f⟩ | ⟨h1,g,f,_⟩)
   ·rcases f with⟨z,_⟩ | z
    ·exact(h1 z).elim
    ·exact z.elim
   ·rcases f with⟨z,_⟩ | z
    ·exact(h1 z).elim
    ·exact z.elim
 | cons x T =>
  rw[zX q (x::T) a b,zX q (x::T) a q,zX q (x::T) q b,rW x T];have n:(x::T++[q]).headD 0=x:=rfl;rw[n]
  have p:x≠q:=λ z=>i (by rw[z];exact eP)
  have key:∀(T:List Nat)(x z a b:Nat),Adj (x::T++[z]) a b↔Adj (x::T) a b\/(a=(x::T).getLast (by simp)/\b=z):=by
   intro T
   induction T with
   | nil=>intro x z a b;exact⟨λ h=>h.elim .inr λ q=>q.elim,λ h=>h.elim (λ q=>q.elim) .inl⟩
   | cons y r ih =>
    intro x z a b;show(a=x/\b=y)\/Adj (y::r++[z]) a b↔((a=x/\b=y)\/Adj (y::r) a b)\/_;rw[ih y z a b,List.getLast_cons (Aw y r)];exact or_assoc.symm
  rw[key T x x,key T x q,key T x q,key T x q]
  have mem:∀{c d},Adj (x::T) c d->c≠q/\d≠q:=λ{c d} h=>by
   have:=qI h;exact⟨λ z=>i (z ▸ this.1),λ z=>i (z ▸ du _ this.2)⟩
  have j:(x::T).getLast (by simp)≠q:=λ z=>i (z ▸ List.getLast_mem _);constructor
  ·rintro(h | ⟨h1,g⟩)
   ·exact .inl ⟨(mem h).1,(mem h).2,.inr (.inl h)⟩
   ·refine .inr ⟨by rw[h1];exact j,by rw[g];exact p,.inr (.inr ⟨h1,rfl⟩),.inl ⟨rfl,g⟩⟩
  ·rintro(⟨h1,g,f⟩ | ⟨h1,g,f,l⟩)
   ·rcases f with⟨z,_⟩ | z | ⟨_,z⟩
    ·exact(h1 z).elim
    ·exact .inl z
    ·exact(g z).elim
   ·have o:a=(x::T).getLast (by simp):=by
     rcases f with⟨z,_⟩ | z | ⟨z,_⟩
     ·exact(h1 z).elim
     ·exact((mem z).2 rfl).elim
     ·exact z
    have s:b=x:=by
     rcases l with⟨_,z⟩ | z | ⟨z,_⟩
     ·exact z
     ·exact((mem z).1 rfl).elim
     ·exact(j z.symm).elim
    exact .inr ⟨o,s⟩
end Cyc
namespace Tri
open Cyc
abbrev Rows:=List (List Nat)
def R(L:Rows)(q a b:Nat):Prop:=∃ row,L[q]?=some row/\Nx row a b
def E(L:Rows)(a b:Nat):Prop:=∃ row,L[a]?=some row/\b∈row
inductive Reach(L:Rows):Nat->Nat->Prop
 | here (a:Nat):Reach L a a
 | more {a b c:Nat}:Reach L a b->E L b c->Reach L a c
def Reach.trans{L:Rows}{a b c:Nat}(h:Reach L a b)(h':Reach L b c):Reach L a c:=by
 induction h' with
 | here=>exact h
 | more _ e ih=>exact .more ih e
theorem Reach.by{L c:Rows}(h:∀ a b,E L a b->Reach c a b){a b:Nat}(r:Reach L a b):Reach c a b:=by
 induction r with
 | here=>exact .here _
 | more _ e ih=>exact ih.trans (h _ _ e)
structure Good(L:Rows):Prop where
 three:3<=L.length
 ne:∀(p:Nat)(row:List Nat),L[p]?=some row->row≠[]
 nd:∀(p:Nat)(row:List Nat),L[p]?=some row->row.Nodup
 rng:∀(p:Nat)(row:List Nat)(a:Nat),L[p]?=some row->a∈row->a<L.length/\a≠p
 tri:∀ q a b,R L q a b->R L a b q
 con:∀ p,p<L.length->Reach L 0 p
 tot:(L.map jb).sum+12=6*L.length
def lC{L:Rows}{p:Nat}{row:List Nat}(hp:p<L.length)(x a b:Nat):R (L.set p row) x a b↔(x=p/\Nx row a b)\/(x≠p/\R L x a b):=by
 unfold R;by_cases h:x=p
 ·subst h
  simp[kl hp]
 ·simp[eW (ub h),h]
def kUP{L:Rows}{row:List Nat}(x a b:Nat):R (L++[row]) x a b↔R L x a b\/(x=L.length/\Nx row a b):=by
 unfold R;rcases yg x L.length with h | h | h
 ·rw[bq h]
  constructor
  ·exact .inl
  ·rintro(z | ⟨z,_⟩)
   ·exact z
   ·omega
 ·subst h
  rw[cq (bf _),jr (bf _)];simp
 ·rw[jr (by simp;omega),jr (by omega)]
  constructor
  ·rintro⟨_,z,_⟩;cases z
  ·rintro(⟨_,z,_⟩ | ⟨z,_⟩)
   ·cases z
   ·omega
def zF{L:Rows}{q a b:Nat}(h:R L q a b):E L q a/\E L q b:=by
 obtain⟨row,e,n⟩:=h;exact⟨⟨row,e,(kT n).1⟩,⟨row,e,(kT n).2⟩⟩
def yG{L:Rows}(G:Good L){q a b c:Nat}(h:R L q a b)(h':R L q a c):b=c:=by
 obtain⟨row,e,n⟩:=h;obtain⟨d,f,g⟩:=h';rw[e]at f
 cases f
 exact jV (G.nd q row e) n g
def kLF{L:Rows}(G:Good L){q a c b:Nat}(h:R L q a b)(h':R L q c b):a=c:=by
 obtain⟨row,e,n⟩:=h;obtain⟨d,f,g⟩:=h';rw[e]at f
 cases f
 exact yJ (G.nd q row e) n g
def wO{L:Rows}(G:Good L){q a b:Nat}(h:R L q a b):q<L.length/\a<L.length/\b<L.length/\a≠q/\b≠q:=by
 obtain⟨row,e,n⟩:=h;have m:=kT n;have:=G.rng q row a e m.1;have:=G.rng q row b e m.2;have:q<L.length:=(ak.mp e).1;omega
def kRF{row:List Nat}{b:Nat}(h:b∈row):∃ a,Nx row a b:=by
 obtain⟨A,B,rfl⟩:=vY h
 have key:∀(R:List Nat),∃ a,Nx (b::R) a b:=by
  intro R
  cases R with
  | nil=>exact⟨b,.inl ⟨rfl,rfl⟩⟩
  | cons y r =>
   have:∀(r:List Nat)(y:Nat),∃ a,Adj (y::r++[b]) a b:=by
    intro r
    induction r with
    | nil=>intro y;exact⟨y,.inl ⟨rfl,rfl⟩⟩
    | cons z r ih=>intro y;obtain⟨a,q⟩:=ih z;exact⟨a,.inr q⟩
   obtain⟨a,q⟩:=this r y;exact⟨a,.inr q⟩
 obtain⟨a,q⟩:=key (B++A);exact⟨a,(jF A (b::B) a b).mpr q⟩
def cW{row:List Nat}{a:Nat}(h:a∈row):∃ b,Nx row a b:=by
 obtain⟨A,B,rfl⟩:=vY h;refine⟨(B++A++[a]).headD 0,(jF A (a::B) _ _).mpr ?_⟩;exact(zX a (B++A) a _).mpr (.inl ⟨rfl,rfl⟩)
def Good.sym{L:Rows}(G:Good L){a b:Nat}(h:E L a b):E L b a:=by
 obtain⟨row,e,m⟩:=h;obtain⟨c,n⟩:=cW m;have:=G.tri a b c ⟨row,e,n⟩;exact(zF this).2
def jI(row:List Nat)(v w:Nat):List Nat:=row.take (row.idxOf v+1)++w::row.drop (row.idxOf v+1)
def jW(row:List Nat)(q:Nat):List Nat:=row.eraseIdx (row.idxOf q)
def dB{A B:List Nat}{v:Nat}(h:v∉A):(A++v::B).idxOf v=A.length:=by
 rw[yh,if_neg h];simp
def xB{row:List Nat}{v:Nat}(h:v∈row)(nd:row.Nodup):∃ A B,row=A++v::B/\v∉A/\v∉B:=by
 obtain⟨A,B,rfl⟩:=vY h;have q:=uR nd;exact⟨A,B,rfl,λ z=>q.1 (dc _ z),λ z=>q.1 (df _ z)⟩
def sA{A B:List Nat}{v w:Nat}(h:v∉A):jI (A++v::B) v w=A++v::w::B:=by
 unfold jI;rw[dB h];have e:A++v::B=(A++[v])++B:=by simp
 rw[e,yq (by simp),Cm (by simp)];simp
def sO{A B:List Nat}{q:Nat}(h:q∉A):jW (A++q::B) q=A++B:=by
 unfold jW;rw[dB h,AK (bf _)];simp
def xR{row:List Nat}{v w:Nat}(h:v∈row):(jI row v w).length=row.length+1:=by
 unfold jI;simp only[bu,dq,iJ,iZ];have:=fq h;omega
def kBM{row:List Nat}{q:Nat}(h:q∈row):(jW row q).length+1=row.length:=by
 unfold jW;have:=fq h;rw[List.length_eraseIdx_of_lt this];omega
def xQ{row:List Nat}{v w x:Nat}(h:v∈row)(nd:row.Nodup):x∈jI row v w↔x∈row\/x=w:=by
 obtain⟨A,B,rfl,hA,hB⟩:=xB h nd;rw[sA hA];simp only[bz,eA]
 grind
def wY{row:List Nat}{q x:Nat}(h:q∈row)(nd:row.Nodup):x∈jW row q↔x∈row/\x≠q:=by
 obtain⟨A,B,rfl,hA,hB⟩:=xB h nd;rw[sO hA];simp only[bz,eA]
 grind
def bR{row:List Nat}{v w:Nat}(h:v∈row)(nd:row.Nodup)(a:w∉row):(jI row v w).Nodup:=by
 obtain⟨A,B,rfl,hA,hB⟩:=xB h nd;rw[sA hA];simp only[cy,gh,eA,bz]at nd a ⊢
 grind
def kGA{row:List Nat}{q:Nat}(h:q∈row)(nd:row.Nodup):(jW row q).Nodup:=by
 obtain⟨A,B,rfl,hA,hB⟩:=xB h nd;rw[sO hA];simp only[cy,gh,eA]at nd ⊢
 grind
def bJ{row:List Nat}{v w:Nat}(h:v∈row)(nd:row.Nodup)(c:w∉row)(a b:Nat):Nx (jI row v w) a b↔(a=v/\b=w)\/(a=w/\Nx row v b)\/(a≠v/\Nx row a b):=by
 obtain⟨A,B,rfl,hA,hB⟩:=xB h nd;rw[sA hA];exact kSS nd c a b
def kFP{row:List Nat}{q:Nat}(h:q∈row)(nd:row.Nodup)(a b:Nat):Nx (jW row q) a b↔(a≠q/\b≠q/\Nx row a b)\/(a≠q/\b≠q/\Nx row a q/\Nx row q b):=by
 obtain⟨A,B,rfl,hA,hB⟩:=xB h nd;rw[sO hA];exact kST nd a b
theorem zH:∀(L:Rows)(p:Nat)(row new:List Nat),L[p]?=some row->((L.set p new).map jb).sum+row.length=(L.map jb).sum+new.length
 | [],p,row,new,h=>by simp at h
 | x::r,0,row,new,h=>by
  simp at h;subst h;simp;omega
 | x::r,p+1,row,new,h=>by
  simp at h;have q:=zH r p row new h;simp only[List.set_cons_succ,eZ,Ap];omega
def aR(L:Rows)(p q r:Nat)(b c a:List Nat):Rows :=
 ((L.set p (jI b q L.length)).set q (jI c r L.length)).set r (jI a p L.length)++[[p,q,r]]
def nx3(p q r a b:Nat):Nx [p,q,r] a b↔(a=p/\b=q)\/(a=q/\b=r)\/(a=r/\b=p):=by
 show((a=p/\b=q)\/(a=q/\b=r)\/(a=r/\b=p)\/False)↔_;simp
def zZ{L:Rows}{p:Nat}{new:List Nat}(hp:p<L.length){x:Nat}{row:List Nat}(h:(L.set p new)[x]?=some row):(x=p/\row=new)\/(x≠p/\L[x]?=some row):=by
 by_cases e:x=p
 ·subst e
  rw[kl hp]at h;exact .inl ⟨rfl,(bh h).symm⟩
 ·rw[eW (ub e)]at h
  exact .inr ⟨e,h⟩
def mN{L:Rows}{p:Nat}{new:List Nat}(hp:p<L.length)(x b:Nat):E (L.set p new) x b↔(x=p/\b∈new)\/(x≠p/\E L x b):=by
 unfold E;by_cases h:x=p
 ·subst h
  simp[kl hp]
 ·simp[eW (ub h),h]
def kTS{L:Rows}{row:List Nat}{x b:Nat}(h:E L x b):E (L++[row]) x b:=by
 obtain⟨r,e,m⟩:=h;exact⟨r,by rw[bq (ak.mp e).1];exact e,m⟩
section
variable {L:Rows} {p q r:Nat} {rp rq rr:List Nat}
def kNS(G:Good L)(hp:L[p]?=some rp)(A:L[q]?=some rq)(y:L[r]?=some rr)(f:Nx rq r p):Good (aR L p q r rp rq rr):=by
 have Fq:R L q r p:=⟨rq,A,f⟩;have Fr:R L r p q:=G.tri _ _ _ Fq;have Fp:R L p q r:=G.tri _ _ _ Fr;have T:Nx rr p q:=by obtain⟨x,e,n⟩:=Fr;rw[y]at e;cases e;exact n
 have S:Nx rp q r:=by obtain⟨x,e,n⟩:=Fp;rw[hp]at e;cases e;exact n
 obtain⟨X,lr,lp,l,o⟩:=wO G Fq;obtain⟨-,-,-,j,-⟩:=wO G Fr;have M:=G.nd p rp hp;have I:=G.nd q rq A;have H:=G.nd r rr y;have vp:L.length∉rp:=λ z=>rj _ (G.rng p rp _ hp z).1;have Y:L.length∉rq:=λ z=>rj _ (G.rng q rq _ A z).1;have U:L.length∉rr:=λ z=>rj _ (G.rng r rr _ y z).1;have mp:=(kT S).1;have D:=(kT f).1;have C:=(kT T).1;have O:p<L.length:=lp;have N:q<(L.set p (jI rp q L.length)).length:=by simpa using X
 have Q:r<((L.set p (jI rp q L.length)).set q (jI rq r L.length)).length:=by simpa using lr
 have len:(aR L p q r rp rq rr).length=L.length+1:=by simp[aR]
 have g:(((L.set p (jI rp q L.length)).set q (jI rq r L.length)).set r (jI rr p L.length)).length=L.length:=by simp
 have look:∀(x:Nat)(row:List Nat),(aR L p q r rp rq rr)[x]?=some row->(x=L.length/\row=[p,q,r])\/(x=r/\row=jI rr p L.length)\/(x=q/\row=jI rq r L.length)\/(x=p/\row=jI rp q L.length)\/(x≠p/\x≠q/\x≠r/\L[x]?=some row):=by
  intro x row h;unfold aR at h;by_cases hx:x<L.length
  ·rw[bq (by rw[g];exact hx)]at h
   rcases zZ Q h with z | ⟨n3,h⟩
   ·exact .inr (.inl z)
   ·rcases zZ N h with z | ⟨n2,h⟩
    ·exact .inr (.inr (.inl z))
    ·rcases zZ O h with z | ⟨n1,h⟩
     ·exact .inr (.inr (.inr (.inl z)))
     ·exact .inr (.inr (.inr (.inr ⟨n1,n2,n3,h⟩)))
  ·rw[cq (by rw[g];omega),g]at h
   have:x-L.length=0:=by
    rcases Nat.eq_zero_or_pos (x-L.length) with z | z
    ·exact z
    ·rw[jr (by simp;omega)]at h;cases h
   rw[this]at h;exact .inl ⟨by omega,(bh h).symm⟩
 have s:∀ x a b,R (aR L p q r rp rq rr) x a b↔(x=L.length/\((a=p/\b=q)\/(a=q/\b=r)\/(a=r/\b=p)))\/(x=r/\((a=p/\b=L.length)\/(a=L.length/\b=q)\/(a≠p/\R L r a b)))\/(x=q/\((a=r/\b=L.length)\/(a=L.length/\b=p)\/(a≠r/\R L q a b)))\/(x=p/\((a=q/\b=L.length)\/(a=L.length/\b=r)\/(a≠q/\R L p a b)))\/(x≠p/\x≠q/\x≠r/\R L x a b):=by
  intro x a b;have e1:Nx rp q b↔b=r:=⟨λ z=>jV M z S,λ z=>z ▸ S⟩;have e2:Nx rq r b↔b=p:=⟨λ z=>jV I z f,λ z=>z ▸ f⟩;have e3:Nx rr p b↔b=q:=⟨λ z=>jV H z T,λ z=>z ▸ T⟩;have g1:R L p a b↔Nx rp a b:=⟨λ⟨z,e,n⟩=>by rw[hp]at e;cases e;exact n,λ n=>⟨rp,hp,n⟩⟩;have g2:R L q a b↔Nx rq a b:=⟨λ⟨z,e,n⟩=>by rw[A]at e;cases e;exact n,λ n=>⟨rq,A,n⟩⟩;have g3:R L r a b↔Nx rr a b:=⟨λ⟨z,e,n⟩=>by rw[y]at e;cases e;exact n,λ n=>⟨rr,y,n⟩⟩;unfold aR;rw[kUP,lC Q,lC N,lC O,bJ mp M vp,bJ D I Y,bJ C H U,nx3,g,e1,e2,e3,g1,g2,g3];have no:¬ R L L.length a b:=λ z=>by have:=wO G z;omega
  clear Fq Fr Fp T S M I H vp Y U mp D C O N Q len g look hp A y f e1 e2 e3 g1 g2 g3 G;by_cases x0:x=L.length
  ·subst x0
   have n1:¬ L.length=p:=ja lp;have n2:¬ L.length=q:=ja X;have n3:¬ L.length=r:=ja lr;simp only[n1,n2,n3,no,ne_eq,not_false_eq_true,false_and,true_and,and_false,or_false,false_or,not_true_eq_false]
  ·by_cases B:x=r
   ·subst B
    have n1:¬ x=q:=l;have n2:¬ x=p:=λ z=>j z.symm;simp only[x0,n1,n2,ne_eq,not_false_eq_true,false_and,true_and,and_false,or_false,false_or,not_true_eq_false]
   ·by_cases J:x=q
    ·subst J
     have n2:¬ x=p:=λ z=>o z.symm;simp only[x0,B,n2,ne_eq,not_false_eq_true,false_and,true_and,and_false,or_false,false_or,not_true_eq_false]
    ·by_cases Z:x=p
     ·subst Z
      simp only[x0,B,J,ne_eq,not_false_eq_true,false_and,true_and,and_false,or_false,false_or,not_true_eq_false]
     ·simp only[x0,B,J,Z,ne_eq,not_false_eq_true,false_and,true_and,and_false,or_false,false_or,not_true_eq_false]
 have v1:L.length≠p:=ja lp;have v2:L.length≠q:=ja X
 have v3:L.length≠r:=ja lr
 have v:∀ x a b,R L x a b->¬ (x=p/\a=q)->¬ (x=q/\a=r)->¬ (x=r/\a=p)->R (aR L p q r rp rq rr) x a b:=by
  intro x a b h h1 h2 h3;rw[s];clear Fq Fr Fp T S X lr lp l o j M I H vp Y U mp D C O N Q len g look hp A y f s G v1 v2 v3;by_cases B:x=r
  ·subst B;exact .inr (.inl ⟨rfl,.inr (.inr ⟨λ z=>h3 ⟨rfl,z⟩,h⟩)⟩)
  ·by_cases J:x=q
   ·subst J;exact .inr (.inr (.inl ⟨rfl,.inr (.inr ⟨λ z=>h2 ⟨rfl,z⟩,h⟩)⟩))
   ·by_cases Z:x=p
    ·subst Z;exact .inr (.inr (.inr (.inl ⟨rfl,.inr (.inr ⟨λ z=>h1 ⟨rfl,z⟩,h⟩)⟩)))
    ·exact .inr (.inr (.inr (.inr ⟨Z,J,B,h⟩)))
 have d:∀ x a b,R L x a b->¬ (x=p/\a=q)->¬ (x=q/\a=r)->¬ (x=r/\a=p)->R (aR L p q r rp rq rr) a b x:=by
  intro x a b h h1 h2 h3;have i:=G.tri _ _ _ h;clear T S X lr lp l o j M I H vp Y U mp D C O N Q len g look hp A y f s v1 v2 v3;refine v _ _ _ i (λ z=>?_) (λ z=>?_) (λ z=>?_)
  ·obtain⟨rfl,rfl⟩:=z
   exact h3 ⟨yG G i Fp,rfl⟩
  ·obtain⟨rfl,rfl⟩:=z
   exact h1 ⟨yG G i Fq,rfl⟩
  ·obtain⟨rfl,rfl⟩:=z
   exact h2 ⟨yG G i Fr,rfl⟩
 have c:∀ x a b,((x=L.length/\((a=p/\b=q)\/(a=q/\b=r)\/(a=r/\b=p)))\/(x=r/\((a=p/\b=L.length)\/(a=L.length/\b=q)))\/(x=q/\((a=r/\b=L.length)\/(a=L.length/\b=p)))\/(x=p/\((a=q/\b=L.length)\/(a=L.length/\b=r))))->R (aR L p q r rp rq rr) x a b:=by
  intro x a b h;rw[s];rcases h with h | ⟨h,i | i⟩ | ⟨h,i | i⟩ | ⟨h,i | i⟩
  ·exact .inl h
  ·exact .inr (.inl ⟨h,.inl i⟩)
  ·exact .inr (.inl ⟨h,.inr (.inl i)⟩)
  ·exact .inr (.inr (.inl ⟨h,.inl i⟩))
  ·exact .inr (.inr (.inl ⟨h,.inr (.inl i)⟩))
  ·exact .inr (.inr (.inr (.inl ⟨h,.inl i⟩)))
  ·exact .inr (.inr (.inr (.inl ⟨h,.inr (.inl i)⟩)))
 have u:∀ a b,E L a b->E (aR L p q r rp rq rr) a b:=by
  intro a b h;unfold aR;refine kTS ?_;rw[mN Q,mN N,mN O,xQ mp M,xQ D I,xQ C H];obtain⟨row,e,m⟩:=h;clear Fq Fr Fp T S X lr lp l o j M I H vp Y U mp D C O N Q len g look f s v d c G v1 v2 v3;by_cases B:a=r
  ·subst B;rw[y]at e;cases e;exact .inl ⟨rfl,.inl m⟩
  ·by_cases J:a=q
   ·subst J;rw[A]at e;cases e;exact .inr ⟨B,.inl ⟨rfl,.inl m⟩⟩
   ·by_cases Z:a=p
    ·subst Z;rw[hp]at e;cases e;exact .inr ⟨B,.inr ⟨J,.inl ⟨rfl,.inl m⟩⟩⟩
    ·exact .inr ⟨B,.inr ⟨J,.inr ⟨Z,row,e,m⟩⟩⟩
 refine⟨by rw[len];have:=G.three;omega,?_,?_,?_,?_,?_,?_⟩
 ·intro x row h
  rcases look x row h with⟨_,rfl⟩ | ⟨_,rfl⟩ | ⟨_,rfl⟩ | ⟨_,rfl⟩ | ⟨_,_,_,h⟩
  ·simp
  ·intro z;have:=xR (w:=L.length) C;rw[z]at this;simp at this
  ·intro z;have:=xR (w:=L.length) D;rw[z]at this;simp at this
  ·intro z;have:=xR (w:=L.length) mp;rw[z]at this;simp at this
  ·exact G.ne _ _ h
 ·intro x row h
  rcases look x row h with⟨_,rfl⟩ | ⟨_,rfl⟩ | ⟨_,rfl⟩ | ⟨_,rfl⟩ | ⟨_,_,_,h⟩
  ·simp only[gh,eA,ml,or_false,yx,and_true,not_false_eq_true]
   exact⟨λ z=>z.elim o j,λ z=>l z.symm⟩
  ·exact bR C H U
  ·exact bR D I Y
  ·exact bR mp M vp
  ·exact G.nd _ _ h
 ·intro x row a h m
  rw[len]
  replace h:=look x row h
  clear Fq Fr Fp T S vp Y U O N Q len g look f s v d c u;rcases h with⟨rfl,rfl⟩ | ⟨rfl,rfl⟩ | ⟨rfl,rfl⟩ | ⟨rfl,rfl⟩ | ⟨_,_,_,h⟩
  ·simp only[eA,ml,or_false]at m
   clear l o j v1 v2 v3;omega
  ·rcases(xQ C H).mp m with z | z
   ·have:=G.rng _ _ _ y z
    exact⟨yi this.1,this.2⟩
   ·subst z
    exact⟨CJ _,ja lr⟩
  ·rcases(xQ D I).mp m with z | z
   ·have:=G.rng _ _ _ A z
    exact⟨yi this.1,this.2⟩
   ·subst z
    exact⟨CJ _,ja X⟩
  ·rcases(xQ mp M).mp m with z | z
   ·have:=G.rng _ _ _ hp z
    exact⟨yi this.1,this.2⟩
   ·subst z
    exact⟨CJ _,ja lp⟩
  ·have:=G.rng _ _ _ h m
   exact⟨yi this.1,this.2⟩
 ·intro x a b h
  rw[s]at h;clear Fq Fr Fp T S X lr lp M I H vp Y U mp D C O N Q len g look hp A y f s v u G v1 v2 v3;rcases h with⟨rfl,⟨rfl,rfl⟩ | ⟨rfl,rfl⟩ | ⟨rfl,rfl⟩⟩ | ⟨rfl,⟨rfl,rfl⟩ | ⟨rfl,rfl⟩ | ⟨h,i⟩⟩ | ⟨rfl,⟨rfl,rfl⟩ | ⟨rfl,rfl⟩ | ⟨h,i⟩⟩ | ⟨rfl,⟨rfl,rfl⟩ | ⟨rfl,rfl⟩ | ⟨h,i⟩⟩ | ⟨h1,h2,h3,i⟩
  ·exact c _ _ _ (.inr (.inr (.inr ⟨rfl,.inl ⟨rfl,rfl⟩⟩)))
  ·exact c _ _ _ (.inr (.inr (.inl ⟨rfl,.inl ⟨rfl,rfl⟩⟩)))
  ·exact c _ _ _ (.inr (.inl ⟨rfl,.inl ⟨rfl,rfl⟩⟩))
  ·exact c _ _ _ (.inr (.inr (.inr ⟨rfl,.inr ⟨rfl,rfl⟩⟩)))
  ·exact c _ _ _ (.inl ⟨rfl,.inr (.inl ⟨rfl,rfl⟩)⟩)
  ·exact d _ _ _ i (λ z=>j z.1.symm) (λ z=>l z.1) λ z=>h z.2
  ·exact c _ _ _ (.inr (.inl ⟨rfl,.inr ⟨rfl,rfl⟩⟩))
  ·exact c _ _ _ (.inl ⟨rfl,.inl ⟨rfl,rfl⟩⟩)
  ·exact d _ _ _ i (λ z=>o z.1.symm) (λ z=>h z.2) λ z=>l z.1.symm
  ·exact c _ _ _ (.inr (.inr (.inl ⟨rfl,.inr ⟨rfl,rfl⟩⟩)))
  ·exact c _ _ _ (.inl ⟨rfl,.inr (.inr ⟨rfl,rfl⟩)⟩)
  ·exact d _ _ _ i (λ z=>h z.2) (λ z=>o z.1) λ z=>j z.1
  ·exact d _ _ _ i (λ z=>h1 z.1) (λ z=>h2 z.1) λ z=>h3 z.1
 ·intro x hx
  rw[len]at hx;by_cases h:x=L.length
  ·subst h
   refine .more ((G.con p lp).by λ a b e=>.more (.here _) (u a b e)) ?_;exact(zF (c p q L.length (.inr (.inr (.inr ⟨rfl,.inl ⟨rfl,rfl⟩⟩))))).2
  ·exact(G.con x (by omega)).by λ a b e=>.more (.here _) (u a b e)
 ·rw[len]
  unfold aR;have t:=G.tot;have s1:=zH L p rp (jI rp q L.length) hp;have a0:(L.set p (jI rp q L.length))[q]?=some rq:=by rw[eW o];exact A
  have s2:=zH _ q rq (jI rq r L.length) a0;have a1:((L.set p (jI rp q L.length)).set q (jI rq r L.length))[r]?=some rr:=by rw[eW (λ z=>l z.symm),eW j];exact y
  have s3:=zH _ r rr (jI rr p L.length) a1;rw[xR mp]at s1;rw[xR D]at s2;rw[xR C]at s3;rw[cu,Ec];simp only[eZ,Do,Ap,List.sum_nil,iJ,yo];omega
end
def zS(L:Rows)(p q r s:Nat)(a d c b:List Nat):Rows :=
 (((L.set p (jW a q)).set q (jW d p)).set r (jI c p s)).set s (jI b q r)
section
variable {L:Rows} {p q r s:Nat} {rp rq rr rs:List Nat}
def kIU(G:Good L)(hp:L[p]?=some rp)(S:L[q]?=some rq)(Q:L[r]?=some rr)(T:L[s]?=some rs)(f:Nx rq r p)(g:Nx rp s q)(C:r≠s)(sr:s∉rr):Good (zS L p q r s rp rq rr rs):=by
 have B:R L q r p:=⟨rq,S,f⟩;have v:R L r p q:=G.tri _ _ _ B;have D:R L p q r:=G.tri _ _ _ v;have H:R L p s q:=⟨rp,hp,g⟩;have u:R L s q p:=G.tri _ _ _ H;have I:R L q p s:=G.tri _ _ _ u;have un:∀{x row a b},L[x]?=some row->R L x a b->Nx row a b:=λ{x row a b} e ⟨z,e',n⟩=>by rw[e]at e';cases e';exact n
 obtain⟨lq,lr,lp,l,A⟩:=wO G B;obtain⟨-,-,-,o,-⟩:=wO G v;obtain⟨-,ls,-,j,-⟩:=wO G H;obtain⟨-,-,-,y,-⟩:=wO G u;have np:=G.nd p rp hp;have nq:=G.nd q rq S;have nr:=G.nd r rr Q;have ns:=G.nd s rs T;have mp:q∈rp:=(kT (un hp D)).1;have Z:p∈rq:=(kT f).2;have X:p∈rr:=(kT (un Q v)).1;have Y:q∈rs:=(kT (un T u)).1
 have M:r∉rs:=λ z=>by
  obtain⟨row,e,m⟩:=G.sym (a:=s) (b:=r) ⟨rs,T,z⟩;rw[Q]at e;cases e;exact sr m
 have l1:p<L.length:=lp;have l2:q<(L.set p (jW rp q)).length:=by simpa using lq
 have l3:r<((L.set p (jW rp q)).set q (jW rq p)).length:=by simpa using lr
 have l4:s<(((L.set p (jW rp q)).set q (jW rq p)).set r (jI rr p s)).length:=by simpa using ls
 have len:(zS L p q r s rp rq rr rs).length=L.length:=by simp[zS]
 have look:∀(x:Nat)(row:List Nat),(zS L p q r s rp rq rr rs)[x]?=some row->(x=s/\row=jI rs q r)\/(x=r/\row=jI rr p s)\/(x=q/\row=jW rq p)\/(x=p/\row=jW rp q)\/(x≠p/\x≠q/\x≠r/\x≠s/\L[x]?=some row):=by
  intro x row h;unfold zS at h;rcases zZ l4 h with z | ⟨n4,h⟩
  ·exact .inl z
  ·rcases zZ l3 h with z | ⟨n3,h⟩
   ·exact .inr (.inl z)
   ·rcases zZ l2 h with z | ⟨n2,h⟩
    ·exact .inr (.inr (.inl z))
    ·rcases zZ l1 h with z | ⟨n1,h⟩
     ·exact .inr (.inr (.inr (.inl z)))
     ·exact .inr (.inr (.inr (.inr ⟨n1,n2,n3,n4,h⟩)))
 have J:∀ x a b,R (zS L p q r s rp rq rr rs) x a b↔(x=s/\((a=q/\b=r)\/(a=r/\b=p)\/(a≠q/\R L s a b)))\/(x=r/\((a=p/\b=s)\/(a=s/\b=q)\/(a≠p/\R L r a b)))\/(x=q/\((a≠p/\b≠p/\R L q a b)\/(a=r/\b=s)))\/(x=p/\((a≠q/\b≠q/\R L p a b)\/(a=s/\b=r)))\/(x≠p/\x≠q/\x≠r/\x≠s/\R L x a b):=by
  intro x a b;have g1:∀ a b,Nx rp a b↔R L p a b:=λ a b=>⟨λ n=>⟨rp,hp,n⟩,un hp⟩;have g2:∀ a b,Nx rq a b↔R L q a b:=λ a b=>⟨λ n=>⟨rq,S,n⟩,un S⟩;have g3:∀ a b,Nx rr a b↔R L r a b:=λ a b=>⟨λ n=>⟨rr,Q,n⟩,un Q⟩;have g4:∀ a b,Nx rs a b↔R L s a b:=λ a b=>⟨λ n=>⟨rs,T,n⟩,un T⟩;have e1:R L p a q↔a=s:=⟨λ z=>kLF G z H,λ z=>z ▸ H⟩;have e2:R L p q b↔b=r:=⟨λ z=>yG G z D,λ z=>z ▸ D⟩;have e3:R L q a p↔a=r:=⟨λ z=>kLF G z B,λ z=>z ▸ B⟩;have e4:R L q p b↔b=s:=⟨λ z=>yG G z I,λ z=>z ▸ I⟩;have e5:R L r p b↔b=q:=⟨λ z=>yG G z v,λ z=>z ▸ v⟩;have e6:R L s q b↔b=p:=⟨λ z=>yG G z u,λ z=>z ▸ u⟩;unfold zS;rw[lC l4,lC l3,lC l2,lC l1,kFP mp np,kFP Z nq,bJ X nr sr,bJ Y ns M];simp only[g1,g2,g3,g4,e1,e2,e3,e4,e5,e6];have c1:(a≠q/\b≠q/\a=s/\b=r)↔(a=s/\b=r):=⟨λ z=>z.2.2,λ z=>⟨λ h=>y (h.symm.trans z.1),λ h=>l (z.2.symm.trans h),z⟩⟩;have c2:(a≠p/\b≠p/\a=r/\b=s)↔(a=r/\b=s):=⟨λ z=>z.2.2,λ z=>⟨λ h=>o (h.symm.trans z.1),λ h=>j (z.2.symm.trans h),z⟩⟩;rw[c1,c2];clear look g1 g2 g3 g4 e1 e2 e3 e4 e5 e6 c1 c2 B v D H u I un np nq nr ns mp Z X Y M l1 l2 l3 l4 len hp S Q T f g sr lq lr lp ls;by_cases O:x=s
  ·subst O
   have n1:¬ x=r:=λ z=>C z.symm;have n2:¬ x=q:=λ z=>y z.symm;have n3:¬ x=p:=j;simp only[n1,n2,n3,ne_eq,not_false_eq_true,false_and,true_and,and_false,or_false,false_or,not_true_eq_false]
  ·by_cases U:x=r
   ·subst U
    have n1:¬ x=q:=l;have n2:¬ x=p:=λ z=>o z.symm;simp only[O,n1,n2,ne_eq,not_false_eq_true,false_and,true_and,and_false,or_false,false_or,not_true_eq_false]
   ·by_cases x2:x=q
    ·subst x2
     have n2:¬ x=p:=λ z=>A z.symm;simp only[O,U,n2,ne_eq,not_false_eq_true,false_and,true_and,and_false,or_false,false_or,not_true_eq_false]
    ·by_cases x1:x=p
     ·subst x1
      simp only[O,U,x2,ne_eq,not_false_eq_true,false_and,true_and,and_false,or_false,false_or,not_true_eq_false]
     ·simp only[O,U,x2,x1,ne_eq,not_false_eq_true,false_and,true_and,and_false,or_false,false_or,not_true_eq_false]
 have N:∀ x a b,R L x a b->¬ (x=p/\a=q)->¬ (x=p/\b=q)->¬ (x=q/\a=p)->¬ (x=q/\b=p)->¬ (x=r/\a=p)->¬ (x=s/\a=q)->R (zS L p q r s rp rq rr rs) x a b:=by
  intro x a b h h1 h2 h3 h4 h5 h6;rw[J];clear B v D H u I un np nq nr ns mp Z X Y M l1 l2 l3 l4 len hp S Q T f g sr lq lr lp ls C l A o j y look J G;by_cases O:x=s
  ·subst O;exact .inl ⟨rfl,.inr (.inr ⟨λ z=>h6 ⟨rfl,z⟩,h⟩)⟩
  ·by_cases U:x=r
   ·subst U;exact .inr (.inl ⟨rfl,.inr (.inr ⟨λ z=>h5 ⟨rfl,z⟩,h⟩)⟩)
   ·by_cases x2:x=q
    ·subst x2;exact .inr (.inr (.inl ⟨rfl,.inl ⟨λ z=>h3 ⟨rfl,z⟩,λ z=>h4 ⟨rfl,z⟩,h⟩⟩))
    ·by_cases x1:x=p
     ·subst x1;exact .inr (.inr (.inr (.inl ⟨rfl,.inl ⟨λ z=>h1 ⟨rfl,z⟩,λ z=>h2 ⟨rfl,z⟩,h⟩⟩)))
     ·exact .inr (.inr (.inr (.inr ⟨x1,x2,U,O,h⟩)))
 have c:∀ x a b,R L x a b->¬ (x=p/\a=q)->¬ (x=p/\b=q)->¬ (x=q/\a=p)->¬ (x=q/\b=p)->¬ (x=r/\a=p)->¬ (x=s/\a=q)->R (zS L p q r s rp rq rr rs) a b x:=by
  intro x a b h h1 h2 h3 h4 h5 h6;have i:=G.tri _ _ _ h;clear B H un np nq nr ns mp Z X Y M l1 l2 l3 l4 len hp S Q T f g sr lq lr lp ls C l A o j y look J;refine N _ _ _ i (λ z=>?_) (λ z=>?_) (λ z=>?_) (λ z=>?_) (λ z=>?_) (λ z=>?_)
  ·obtain⟨rfl,rfl⟩:=z
   exact h5 ⟨yG G i D,rfl⟩
  ·obtain⟨rfl,rfl⟩:=z
   exact h3 ⟨rfl,rfl⟩
  ·obtain⟨rfl,rfl⟩:=z
   exact h6 ⟨yG G i I,rfl⟩
  ·obtain⟨rfl,rfl⟩:=z
   exact h1 ⟨rfl,rfl⟩
  ·obtain⟨rfl,rfl⟩:=z
   exact h4 ⟨yG G i v,rfl⟩
  ·obtain⟨rfl,rfl⟩:=z
   exact h2 ⟨yG G i u,rfl⟩
 have d:∀ x a b,((x=s/\((a=q/\b=r)\/(a=r/\b=p)))\/(x=r/\((a=p/\b=s)\/(a=s/\b=q)))\/(x=q/\(a=r/\b=s))\/(x=p/\(a=s/\b=r)))->R (zS L p q r s rp rq rr rs) x a b:=by
  intro x a b h;rw[J];rcases h with⟨h,i | i⟩ | ⟨h,i | i⟩ | ⟨h,i⟩ | ⟨h,i⟩
  ·exact .inl ⟨h,.inl i⟩
  ·exact .inl ⟨h,.inr (.inl i)⟩
  ·exact .inr (.inl ⟨h,.inl i⟩)
  ·exact .inr (.inl ⟨h,.inr (.inl i)⟩)
  ·exact .inr (.inr (.inl ⟨h,.inr i⟩))
  ·exact .inr (.inr (.inr (.inl ⟨h,.inr i⟩)))
 have a0:∀ a b,E L a b->¬ (a=p/\b=q)->¬ (a=q/\b=p)->E (zS L p q r s rp rq rr rs) a b:=by
  intro a b h h1 h2;unfold zS;rw[mN l4,mN l3,mN l2,mN l1,wY mp np,wY Z nq,xQ X nr,xQ Y ns];obtain⟨row,e,m⟩:=h;clear B v D H u I un np nq nr ns mp Z X Y M l1 l2 l3 l4 len f g sr lq lr lp ls C l A o j y look J N c d G;by_cases O:a=s
  ·subst O;rw[T]at e;cases e;exact .inl ⟨rfl,.inl m⟩
  ·by_cases U:a=r
   ·subst U;rw[Q]at e;cases e;exact .inr ⟨O,.inl ⟨rfl,.inl m⟩⟩
   ·by_cases x2:a=q
    ·subst x2;rw[S]at e;cases e;exact .inr ⟨O,.inr ⟨U,.inl ⟨rfl,m,λ z=>h2 ⟨rfl,z⟩⟩⟩⟩
    ·by_cases x1:a=p
     ·subst x1;rw[hp]at e;cases e;exact .inr ⟨O,.inr ⟨U,.inr ⟨x2,.inl ⟨rfl,m,λ z=>h1 ⟨rfl,z⟩⟩⟩⟩⟩
     ·exact .inr ⟨O,.inr ⟨U,.inr ⟨x2,.inr ⟨x1,row,e,m⟩⟩⟩⟩
 have a1:∀ a b,E L a b->Reach (zS L p q r s rp rq rr rs) a b:=by
  intro a b h;clear B v D H u I un np nq nr ns mp Z X Y M l1 l2 l3 l4 len hp S Q T f g sr lq lr lp ls C l A o j y look J N c G;by_cases h1:a=p/\b=q
  ·obtain⟨rfl,rfl⟩:=h1
   refine Reach.more (b:=r) (Reach.more (Reach.here _) ?_) ?_
   ·exact(zF (d a s r (.inr (.inr (.inr ⟨rfl,rfl,rfl⟩))))).2
   ·exact(zF (d r s b (.inr (.inl ⟨rfl,.inr ⟨rfl,rfl⟩⟩)))).2
  ·by_cases h2:a=q/\b=p
   ·obtain⟨rfl,rfl⟩:=h2
    refine Reach.more (b:=r) (Reach.more (Reach.here _) ?_) ?_
    ·exact(zF (d a r s (.inr (.inr (.inl ⟨rfl,rfl,rfl⟩))))).1
    ·exact(zF (d r b s (.inr (.inl ⟨rfl,.inl ⟨rfl,rfl⟩⟩)))).1
   ·exact .more (.here _) (a0 a b h h1 h2)
 refine⟨by rw[len];exact G.three,?_,?_,?_,?_,?_,?_⟩
 ·intro x row h
  rcases look x row h with⟨_,rfl⟩ | ⟨_,rfl⟩ | ⟨_,rfl⟩ | ⟨_,rfl⟩ | ⟨_,_,_,_,h⟩
  ·intro z;have:=xR (w:=r) Y;rw[z]at this;simp at this
  ·intro z;have:=xR (w:=s) X;rw[z]at this;simp at this
  ·intro z
   have:s∈jW rq p:=(wY Z nq).mpr ⟨(kT (un S I)).2,j⟩;rw[z]at this;cases this
  ·intro z
   have:r∈jW rp q:=(wY mp np).mpr ⟨(kT (un hp D)).2,l⟩;rw[z]at this;cases this
  ·exact G.ne _ _ h
 ·intro x row h
  rcases look x row h with⟨_,rfl⟩ | ⟨_,rfl⟩ | ⟨_,rfl⟩ | ⟨_,rfl⟩ | ⟨_,_,_,_,h⟩
  ·exact bR Y ns M
  ·exact bR X nr sr
  ·exact kGA Z nq
  ·exact kGA mp np
  ·exact G.nd _ _ h
 ·intro x row a h m
  rw[len]
  replace h:=look x row h
  clear B v D H u I un M l1 l2 l3 l4 len f g sr lq lp l A o j y look J N c d a0 a1;rcases h with⟨rfl,rfl⟩ | ⟨rfl,rfl⟩ | ⟨rfl,rfl⟩ | ⟨rfl,rfl⟩ | ⟨_,_,_,_,h⟩
  ·rcases(xQ Y ns).mp m with z | z
   ·exact G.rng _ _ _ T z
   ·subst z
    exact⟨lr,C⟩
  ·rcases(xQ X nr).mp m with z | z
   ·exact G.rng _ _ _ Q z
   ·subst z
    exact⟨ls,λ h=>C h.symm⟩
  ·exact G.rng _ _ _ S ((wY Z nq).mp m).1
  ·exact G.rng _ _ _ hp ((wY mp np).mp m).1
  ·exact G.rng _ _ _ h m
 ·intro x a b h
  rw[J]at h;clear B v D H u I un np nq nr ns mp Z X Y M l1 l2 l3 l4 len hp S Q T f g sr lq lr lp ls look J N a0 a1 G;rcases h with⟨rfl,⟨rfl,rfl⟩ | ⟨rfl,rfl⟩ | ⟨h,i⟩⟩ | ⟨rfl,⟨rfl,rfl⟩ | ⟨rfl,rfl⟩ | ⟨h,i⟩⟩ | ⟨rfl,⟨h,k,i⟩ | ⟨rfl,rfl⟩⟩ | ⟨rfl,⟨h,k,i⟩ | ⟨rfl,rfl⟩⟩ | ⟨h1,h2,h3,h4,i⟩
  ·exact d _ _ _ (.inr (.inr (.inl ⟨rfl,rfl,rfl⟩)))
  ·exact d _ _ _ (.inr (.inl ⟨rfl,.inl ⟨rfl,rfl⟩⟩))
  ·exact c _ _ _ i (λ z=>j z.1) (λ z=>j z.1) (λ z=>y z.1.symm) (λ z=>y z.1.symm) (λ z=>C z.1.symm) λ z=>h z.2
  ·exact d _ _ _ (.inr (.inr (.inr ⟨rfl,rfl,rfl⟩)))
  ·exact d _ _ _ (.inl ⟨rfl,.inl ⟨rfl,rfl⟩⟩)
  ·exact c _ _ _ i (λ z=>o z.1.symm) (λ z=>o z.1.symm) (λ z=>l z.1) (λ z=>l z.1) (λ z=>h z.2) λ z=>C z.1
  ·exact c _ _ _ i (λ z=>A z.1.symm) (λ z=>A z.1.symm) (λ z=>h z.2) (λ z=>k z.2) (λ z=>l z.1.symm) λ z=>y z.1
  ·exact d _ _ _ (.inr (.inl ⟨rfl,.inr ⟨rfl,rfl⟩⟩))
  ·exact c _ _ _ i (λ z=>h z.2) (λ z=>k z.2) (λ z=>A z.1) (λ z=>A z.1) (λ z=>o z.1) λ z=>j z.1.symm
  ·exact d _ _ _ (.inl ⟨rfl,.inr ⟨rfl,rfl⟩⟩)
  ·exact c _ _ _ i (λ z=>h1 z.1) (λ z=>h1 z.1) (λ z=>h2 z.1) (λ z=>h2 z.1) (λ z=>h3 z.1) λ z=>h4 z.1
 ·intro x hx
  rw[len]at hx;exact(G.con x hx).by a1
 ·rw[len]
  unfold zS;have t:=G.tot;have s1:=zH L p rp (jW rp q) hp;have a2:(L.set p (jW rp q))[q]?=some rq:=by rw[eW A];exact S
  have s2:=zH _ q rq (jW rq p) a2;have a4:((L.set p (jW rp q)).set q (jW rq p))[r]?=some rr:=by rw[eW (λ z=>l z.symm),eW o];exact Q
  have s3:=zH _ r rr (jI rr p s) a4;have a3:(((L.set p (jW rp q)).set q (jW rq p)).set r (jI rr p s))[s]?=some rs:=by rw[eW C,eW y,eW (λ z=>j z.symm)];exact T
  have s4:=zH _ s rs (jI rs q r) a3;have k1:=kBM mp;have k2:=kBM Z;rw[xR X]at s3;rw[xR Y]at s4;clear C l A o j y l1 l2 l3 l4 lp lq lr ls;omega
def kDR:Good [[1,2],[2,0],[0,1]]:=by
 have look:∀(x:Nat)(row:List Nat),([[1,2],[2,0],[0,1]]:Rows)[x]?=some row->(x=0/\row=[1,2])\/(x=1/\row=[2,0])\/(x=2/\row=[0,1]):=by
  intro x row h
  match x,h with
  | 0,h=>exact .inl ⟨rfl,(bh h).symm⟩
  | 1,h=>exact .inr (.inl ⟨rfl,(bh h).symm⟩)
  | 2,h=>exact .inr (.inr ⟨rfl,(bh h).symm⟩)
  | n+3,h=>simp at h
 have c:∀ x y a b:Nat,Nx [x,y] a b↔(a=x/\b=y)\/(a=y/\b=x):=by
  intro x y a b;show((a=x/\b=y)\/(a=y/\b=x)\/False)↔_;simp
 refine⟨by decide,?_,?_,?_,?_,?_,by decide⟩
 ·intro x row h
  rcases look x row h with⟨_,rfl⟩ | ⟨_,rfl⟩ | ⟨_,rfl⟩<;>simp
 ·intro x row h
  rcases look x row h with⟨_,rfl⟩ | ⟨_,rfl⟩ | ⟨_,rfl⟩<;>decide
 ·intro x row a h m
  rcases look x row h with⟨rfl,rfl⟩ | ⟨rfl,rfl⟩ | ⟨rfl,rfl⟩<;>simp at m ⊢<;>omega
 ·rintro x a b ⟨row,h,n⟩
  rcases look x row h with⟨rfl,rfl⟩ | ⟨rfl,rfl⟩ | ⟨rfl,rfl⟩<;>rw[c]at n<;>rcases n with⟨rfl,rfl⟩ | ⟨rfl,rfl⟩
  ·exact⟨[2,0],rfl,(c _ _ _ _).mpr (.inl ⟨rfl,rfl⟩)⟩
  ·exact⟨[0,1],rfl,(c _ _ _ _).mpr (.inr ⟨rfl,rfl⟩)⟩
  ·exact⟨[0,1],rfl,(c _ _ _ _).mpr (.inl ⟨rfl,rfl⟩)⟩
  ·exact⟨[1,2],rfl,(c _ _ _ _).mpr (.inr ⟨rfl,rfl⟩)⟩
  ·exact⟨[1,2],rfl,(c _ _ _ _).mpr (.inl ⟨rfl,rfl⟩)⟩
  ·exact⟨[2,0],rfl,(c _ _ _ _).mpr (.inr ⟨rfl,rfl⟩)⟩
 ·intro x d
  match x,d with
  | 0,_=>exact .here _
  | 1,_=>exact .more (.here _) ⟨[1,2],rfl,by decide⟩
  | 2,_=>exact .more (.here _) ⟨[1,2],rfl,by decide⟩
end
def xI(row:List Nat)(p:Nat):Option Nat:=if row.idxOf p=0 then row.getLast? else row[row.idxOf p-1]?
def zI{row:List Nat}{p v:Nat}(nd:row.Nodup)(hp:p∈row)(h:xI row p=some v):Nx row v p:=by
 obtain⟨A,B,rfl,hA,hB⟩:=xB hp nd;unfold xI at h;rw[dB hA]at h;by_cases h0:A.length=0
 ·have:A=[]:=pe.mp h0
  subst this;rw[if_pos h0,pd]at h;show Adj (p::B++[p]) v p
  have e:p::B=(p::B).dropLast++[v]:=by
   rw[eo (Aw p B)]at h;rw[<-bh h];exact(eK (Aw p B)).symm
  rw[e,di];exact(qY _ v [p] v p).mpr (.inr (.inl ⟨rfl,rfl⟩))
 ·rw[if_neg h0]at h
  rw[bq (by omega)]at h;have a:A≠[]:=λ z=>h0 (by rw[z];rfl)
  have e:A=A.dropLast++[v]:=by
   have z:A.getLast?=some v:=by rw[uq];exact h
   rw[eo a]at z;rw[<-bh z];exact(eK a).symm
  rw[e,di];rw[jF];show Nx (v::(p::B)++A.dropLast) v p;exact .inl ⟨rfl,rfl⟩
def vF{row:List Nat}{p:Nat}(hp:p∈row):∃ v,xI row p=some v:=by
 have b:=fq hp;unfold xI
 split
 ·have a:row≠[]:=λ z=>by rw[z]at hp;cases hp
  exact⟨_,eo a⟩
 ·exact⟨_,ae (show row.idxOf p-1<row.length by omega)⟩
end Tri
namespace Rnd
open Cyc Tri
section
variable {α:Type} [DecidableEq α]
def it(f:α->α):Nat->α->α
 | 0,x=>x
 | n+1,x=>f (it f n x)
def aM(f:α->α)(m n:Nat)(x:α):it f (m+n) x=it f m (it f n x):=by
 induction m with
 | zero=>rw[CZ];rfl
 | succ m ih=>rw[Nat.succ_add];show f _=f _;rw[ih]
structure Perm(f:α->α)(S:List α):Prop where
 to:∀ x,x∈S->f x∈S
 one:∀ x y,x∈S->y∈S->f x=f y->x=y
theorem Perm.it{f:α->α}{S:List α}(h:Perm f S)(n:Nat){x:α}(a:x∈S):it f n x∈S:=by
 induction n with
 | zero=>exact a
 | succ n ih=>exact h.to _ ih
def Perm.back{f:α->α}{S:List α}(h:Perm f S)(n:Nat){x y:α}(a:x∈S)(b:y∈S)(e:Rnd.it f n x=Rnd.it f n y):x=y:=by
 induction n with
 | zero=>exact e
 | succ n ih=>exact ih (h.one _ _ (h.it n a) (h.it n b) e)
theorem cY{f:Nat->α}:∀(n:Nat),(∀ i j,i<j->j<n->f i≠f j)->((cf n).map f).Nodup
 | 0,_=>by simp
 | n+1,h=>by
  rw[BY,cu,cy];refine⟨cY n λ i j a b=>h i j a (by omega),by simp,λ a c b g=>?_⟩;obtain⟨i,d,rfl⟩:=fe.mp c;have:b=f n:=by simpa using g
  subst this;exact h i n (iP.mp d) (by omega)
def Perm.comes{f:α->α}{S:List α}(h:Perm f S){x:α}(d:x∈S):∃ k,0<k/\k<=S.length/\Rnd.it f k x=x/\∀ j,0<j->j<k->Rnd.it f j x≠x:=by
 have some:∃ k,0<k/\k<=S.length/\Rnd.it f k x=x:=by
  refine eR λ o=>?_
  have nd:((cf (S.length+1)).map λ i=>Rnd.it f i x).Nodup:=cY _ λ i j u C e=>by
   refine o ⟨j-i,by omega,by omega,?_⟩
   have l:Rnd.it f i (Rnd.it f (j-i) x)=Rnd.it f i x:=by
    rw[<-aM,show i+(j-i)=j by omega];exact e.symm
   exact h.back i (h.it _ d) d l
  have le:=eV nd (l₂:=S) λ y p=>by
   obtain⟨i,_,rfl⟩:=fe.mp p;exact h.it i d
  rw[aj,fu]at le;omega
 obtain⟨A,p0,q,s⟩:=some
 have kMC:∀ n,(∃ k,0<k/\k<=n/\Rnd.it f k x=x)->∃ k,0<k/\k<=n/\Rnd.it f k x=x/\∀ j,0<j->j<k->Rnd.it f j x≠x:=λ n=>by
  induction n with
  | zero=>rintro⟨k,a,b,_⟩;omega
  | succ n ih =>
   intro v;by_cases c:∃ k,0<k/\k<=n/\Rnd.it f k x=x
   ·obtain⟨k,a,b,e,m⟩:=ih c
    exact⟨k,a,by omega,e,m⟩
   ·obtain⟨k,a,b,e⟩:=v
    refine⟨k,a,b,e,λ j g B r=>c ⟨j,g,by omega,r⟩⟩
 exact kMC S.length ⟨A,p0,q,s⟩
def Perm.round_nodup{f:α->α}{S:List α}(h:Perm f S){x:α}(a:x∈S){k:Nat}(m:∀ j,0<j->j<k->Rnd.it f j x≠x):((cf k).map λ i=>Rnd.it f i x).Nodup:=cY _ λ i j c d e=>by
 refine m (j-i) (by omega) (by omega) ?_
 have b:Rnd.it f i (Rnd.it f (j-i) x)=Rnd.it f i x:=by
  rw[<-aM,show i+(j-i)=j by omega];exact e.symm
 exact h.back i (h.it _ a) a b
end
def kM(W:Rows):List (Nat×Nat):=(cf W.length).flatMap λ p=>(W.getD p []).map λ q=>(p,q)
def mem_steps{W:Rows}{p q:Nat}:(p,q)∈kM W↔E W p q:=by
 unfold kM E;rw[vh];constructor
 ·rintro⟨c,hp,h⟩
  obtain⟨d,b,e⟩:=fe.mp h;cases e
  have a:=iP.mp hp;refine⟨W[p],ae a,?_⟩;simpa[ao,a] using b
 ·rintro⟨row,e,h⟩
  have a:=(ak.mp e).1;refine⟨p,iP.mpr a,fe.mpr ⟨q,?_,rfl⟩⟩;rw[ao,e];exact h
def nxt(W:Rows)(s:Nat×Nat):Nat×Nat:=(s.2,(xI (W.getD s.2 []) s.1).getD 0)
def lU{W:Rows}(nd:∀(p:Nat)(row:List Nat),W[p]?=some row->row.Nodup)(sym:∀ a b,E W a b->E W b a):Perm (nxt W) (kM W):=by
 have look:∀ p q,(p,q)∈kM W->∃ row v,W[q]?=some row/\p∈row/\xI row p=some v/\nxt W (p,q)=(q,v)/\Nx row v p:=λ p q h=>by
  obtain⟨row,e,m⟩:=sym p q (mem_steps.mp h);obtain⟨v,f⟩:=vF m;refine⟨row,v,e,m,f,?_,zI (nd q row e) m f⟩;unfold nxt;rw[ao,e];show(q,(xI row p).getD 0)=(q,v);rw[f]
  rfl
 refine⟨λ s h=>?_,λ s t x u e=>?_⟩
 ·obtain⟨p,q⟩:=s
  obtain⟨row,v,c,o,y,d,g⟩:=look p q h;rw[d];exact mem_steps.mpr ⟨row,c,(kT g).1⟩
 ·obtain⟨p,q⟩:=s
  obtain⟨B,l⟩:=t;obtain⟨row,v,c,o,y,d,g⟩:=look p q x;obtain⟨j,r,i,G,H,A,C⟩:=look B l u;rw[d,A]at e;have D:q=l:=congrArg BZ e;have n:v=r:=congrArg qh e;subst D n;rw[c]at i;cases i
  rw[jV (nd q row c) g C]
end Rnd
namespace Tri
section
variable {R R':Nat->Nat->Nat->Prop} {N N' K:Nat->Nat->Prop} {inP:Nat->Prop} {f l w:Nat}
end
open Cyc
section
variable {A M C:List Nat} {f l w:Nat}
def nxP(M:List Nat)(f l a b:Nat):Nx (f::M++[l]) a b↔Adj (f::M++[l]) a b\/(a=l/\b=f):=by
 show Adj (f::M++[l]++[f]) a b↔_;rw[show f::M++[l]++[f]=(f::M)++l::[f] by simp,qY];simp only[Adj,or_false]
end
section
variable {L L2:Rows} {A M C:List Nat} {f l:Nat}
end
section
variable {L:Rows} {A M C:List Nat} {f l u:Nat}
theorem kBY:∀{P:List Nat}{l x:Nat},x∈P->∃ y,Adj (P++[l]) x y
 | [z],l,x,h=>⟨l,.inl ⟨by simpa using h,rfl⟩⟩
 | z::z'::r,l,x,h=>by
  rcases eA.mp h with e | h
  ·exact⟨z',.inl ⟨e,rfl⟩⟩
  ·obtain⟨y,a⟩:=kBY (l:=l) h
   exact⟨y,.inr a⟩
end
open Cyc Rnd
section
variable {W:Rows}
def rH{row:List Nat}{p v:Nat}(nd:row.Nodup)(h:Nx row v p):xI row p=some v:=by
 obtain⟨u,a⟩:=vF (kT h).2;rw[a,yJ nd h (zI nd (kT h).2 a)]
def aL(nd:∀(p:Nat)(row:List Nat),W[p]?=some row->row.Nodup){p q v:Nat}(h:R W q v p):nxt W (p,q)=(q,v):=by
 obtain⟨row,e,n⟩:=h;unfold nxt;rw[ao,e];show(q,(xI row p).getD 0)=(q,v);rw[rH (nd q row e) n]
 rfl
def dH(nd:∀(p:Nat)(row:List Nat),W[p]?=some row->row.Nodup):(kM W).Nodup:=by
 unfold kM;rw[Ba,Ct];refine⟨λ p hp=>?_,?_⟩
 ·have c:=iP.mp hp
  have e:W[p]?=some (W.getD p []):=by rw[ao,ae c];rfl
  have n:=nd p _ e;refine Dw _ (λ x y (z:x≠y) e=>z (congrArg qh e)) n
 ·refine qk.imp λ{p q} a=>?_
  intro x b y d e;obtain⟨_,_,rfl⟩:=fe.mp b;obtain⟨_,_,rfl⟩:=fe.mp d;exact a (congrArg BZ e)
def jX:∀(W:Rows) ,(kM W).length=(W.map jb).sum:=by
 intro W;unfold kM;rw[wk]
 congr 1
 refine CK (by simp) λ i h1 a=>?_;simp at h1 a;simp[ao,h1]
end
theorem kGS(f:Nat->Nat):∀(l:List Nat)(a b:Nat),Adj (l.map f) a b↔∃ x y,Adj l x y/\a=f x/\b=f y
 | [],a,b=>⟨λ h=>h.elim,λ⟨_,_,h,_⟩=>h.elim⟩
 | [z],a,b=>⟨λ h=>h.elim,λ⟨_,_,h,_⟩=>h.elim⟩
 | z::z'::r,a,b=>by
  have c:=kGS f (z'::r) a b;constructor
  ·rintro(⟨rfl,rfl⟩ | h)
   ·exact⟨z,z',.inl ⟨rfl,rfl⟩,rfl,rfl⟩
   ·obtain⟨x,y,h,e⟩:=c.mp h
    exact⟨x,y,.inr h,e⟩
  ·rintro⟨x,y,⟨rfl,rfl⟩ | h,rfl,rfl⟩
   ·exact .inl ⟨rfl,rfl⟩
   ·exact .inr (c.mpr ⟨x,y,h,rfl,rfl⟩)
def kLV(f:Nat->Nat)(l:List Nat)(a b:Nat):Nx (l.map f) a b↔∃ x y,Nx l x y/\a=f x/\b=f y:=by
 unfold Nx;rw[show l.map f++(l.map f).head?.toList=(l++l.head?.toList).map f by cases l<;>simp];exact kGS f _ a b
def Reach.symm{W:Rows}(sym:∀ a b,E W a b->E W b a){a b:Nat}(h:Reach W a b):Reach W b a:=by
 induction h with
 | here=>exact .here _
 | more _ e ih=>exact(Reach.more (.here _) (sym _ _ e)).trans ih
structure Ren(L W:Rows)(ns:List Nat):Prop where
 perm:ns.Perm (cf L.length)
 len:W.length=L.length
 at':∀(p:Nat)(row:List Nat),L[p]?=some row->∃ n A B,ns[p]?=some n/\row.map (λ q=>ns.getD q 0)=A++B/\W[n]?=some (B++A)
section
variable {L W:Rows} {ns:List Nat}
def Ren.nlen(h:Ren L W ns):ns.length=L.length:=by rw[h.perm.length_eq,fu]
def Ren.get(h:Ren L W ns){p:Nat}(hp:p<L.length):ns[p]?=some (ns.getD p 0):=by
 rw[ao,ae (by rw[h.nlen];exact hp)]
 rfl
def Ren.lt(h:Ren L W ns){p:Nat}(hp:p<L.length):ns.getD p 0<L.length:=iP.mp (h.perm.mem_iff.mp (dh (h.get hp)))
def Ren.inj(h:Ren L W ns){p q:Nat}(hp:p<L.length)(a:q<L.length)(e:ns.getD p 0=ns.getD q 0):p=q:=by
 have nd:ns.Nodup:=h.perm.nodup_iff.mpr qk;have h1:=h.get hp;have b:=h.get a;rw[e,<-b]at h1;exact(yj (by rw[h.nlen];exact hp) nd).mp h1
def Ren.sur(h:Ren L W ns){x:Nat}(a:x<L.length):∃ p,p<L.length/\ns.getD p 0=x:=by
 obtain⟨p,hp,e⟩:=List.getElem_of_mem (h.perm.mem_iff.mpr (iP.mpr a));rw[h.nlen]at hp;refine⟨p,hp,?_⟩;rw[ao,ae (by rw[h.nlen];exact hp),e]
 rfl
theorem Ren.row(h:Ren L W ns){x:Nat}{c:List Nat}(e:W[x]?=some c):∃ p row,p<L.length/\L[p]?=some row/\x=ns.getD p 0/\c.Perm (row.map λ q=>ns.getD q 0)/\∀ a b,Nx c a b↔Nx (row.map λ q=>ns.getD q 0) a b:=by
 have i:x<L.length:=by rw[<-h.len];exact(ak.mp e).1
 obtain⟨p,hp,rfl⟩:=h.sur i;obtain⟨n,A,B,g,f,d⟩:=h.at' p _ (ae hp);rw[h.get hp]at g;cases g
 rw[e]at d;cases d
 refine⟨p,_,hp,ae hp,rfl,?_,λ a b=>?_⟩
 ·rw[f];exact lj
 ·rw[f];exact jF B A a b
def Ren.to(h:Ren L W ns){p:Nat}{row:List Nat}(e:L[p]?=some row):∃ row',W[ns.getD p 0]?=some row'/\row'.Perm (row.map λ q=>ns.getD q 0)/\∀ a b,Nx row' a b↔Nx (row.map λ q=>ns.getD q 0) a b:=by
 have hp:=(ak.mp e).1;obtain⟨n,A,B,d,c,f⟩:=h.at' p _ e;rw[h.get hp]at d;cases d
 exact⟨_,f,by rw[c];exact lj,λ a b=>by rw[c];exact jF B A a b⟩
def Ren.r_to(h:Ren L W ns){q a b:Nat}(r:R L q a b):R W (ns.getD q 0) (ns.getD a 0) (ns.getD b 0):=by
 obtain⟨row,e,n⟩:=r;obtain⟨c,d,_,f⟩:=h.to e;exact⟨c,d,(f _ _).mpr ((kLV _ _ _ _).mpr ⟨a,b,n,rfl,rfl⟩)⟩
def Ren.r_of(h:Ren L W ns){q a b:Nat}(r:R W q a b):∃ q' a' b',R L q' a' b'/\q=ns.getD q' 0/\a=ns.getD a' 0/\b=ns.getD b' 0:=by
 obtain⟨c,g,n⟩:=r;obtain⟨p,row,hp,e,rfl,_,f⟩:=h.row g;obtain⟨x,y,d,rfl,rfl⟩:=(kLV _ _ _ _).mp ((f _ _).mp n);exact⟨p,x,y,⟨row,e,d⟩,rfl,rfl,rfl⟩
def Ren.e_to(h:Ren L W ns){a b:Nat}(r:E L a b):E W (ns.getD a 0) (ns.getD b 0):=by
 obtain⟨row,e,m⟩:=r;obtain⟨c,d,f,_⟩:=h.to e;exact⟨c,d,f.mem_iff.mpr (fe.mpr ⟨b,m,rfl⟩)⟩
def Ren.e_of(h:Ren L W ns){a b:Nat}(r:E W a b):∃ x y,E L x y/\a=ns.getD x 0/\b=ns.getD y 0:=by
 obtain⟨c,f,m⟩:=r;obtain⟨p,row,hp,e,rfl,g,_⟩:=h.row f;obtain⟨y,d,rfl⟩:=fe.mp (g.mem_iff.mp m);exact⟨p,y,⟨row,e,d⟩,rfl,rfl⟩
def kAH(G:Good L)(h:Ren L W ns):Good W:=by
 have sym:∀ a b,E W a b->E W b a:=λ a b r=>by
  obtain⟨x,y,s,rfl,rfl⟩:=h.e_of r;exact h.e_to (G.sym s)
 have reach:∀{x y:Nat},Reach L x y->Reach W (ns.getD x 0) (ns.getD y 0):=λ r=>by
  induction r with
  | here=>exact .here _
  | more _ e ih=>exact .more ih (h.e_to e)
 have f:∀ x,x<L.length->Reach W (ns.getD 0 0) x:=λ x n=>by
  obtain⟨p,hp,rfl⟩:=h.sur n;exact reach (G.con p hp)
 refine⟨by rw[h.len];exact G.three,λ p c e=>?_,λ p c e=>?_,λ p c a e m=>?_,λ q a b r=>?_,λ p hp=>?_,?_⟩
 ·obtain⟨x,row,n,j,rfl,l,_⟩:=h.row e
  intro z;subst z;have:=l.length_eq;rw[aj]at this;exact G.ne _ _ j (pe.mp this.symm)
 ·obtain⟨x,row,n,j,rfl,l,_⟩:=h.row e
  refine l.nodup_iff.mpr ?_;rw[Ba,me];exact By (λ{u v} M H z e=>z (h.inj (G.rng _ _ _ j M).1 (G.rng _ _ _ j H).1 e)) (G.nd _ _ j)
 ·obtain⟨x,row,n,j,rfl,l,_⟩:=h.row e
  obtain⟨y,D,rfl⟩:=fe.mp (l.mem_iff.mp m);obtain⟨A,I⟩:=G.rng _ _ _ j D;exact⟨by rw[h.len];exact h.lt A,λ e=>I (h.inj A n e)⟩
 ·obtain⟨Q,O,N,s,rfl,rfl,rfl⟩:=h.r_of r
  exact h.r_to (G.tri _ _ _ s)
 ·rw[h.len]at hp
  have d:=G.three;exact(f 0 (by omega)).symm sym |>.trans (f p hp)
 ·have g:∀(V:Rows),V.map jb=(cf V.length).map λ x=>(V.getD x []).length:=λ V=>by
   refine CK (by simp) λ i h1 o=>?_;simp at h1 o;simp[ao,h1]
  have j:(W.map jb).sum=(ns.map λ x=>(W.getD x []).length).sum:=by
   rw[g W,h.len];exact(h.perm.symm.map _).sum_nat
  have B:(ns.map λ x=>(W.getD x []).length)=L.map jb:=by
   refine CK (by simp[h.nlen]) λ i h1 o=>?_;simp at h1 o;obtain⟨c,J,l,_⟩:=h.to (ae o);have C:ns[i]=ns.getD i 0:=by simp[ao,h1]
   have:=l.length_eq;rw[aj]at this;simp only[yz];rw[C,ao,J];exact this
  rw[j,B,h.len];exact G.tot
end
def Ro(r r':List Nat):Prop:=∃ A B,r=A++B/\r'=B++A
def Ro.trans{r r' b:List Nat}:Ro r r'->Ro r' b->Ro r b:=by
 rintro⟨A,B,rfl,rfl⟩ ⟨C,D,h1,rfl⟩;rcases List.append_eq_append_iff.mp h1 with⟨a,rfl,rfl⟩ | ⟨c,rfl,rfl⟩
 ·exact⟨a,D++B,by simp,by simp⟩
 ·exact⟨A++C,c,by simp,by simp⟩
def Ro.perm{r r':List Nat}:Ro r r'->r.Perm r':=by
 rintro⟨A,B,rfl,rfl⟩;exact lj
def Ro.mem{r r':List Nat}(h:Ro r r')(x:Nat):x∈r↔x∈r':=h.perm.mem_iff
def Ro.nd{r r':List Nat}(h:Ro r r'):r.Nodup↔r'.Nodup:=h.perm.nodup_iff
def Ro.nx{r r':List Nat}(h:Ro r r')(a b:Nat):Nx r a b↔Nx r' a b:=by
 obtain⟨A,B,rfl,rfl⟩:=h;exact jF A B a b
def Can(r:List Nat):Prop:=∀ x∈r,r.headD 0<=x
def rot(row:List Nat)(M:Nat):List Nat:=row.drop (row.idxOf M)++row.take (row.idxOf M)
def kSC(row:List Nat)(M:Nat):Ro row (rot row M):=⟨row.take (row.idxOf M),row.drop (row.idxOf M),(fv _ _).symm,rfl⟩
def kON{row:List Nat}{M:Nat}(h:M∈row)(d:∀ i∈row,M<=i):Can (rot row M):=by
 intro x c;have a:=d x (((kSC row M).mem x).mpr c);have b:=fq h;unfold rot;rw[zf b,AF b];exact a
structure Nb(L:Rows):Prop where
 nd:∀(p:Nat)(row:List Nat),L[p]?=some row->row.Nodup
 rng:∀(p:Nat)(row:List Nat)(a:Nat),L[p]?=some row->a∈row->a<L.length/\a≠p
 sym:∀ a b,E L a b->E L b a
structure Wb(L:Rows):Prop extends Nb L where
 three:3<=L.length
 con:∀ p,p<L.length->Reach L 0 p
theorem Nb.e{L:Rows}(S:Nb L){p q:Nat}(h:E L p q):p<L.length/\q<L.length/\q≠p:=by
 obtain⟨row,e,m⟩:=h;exact⟨(ak.mp e).1,(S.rng p row q e m).1,(S.rng p row q e m).2⟩
def Nb.len{L:Rows}(S:Nb L){p:Nat}{row:List Nat}(h:L[p]?=some row):row.length<=L.length:=by
 have:=eV (S.nd p row h) (l₂:=cf L.length) λ x a=>iP.mpr (S.rng p row x h a).1;rwa[fu]at this
def Wb.of{L:Rows}(G:Good L):Wb L:=⟨⟨G.nd,G.rng,λ a b h=>G.sym h⟩,G.three,G.con⟩
def xK{W:Rows}(S:Nb W){x y:Nat}(h:E W x y):∃ z,R W y z x/\nxt W (x,y)=(y,z)/\E W y z:=by
 obtain⟨row,e,m⟩:=S.sym _ _ h;obtain⟨z,n⟩:=kRF m;exact⟨z,⟨row,e,n⟩,aL S.nd ⟨row,e,n⟩,⟨row,e,(kT n).1⟩⟩
def kFW{W:Rows}(S:Nb W){x y:Nat}(h:E W x y)(n:Nat):E W (it (nxt W) n (x,y)).1 (it (nxt W) n (x,y)).2:=by
 have:=(lU S.nd S.sym).it n (mem_steps.mpr h);exact mem_steps.mp this
def kTF{α:Type}[DecidableEq α](f:α->α)(x:α){k:Nat}(h:it f k x=x)(n:Nat):it f (k*n) x=x:=by
 induction n with
 | zero=>rfl
 | succ n ih=>rw[Nat.mul_succ,aM,h,ih]
def kMI{α:Type}[DecidableEq α](f:α->α)(x:α){k:Nat}(h:it f k x=x)(n:Nat):it f n x=it f (n % k) x:=by
 conv=>lhs;rw[<-Nat.mod_add_div n k]
 rw[aM,kTF f x h]
end Tri
local macro_rules | `(tactic| walk_at "sort_open gallop")=>`(tactic| delta $(Lean.mkIdent (Lean.mkPrivateNameCore `PySem.Builtin.List.W1All `PySem.Builtin.gallop)):ident)
namespace Srt
set_option autoImplicit false
open PySem PyProof.Rows
def vL:Bool->bj->Array bj->Nat->Nat->Nat->StateT eN Sem (Option Nat):=sortPriv% PySem.Builtin.gallop
def cF(left:Bool)(key:bj)(arr:Array bj)(base:Nat)(i:Nat):StateT eN Sem (Option Bool):=do
 let x <-elem' arr (base+i)
 if left then lt' x key else return (<-lt' key x).map (!·)
section
variable {M:zi} {A:fk} {E:au->az->Prop} {s:az}
def kRI(left:Bool)(key:bj)(arr:Array bj)(base n b a:Nat):StateT eN Sem (Option Nat):=do
 let mut lo:=b
 let mut hi:=a
 for _ in [0:n] do
  if lo >= hi then break
  let m:=lo+(hi-lo) / 2
  let some more <-cF left key arr base m | return none
  if more then lo:=m+1 else hi:=m
 return some hi
variable {left:Bool} {key:bj} {arr:Array bj} {base n hint:Nat} {Q:Option Nat->eN->Prop} {st:eN}
def nJ(b:Nat->Bool){lo hi:Nat}
  (u:∀ i,i<n->∀ Q:Option Bool->eN->Prop,Q (some (b i)) st->wpS M A E s (cF left key arr base i) Q st)
  (mono:∀ i j,i<=j->j<n->b j=true->b i=true) (p:lo<=hi) (q:hi<=n) (h1:∀ i,i<lo->b i=true) (C:∀ i,hi<=i->i<n->b i=false)
  (h:∀ k,k<=n->(∀ i,i<k->b i=true)->(∀ i,k<=i->i<n->b i=false)->Q (some k) st):wpS M A E s (kRI left key arr base n lo hi) Q st:=by
 unfold kRI
 refine cm (vi (jw (I:=λ x c a=>a=st/\∃ l r,c=(none,l,r)/\l<=r/\r<=n/\r-l<=n-x/\(∀ i,i<l->b i=true)/\∀ i,r<=i->i<n->b i=false)
  (Q:=λ c a=>a=st/\∃ l,c=(none,l,l)/\l<=n/\(∀ i,i<l->b i=true)/\∀ i,l<=i->i<n->b i=false) ?step ?fin ⟨rfl,lo,hi,rfl,p,q,by omega,h1,C⟩) ?post)
 case post =>
  rintro c a ⟨rfl,l,rfl,v,g,f⟩;exact de (h l v g f)
 case fin =>
  rintro c a ⟨rfl,l,r,rfl,D,o,d,g,f⟩;have:l=r:=by omega
  subst this;exact⟨rfl,l,rfl,o,g,f⟩
 case step =>
  rintro x c a _ G ⟨rfl,l,r,rfl,D,o,d,g,f⟩;dsimp only;by_cases m:l >= r
  ·rw[if_pos m]
   have:l=r:=by omega
   subst this;exact de ⟨rfl,l,rfl,o,g,f⟩
  ·rw[if_neg m]
   refine cm (u _ (by omega) _ ?_)
   cases e:b (l+(r-l) / 2)
   case true =>
    simp only[if_true];exact de ⟨rfl,_,r,rfl,by omega,o,by omega,λ i hi=>mono i _ (by omega) (by omega) e,f⟩
   case false =>
    simp only[eE,if_false];refine de ⟨rfl,l,_,rfl,by omega,by omega,by omega,g,λ i B y=>?_⟩
    cases z:b i with
    | false=>rfl
    | true=>rw[mono _ i B y z]at e;cases e
def kCC(b:Nat->Bool)
  (m:∀ i,i<n->∀ Q:Option Bool->eN->Prop,Q (some (b i)) st->wpS M A E s (cF left key arr base i) Q st)
  (mono:∀ i j,i<=j->j<n->b j=true->b i=true) (C:hint<n)
  (h:∀ k,k<=n->(∀ i,i<k->b i=true)->(∀ i,k<=i->i<n->b i=false)->Q (some k) st):wpS M A E s (vL left key arr base n hint) Q st:=by
 unfold vL
 walk_at "sort_open gallop"
 dsimp only
 have y:∀{i j:Nat},i<=j->j<n->b i=false->b j=false:=λ{i j} h1 D e=>by
  cases z:b j with
  | false=>rfl
  | true=>rw[mono i j h1 D z]at e;cases e
 refine cm (m hint C _ ?_)
 cases e:b hint
 case true =>
  simp only[if_true]
  refine cm (vi (jw (I:=λ x c a=>a=st/\∃ l o,c=(none,l,o)/\l<o/\x+1<=o/\hint+l<n/\b (hint+l)=true)
   (Q:=λ c a=>a=st/\∃ l o,c=(none,l,o)/\l<o/\hint+l<n/\b (hint+l)=true/\(n-hint<=o\/(hint+o<n/\b (hint+o)=false))) ?step ?fin ⟨rfl,0,1,rfl,by omega,by omega,by omega,e⟩) ?post)
  case fin =>
   rintro c a ⟨rfl,l,o,rfl,lo,r,g,f⟩;exact⟨rfl,l,o,rfl,lo,g,f,.inl (by omega)⟩
  case step =>
   rintro x c a _ G ⟨rfl,l,o,rfl,lo,r,g,f⟩;dsimp only;by_cases d:o >= n-hint
   ·rw[if_pos d]
    exact de ⟨rfl,l,o,rfl,lo,g,f,.inl d⟩
   ·rw[if_neg d]
    refine cm (m _ (by omega) _ ?_)
    cases z:b (hint+o)
    case true =>
     simp only[zq,eE,if_false];exact de ⟨rfl,o,_,rfl,by omega,by omega,by omega,z⟩
    case false =>
     simp only[Ew,if_true];exact de ⟨rfl,l,o,rfl,lo,g,f,.inr ⟨by omega,z⟩⟩
  case post =>
   rintro c a ⟨rfl,l,o,rfl,lo,g,f,p⟩;refine nJ (lo:=hint+l+1) (hi:=hint+min o (n-hint)) b m mono (by omega) (by omega) (λ i u=>mono i (hint+l) (by omega) g f) (λ i B q=>?_) h;rcases p with z | ⟨H,v⟩
   ·omega
   ·exact y (i:=hint+o) (by omega) q v
 case false =>
  simp only[eE,if_false]
  refine cm (vi (jw (I:=λ x c a=>a=st/\∃ l o,c=(none,l,o)/\l<o/\x+1<=o/\l<=hint/\b (hint-l)=false)
   (Q:=λ c a=>a=st/\∃ l o,c=(none,l,o)/\l<o/\l<=hint/\b (hint-l)=false/\(hint+1<=o\/(o<=hint/\b (hint-o)=true))) ?step ?fin ⟨rfl,0,1,rfl,by omega,by omega,by omega,e⟩) ?post)
  case fin =>
   rintro c a ⟨rfl,l,o,rfl,lo,r,g,f⟩;exact⟨rfl,l,o,rfl,lo,g,f,.inl (by omega)⟩
  case step =>
   rintro x c a _ G ⟨rfl,l,o,rfl,lo,r,g,f⟩;dsimp only;by_cases d:o >= hint+1
   ·rw[if_pos d]
    exact de ⟨rfl,l,o,rfl,lo,g,f,.inl d⟩
   ·rw[if_neg d]
    refine cm (m _ (by omega) _ ?_)
    cases z:b (hint-o)
    case false =>
     simp only[eE,if_false];exact de ⟨rfl,o,_,rfl,by omega,by omega,by omega,z⟩
    case true =>
     simp only[if_true];exact de ⟨rfl,l,o,rfl,lo,g,f,.inr ⟨by omega,z⟩⟩
  case post =>
   rintro c a ⟨rfl,l,o,rfl,lo,g,f,p⟩;refine nJ (lo:=hint+1-min o (hint+1)) (hi:=hint-l) b m mono (by omega) (by omega) (λ i u=>?_) (λ i B q=>y (i:=hint-l) B q f) h;rcases p with z | ⟨H,v⟩
   ·omega
   ·exact mono i (hint-o) (by omega) (by omega) v
end
section
variable {α:Type}
structure Wk(lb:α->α->Bool):Prop where
 irr:∀ a,lb a a=false
 neg:∀ a b c,lb a c=true->lb a b=true\/lb b c=true
 tr:∀ a b c,lb a b=true->lb b c=true->lb a c=true
variable {lb:α->α->Bool}
def le(lb:α->α->Bool)(a b:α):Prop:=lb b a=false
def Wk.refl(W:Wk lb)(a:α):le lb a a:=W.irr a
def Wk.of_lt(W:Wk lb){a b:α}(h:lb a b=true):le lb a b:=by
 unfold le
 cases e:lb b a with
 | false=>rfl
 | true=>have:=W.tr _ _ _ h e;rw[W.irr]at this;cases this
def Wk.trans(W:Wk lb){a b c:α}(h:le lb a b)(k:le lb b c):le lb a c:=by
 unfold le at *
 cases e:lb c a with
 | false=>rfl
 | true =>
  rcases W.neg c b a e with z | z
  ·rw[k]at z;cases z
  ·rw[h]at z;cases z
def jE(lb:α->α->Bool)(l:List α):Prop:=l.Pairwise (le lb)
structure Mg(lb:α->α->Bool)(A B:List α)(out ra rb:List α):Prop where
 sa:jE lb (out++ra)
 sb:jE lb (out++rb)
 pm:(out++(ra++rb)).Perm (A++B)
def Mg.moveA{A B a c g b:List α}(h:Mg lb A B a (c++g) b)(j:∀ x∈c,∀ y∈b,le lb x y):Mg lb A B (a++c) g b:=by
 refine⟨by rw[di];exact h.sa,?_,?_⟩
 ·have h1:=eD.mp h.sa
  have f:=eD.mp h.sb;have i:=eD.mp h1.2.1;rw[jE,di];refine eD.mpr ⟨h1.1,eD.mpr ⟨i.1,f.2.1,j⟩,λ x d y l=>?_⟩;rcases bz.mp l with z | z
  ·exact h1.2.2 x d y (df _ z)
  ·exact f.2.2 x d y z
 ·refine uy ?_ h.pm
  simp only[di];exact AQ _
def Mg.swap{A B a c b:List α}(h:Mg lb A B a c b):Mg lb B A a b c :=
 ⟨h.sb,h.sa,((lj).append_left a).trans (h.pm.trans lj)⟩
def Mg.moveB{A B a c b d:List α}(h:Mg lb A B a b (c++d))(f:∀ x∈c,∀ y∈b,le lb x y):Mg lb A B (a++c) b d:=(h.swap.moveA f).swap
def Res(lb:α->α->Bool)(A B r:List α):Prop:=jE lb r/\r.Perm (A++B)
def Mg.endA{A B a b:List α}(h:Mg lb A B a b []):Res lb A B (a++b++[]):=⟨by simpa using h.sa,by simpa using h.pm⟩
def Mg.endB{A B a b:List α}(h:Mg lb A B a [] b):Res lb A B (a++[]++b):=⟨by simpa using h.sb,by simpa using h.pm⟩
def Mg.last{A B a b:List α}{z:α}(h:Mg lb A B a [z] b)(hz:∀ y∈b,le lb y z):Res lb A B (a++b++[z]):=by
 refine⟨?_,?_⟩
 ·have h1:=eD.mp h.sa
  have f:=eD.mp h.sb;refine eD.mpr ⟨h.sb,ph _ _,λ x c y d=>?_⟩;have:y=z:=by simpa using d
  subst this;rcases bz.mp c with w | w
  ·exact h1.2.2 x w y (by simp)
  ·exact hz x w
 ·refine uy ?_ h.pm
  rw[di];exact lj.append_left a
end
def mB:Array bj->Array bj->StateT eN Sem (Array bj):=sortPriv% PySem.Builtin.mergeLo
def xN:Nat->StateT eN Sem Unit:=sortPriv% PySem.Builtin.setMinGallop
abbrev wG(st:eN)(g:Nat):eN:=Ca (kindOf st) (cx st) (cw st) g (vj st)
def setMinGallop'_eq(g:Nat):xN g=modify λ s=>wG s g:=rfl
end Srt
local macro_rules | `(tactic| walk_at "sort_open mergeLo")=>`(tactic| delta $(Lean.mkIdent (Lean.mkPrivateNameCore `PySem.Builtin.List.W1All `PySem.Builtin.mergeLo)):ident)
namespace Srt
set_option autoImplicit false
open PySem PyProof.Rows
section
variable {M:zi} {A:fk} {E:au->az->Prop} {s:az} {lb:bj->bj->Bool} {D:bj->Prop} {kd:oy}
def vW(M:zi)(A:fk)(E:au->az->Prop)(s:az)(lb:bj->bj->Bool)(D:bj->Prop)(kd:oy):Prop :=
 ∀ x y,D x->D y->∀(st:eN)(Q:Option Bool->eN->Prop),kindOf st=kd->Q (some (lb x y)) st->wpS M A E s (lt' x y) Q st
def qD{arr:Array bj}{i:Nat}{p:bj}{Q:bj->eN->Prop}{st:eN}(h:arr[i]?=some p)(q:Q p st):wpS M A E s (elem' arr i) Q st:=by
 rw[elem'_eq,h];exact de q
def Sm(st a:eN):Prop:=kindOf a=kindOf st/\cx a=cx st/\cw a=cw st/\vj a=vj st
def Sm.refl(st:eN):Sm st st:=⟨rfl,rfl,rfl,rfl⟩
def Sm.gal{st a:eN}(h:Sm st a)(g:Nat):Sm st (wG a g):=h
def wK{x:String}{Q:Unit->eN->Prop}{st:eN}(q:Q () st):wpS M A E s (liftM (rule x):StateT eN Sem Unit) Q st:=GX (xp ⟨rfl,q⟩)
def kCE(a:vW M A E s lb D kd){left:Bool}{key x:bj}{arr:Array bj}{base i:Nat}{Q:Option Bool->eN->Prop}{st:eN}(d:kindOf st=kd)(f:arr[base+i]?=some x)(c:D key)(b:D x)
  (q:Q (some (if left then lb x key else !lb key x)) st):wpS M A E s (cF left key arr base i) Q st:=by
 unfold cF;refine cm (qD f ?_)
 cases left with
 | true =>
  simp only[if_true]at q ⊢;exact a _ _ b c st _ d q
 | false =>
  simp only[eE,if_false]at q ⊢;exact cm (a _ _ c b st _ d (de q))
def uQ(W:Wk lb)(l:vW M A E s lb D kd){left:Bool}{key:bj}{arr:Array bj}{base n b:Nat}{Q:Option Nat->eN->Prop}{st:eN}(p:kindOf st=kd)(o:D key)(r:∀ x∈arr.toList,D x)
  (y:base+n<=arr.size) (f:∀ i j (hi:i<=j) (d:j<n),le lb (arr[base+i]'(by omega)) (arr[base+j]'(by omega))) (u:b<n)
  (h:∀ k,k<=n->(∀ i (hi:i<k) (a:i<n),if left then lb (arr[base+i]'(by omega)) key=true else le lb (arr[base+i]'(by omega)) key) ->
   (∀ i (hi:k<=i) (a:i<n),if left then le lb key (arr[base+i]'(by omega)) else lb key (arr[base+i]'(by omega))=true)->Q (some k) st):wpS M A E s (vL left key arr base n b) Q st:=by
 have g:∀ i,i<n->arr[base+i]?=some (arr.getD (base+i) key):=λ i hi=>by
  rw[getElem?_pos arr (base+i) (by omega)]
  congr 1
  simp[Gf,show base+i<arr.size by omega]
 have c:∀ i (hi:i<n),arr.getD (base+i) key=arr[base+i]'(by omega):=λ i hi=>by simp[Gf,show base+i<arr.size by omega]
 refine kCC (λ i=>if left then lb (arr.getD (base+i) key) key else !lb key (arr.getD (base+i) key)) (λ i hi Q q=>kCE l p (g i hi) o (by rw[c i hi];exact r _ (by simp)) q) (λ i j hi d e=>?_) u (λ k v h1 m=>h k v (λ i hi a=>?_) (λ i hi a=>?_))
 ·have:=f i j hi d
  rw[c i (by omega)];rw[c j d]at e
  cases left with
  | true =>
   simp only[if_true]at e ⊢;rcases W.neg _ (arr[base+i]'(by omega)) _ e with z | z
   ·rw[show lb _ _=false from this]at z;cases z
   ·exact z
  | false =>
   simp only[eE,if_false,Dx]at e ⊢;exact W.trans (lb:=lb) this (show le lb _ _ from e)
 ·have:=h1 i hi
  rw[c i a]at this
  cases left with
  | true=>simpa using this
  | false=>simp only[eE,if_false,Dx]at this ⊢;exact this
 ·have:=m i hi a
  rw[c i a]at this
  cases left with
  | true=>simp only[if_true]at this ⊢;exact this
  | false=>simp only[eE,if_false,Bool.not_eq_false']at this ⊢;exact this
abbrev LS:=Option (Array bj)×Array bj×Nat×Nat×Nat×Nat×Nat
section
variable (a b:Array bj)
def pC(c:Array bj)(d h g k f:Nat):StateT eN Sem (ForInStep LS):=do
 let x <-elem' a d
 if(d+1+1 == a.size)=true then pure (.done (some (c.push x++b.extract h++a.extract (d+1)),c.push x,d+1,h,g,k,f))
 else if(decide (k<7) && decide (f<7))=true then pure (.done (none,c.push x,d+1,h,g,k,f)) else pure (.yield (none,c.push x,d+1,h,g,k,f))
def pB(d:Array bj)(f c g k ob:Nat):StateT eN Sem (ForInStep LS):=do
 let y <-elem' b c
 if(c+1 == b.size)=true then pure (.done (some (d.push y++a.extract f++b.extract (c+1)),d.push y,f,c+1,g,k,ob))
 else do
  let x <-elem' a f
  let r <-vL true x b (c+1) (b.size-(c+1)) 0
  match r with
  | some k1 =>
   if k1>0 then
    if(c+1+k1 == b.size)=true then pure (.done (some (d.push y++b.extract (c+1) (c+1+k1)++a.extract f++b.extract (c+1+k1)),d.push y++b.extract (c+1) (c+1+k1),f,c+1+k1,g,k,k1))
    else pC a b (d.push y++b.extract (c+1) (c+1+k1)) f (c+1+k1) g k k1
   else pC a b (d.push y) f (c+1) g k k1
  | x=>pure (.done (some (d.push y++a.extract f++b.extract (c+1)),d.push y,f,c+1,g,k,ob))
def pA(d:Array bj)(c f g h ob:Nat):StateT eN Sem (ForInStep LS):=do
 xN g
 let y <-elem' b f
 let r <-vL false y a c (a.size-c) 0
 match r with
 | some k =>
  if k>0 then
   if(c+k+1 == a.size)=true then pure (.done (some (d++a.extract c (c+k)++b.extract f++a.extract (c+k)),d++a.extract c (c+k),c+k,f,g,k,ob))
   else if(c+k == a.size)=true then pure (.done (some (d++a.extract c (c+k)++a.extract (c+k)++b.extract f),d++a.extract c (c+k),c+k,f,g,k,ob))
   else pB a b (d++a.extract c (c+k)) (c+k) f g k ob
  else pB a b d c f g k ob
 | x=>pure (.done (some (d++a.extract c++b.extract f),d,c,f,g,h,ob))
abbrev LS1:=Option (Array bj)×Array bj×Nat×Nat×Nat×Nat
def p1(mg:Nat)(c:LS1):StateT eN Sem (ForInStep LS1):=do
 let y <-elem' b c.2.2.2.1
 let x <-elem' a c.2.2.1
 let r <-lt' y x
 match r with
 | some bw =>
  if bw=true then do
   let y <-elem' b c.2.2.2.1
   if(c.2.2.2.1+1 == b.size)=true then pure (.done (some (c.2.1.push y++a.extract c.2.2.1++b.extract (c.2.2.2.1+1)),c.2.1.push y,c.2.2.1,c.2.2.2.1+1,0,c.2.2.2.2.2+1))
   else if c.2.2.2.2.2+1 >= mg then pure (.done (none,c.2.1.push y,c.2.2.1,c.2.2.2.1+1,0,c.2.2.2.2.2+1))
   else pure (.yield (none,c.2.1.push y,c.2.2.1,c.2.2.2.1+1,0,c.2.2.2.2.2+1))
  else do
   let x <-elem' a c.2.2.1
   if(c.2.2.1+1+1 == a.size)=true then pure (.done (some (c.2.1.push x++b.extract c.2.2.2.1++a.extract (c.2.2.1+1)),c.2.1.push x,c.2.2.1+1,c.2.2.2.1,c.2.2.2.2.1+1,0))
   else if c.2.2.2.2.1+1 >= mg then pure (.done (none,c.2.1.push x,c.2.2.1+1,c.2.2.2.1,c.2.2.2.2.1+1,0))
   else pure (.yield (none,c.2.1.push x,c.2.2.1+1,c.2.2.2.1,c.2.2.2.2.1+1,0))
 | x=>pure (.done (some (c.2.1++a.extract c.2.2.1++b.extract c.2.2.2.1),c.2.1,c.2.2.1,c.2.2.2.1,c.2.2.2.2.1,c.2.2.2.2.2))
abbrev LS0:=Option (Array bj)×Array bj×Nat×Nat×Nat
def p0(c:LS0):StateT eN Sem (ForInStep LS0):=do
 let d <-forIn [:a.size+b.size] ((none,c.2.1,c.2.2.1,c.2.2.2.1,0,0):LS1) λ x d=>p1 a b c.2.2.2.2 d
 match d.1 with
 | some r=>pure (.done (some r,d.2.1,d.2.2.1,d.2.2.2.1,c.2.2.2.2))
 | none=>do
  liftM (rule "list.sort.gallop")
  let f <-forIn [:a.size+b.size] ((none,d.2.1,d.2.2.1,d.2.2.2.1,c.2.2.2.2+1,d.2.2.2.2.1,d.2.2.2.2.2):LS) λ x f =>
   if f.2.2.2.2.1>1 then pA a b f.2.1 f.2.2.1 f.2.2.2.1 (f.2.2.2.2.1-1) f.2.2.2.2.2.1 f.2.2.2.2.2.2 else pA a b f.2.1 f.2.2.1 f.2.2.2.1 f.2.2.2.2.1 f.2.2.2.2.2.1 f.2.2.2.2.2.2
  match f.1 with
  | some r=>pure (.done (some r,f.2.1,f.2.2.1,f.2.2.2.1,f.2.2.2.2.1))
  | none=>do
   xN (f.2.2.2.2.1+1)
   pure (.yield (none,f.2.1,f.2.2.1,f.2.2.2.1,f.2.2.2.2.1+1))
def mergeLo'_parts:mB a b=(do
  liftM (rule "list.sort.merge-lo")
  let y <-elem' b 0
  if(1 == b.size)=true then pure (#[y]++a.extract 0++b.extract 1)
  else if(0+1 == a.size)=true then pure (#[y]++b.extract 1++a.extract 0)
  else do
   let st <-get
   let c <-forIn [:a.size+b.size] ((none,#[y],0,1,gallopOf st):LS0) λ x c=>p0 a b c
   match c.1 with
   | some r=>pure r
   | none=>unsupported "internal:list.sort.merge-bound"):=by
 unfold mB
 walk_at "sort_open mergeLo"
 dsimp only;refine congrArg _ (funext λ _=>?_);refine congrArg _ (funext λ y=>?_);refine congrArg _ ?_;refine congrArg _ ?_;refine congrArg _ (funext λ st=>?_);refine congr (congrArg _ (congrArg _ (funext λ x=>funext λ c=>?_))) (funext λ c=>by cases c.1<;>rfl);unfold p0;refine congr (congrArg _ (congrArg _ (funext λ x=>funext λ d=>?_))) (funext λ d=>?_)
 ·unfold p1
  refine congrArg _ (funext λ _=>?_);refine congrArg _ (funext λ _=>?_);refine congrArg _ (funext λ r=>?_);cases r<;>rfl
 ·cases d.1 with
  | some r=>rfl
  | none =>
   dsimp only;refine congrArg _ (funext λ _=>?_);refine congr (congrArg _ (congrArg _ (funext λ x=>funext λ f=>?_))) (funext λ f=>by cases f.1<;>rfl);have tail:∀(h:Array bj)(i l g k j:Nat),True:=λ _ _ _ _ _ _=>trivial;refine ite_congr rfl (λ _=>?_) (λ _=>?_)
   all_goals
    unfold pA;refine congrArg _ (funext λ _=>?_);refine congrArg _ (funext λ y=>?_);refine congrArg _ (funext λ r=>?_)
    cases r with
    | none=>rfl
    | some k =>
     dsimp only;refine ite_congr rfl (λ _=>ite_congr rfl (λ _=>rfl) (λ _=>ite_congr rfl (λ _=>rfl) (λ _=>?_))) (λ _=>?_)
     all_goals
      unfold pB;refine congrArg _ (funext λ y=>?_);refine ite_congr rfl (λ _=>rfl) (λ _=>?_);refine congrArg _ (funext λ x=>?_);refine congrArg _ (funext λ r=>?_);cases r<;>rfl
end
end
section
variable {α:Type}
def wX(a:Array α)(i:Nat):(a.extract i).toList=a.toList.drop i:=by
 rw[vk,qm];exact md (by simp)
def xH(a:Array α)(i k:Nat):(a.extract i (i+k)).toList=(a.toList.drop i).take k:=by
 rw[vk,qm]
 congr 1
 omega
def drop_one{a:Array α}{i:Nat}(h:i<a.size):a.toList.drop i=[a[i]]++a.toList.drop (i+1):=by
 rw[zf (by simpa using h)]
 rfl
def kDS(l:List α)(i k:Nat):l.drop i=(l.drop i).take k++l.drop (i+k):=by
 conv=>lhs;rw[<-fv k (l.drop i)]
 rw[AR]
end
section
variable {M:zi} {A:fk} {E:au->az->Prop} {s:az} {lb:bj->bj->Bool} {D:bj->Prop} {kd:oy} {a b:Array bj}
structure Hy(M:zi)(A:fk)(E:au->az->Prop)(s:az)(lb:bj->bj->Bool)(D:bj->Prop)(kd:oy)(a b:Array bj):Prop where
 W:Wk lb
 L:vW M A E s lb D kd
 da:∀ x∈a.toList,D x
 db:∀ x∈b.toList,D x
 sa:jE lb a.toList
 sb:jE lb b.toList
 last:∀(h:0<a.size),∀ y∈b.toList,le lb y a[a.size-1]
def MI(lb:bj->bj->Bool)(a b:Array bj)(c:Array bj)(d f:Nat):Prop :=
 Mg lb a.toList b.toList c.toList (a.toList.drop d) (b.toList.drop f)/\d+1<a.size/\f<b.size/\c.size=d+f
def Yd(lb:bj->bj->Bool)(a b:Array bj)(n:Nat){d:Type}(c:Option (Array bj)×Array bj×Nat×Nat×d):Prop:=c.1=none/\MI lb a b c.2.1 c.2.2.1 c.2.2.2.1/\n<=c.2.1.size
def Dn(lb:bj->bj->Bool)(a b:Array bj)(n:Nat){d:Type}(c:Option (Array bj)×Array bj×Nat×Nat×d):Prop:=(∃ r,c.1=some r/\Res lb a.toList b.toList r.toList)\/Yd lb a b n c
def RR(lb:bj->bj->Bool)(a b:Array bj)(n:Nat){d:Type}:ForInStep (Option (Array bj)×Array bj×Nat×Nat×d)->Prop
 | .done c=>Dn lb a b n c
 | .yield c=>Yd lb a b n c
def wF(W:Wk lb){a:Array bj}(h:jE lb a.toList){i j:Nat}(b:i<=j)(c:j<a.size):le lb (a[i]'(by omega)) a[j]:=by
 by_cases e:i=j
 ·subst e;exact W.refl _
 ·have:=qb.mp h i j (by simp;omega) (by simp;omega) (by omega)
  simpa using this
def yW{a:Array bj}{i:Nat}{x:bj}(h:x∈a.toList.drop i):∃ j,∃ hj:j<a.size,i<=j/\x=a[j]:=by
 obtain⟨k,b,e⟩:=eO.mp h;rw[iZ]at b;refine⟨i+k,by simp at b;omega,by omega,?_⟩;rw[<-e,Bv];simp
def kGC{c:Array bj}{f d:Nat}(h:Mg lb a.toList b.toList c.toList (a.toList.drop f) (b.toList.drop d))(e:d=b.size):Res lb a.toList b.toList (c++a.extract f++b.extract d).toList:=by
 rw[iG,iG,wX,wX];have z:b.toList.drop d=[]:=oq (by simp;omega);rw[z]at h ⊢;exact h.endA
def kVK{c:Array bj}{d f:Nat}(h:Mg lb a.toList b.toList c.toList (a.toList.drop d) (b.toList.drop f))(e:d=a.size):Res lb a.toList b.toList (c++a.extract d++b.extract f).toList:=by
 rw[iG,iG,wX,wX];have z:a.toList.drop d=[]:=oq (by simp;omega);rw[z]at h ⊢;exact h.endB
def cB(H:Hy M A E s lb D kd a b){d:Array bj}{c f:Nat}(h:Mg lb a.toList b.toList d.toList (a.toList.drop c) (b.toList.drop f))(e:c+1=a.size):Res lb a.toList b.toList (d++b.extract f++a.extract c).toList:=by
 rw[iG,iG,wX,wX]
 have z:a.toList.drop c=[a[a.size-1]'(by omega)]:=by
  rw[drop_one (show c<a.size by omega),oq (by simp;omega)];simp only[iq]
  congr 2
  omega
 rw[z]at h ⊢;exact h.last λ y g=>H.last (by omega) y (Cz g)
def kCK(H:Hy M A E s lb D kd a b){f:Array bj}{g d:Nat}(p:g<a.size)(n:d<b.size)(h:Mg lb a.toList b.toList f.toList (a.toList.drop g) (b.toList.drop d))(c:le lb b[d] a[g]):Mg lb a.toList b.toList (f.push b[d]).toList (a.toList.drop g) (b.toList.drop (d+1)):=by
 rw[drop_one n]at h;rw[vw];refine h.moveB λ x l y o=>?_;have:x=b[d]:=by simpa using l
 subst this;obtain⟨j,i,m,rfl⟩:=yW o;exact H.W.trans c (wF H.W H.sa m i)
def kKD(H:Hy M A E s lb D kd a b){f:Array bj}{d g:Nat}(j:d<a.size)(h:Mg lb a.toList b.toList f.toList (a.toList.drop d) (b.toList.drop g))(c:∀ y∈b.toList.drop g,le lb a[d] y):Mg lb a.toList b.toList (f.push a[d]).toList (a.toList.drop (d+1)) (b.toList.drop g):=by
 rw[drop_one j]at h;rw[vw];refine h.moveA λ x i y l=>?_;have:x=a[d]:=by simpa using i
 subst this;exact c y l
def kVP(H:Hy M A E s lb D kd a b){d:Nat}{x:bj}(i:d<b.size)(c:le lb x b[d]):∀ y∈b.toList.drop d,le lb x y:=λ y h=>by
 obtain⟨j,f,g,rfl⟩:=yW h;exact H.W.trans c (wF H.W H.sb g f)
def kRM(H:Hy M A E s lb D kd a b){st:eN}(n:kindOf st=kd){d:Array bj}{f g u v mg:Nat}(h:MI lb a b d f g){Q:ForInStep LS1->eN->Prop}
  (q:∀ r,RR lb a b (d.size+1) r->Q r st):wpS M A E s (p1 a b mg (none,d,f,g,u,v)) Q st:=by
 obtain⟨m,h1,i,o⟩:=h;have l:f<a.size:=by omega
 unfold p1;dsimp only;refine cm (qD (getElem?_pos b g i) ?_);refine cm (qD (getElem?_pos a f l) ?_);refine cm (H.L _ _ (H.db _ (by simp)) (H.da _ (by simp)) st _ n ?_)
 cases e:lb b[g] a[f]
 case true =>
  simp only[if_true];refine cm (qD (getElem?_pos b g i) ?_);have j:=kCK H l i m (H.W.of_lt e);by_cases c:g+1=b.size
  ·rw[if_pos (by simpa using c)]
   exact de (q _ (.inl ⟨_,rfl,kGC j c⟩))
  ·rw[if_neg (by simpa using c)]
   have y:Yd lb a b (d.size+1) (none,d.push b[g],f,g+1,(0,v+1)):=⟨rfl,⟨j,h1,by show g+1<b.size;omega,by show(d.push b[g]).size=f+(g+1);rw[iw];omega⟩,by show d.size+1<=(d.push b[g]).size;rw[iw];omega⟩
   split
   ·exact de (q _ (.inr y))
   ·exact de (q _ y)
 case false =>
  simp only[eE,if_false];refine cm (qD (getElem?_pos a f l) ?_);have j:=kKD H l m (kVP H i e);by_cases c:f+1+1=a.size
  ·rw[if_pos (by simpa using c)]
   exact de (q _ (.inl ⟨_,rfl,cB H j c⟩))
  ·rw[if_neg (by simpa using c)]
   have y:Yd lb a b (d.size+1) (none,d.push a[f],f+1,g,(u+1,0)):=⟨rfl,⟨j,by show f+1+1<a.size;omega,i,by show(d.push a[f]).size=f+1+g;rw[iw];omega⟩,by show d.size+1<=(d.push a[f]).size;rw[iw];omega⟩
   split
   ·exact de (q _ (.inr y))
   ·exact de (q _ y)
def zY{a:Array bj}{i k:Nat}{x:bj}(h:x∈(a.toList.drop i).take k):∃ j,∃ hj:i+j<a.size,j<k/\x=a[i+j]:=by
 obtain⟨j,hj,e⟩:=eO.mp h;rw[dq,iZ]at hj;refine⟨j,by simp at hj;omega,by omega,?_⟩;rw[<-e,AU,Bv];simp
def kQM{f:Array bj}{g d k:Nat}(h:Mg lb a.toList b.toList f.toList (a.toList.drop g) (b.toList.drop d))(c:∀ x∈(b.toList.drop d).take k,∀ y∈a.toList.drop g,le lb x y):Mg lb a.toList b.toList (f++b.extract d (d+k)).toList (a.toList.drop g) (b.toList.drop (d+k)):=by
 rw[iG,xH];rw[kDS b.toList d k]at h;exact h.moveB c
def kQN{f:Array bj}{d g k:Nat}(h:Mg lb a.toList b.toList f.toList (a.toList.drop d) (b.toList.drop g))(c:∀ x∈(a.toList.drop d).take k,∀ y∈b.toList.drop g,le lb x y):Mg lb a.toList b.toList (f++a.extract d (d+k)).toList (a.toList.drop (d+k)) (b.toList.drop g):=by
 rw[iG,xH];rw[kDS a.toList d k]at h;exact h.moveA c
def kJF(H:Hy M A E s lb D kd a b){st:eN}{f:Array bj}{d i g k l n:Nat}(h:MI lb a b f d i)(v:n<=f.size+1)(c:∀(x:d<a.size),∀ y∈b.toList.drop i,le lb a[d] y){Q:ForInStep LS->eN->Prop}
  (q:∀ r,RR lb a b n r->Q r st):wpS M A E s (pC a b f d i g k l) Q st:=by
 obtain⟨m,h1,p,u⟩:=h;have j:d<a.size:=by omega
 unfold pC;refine cm (qD (getElem?_pos a d j) ?_);have o:=kKD H j m (c j);by_cases e:d+1+1=a.size
 ·rw[if_pos (by simpa using e)]
  exact de (q _ (.inl ⟨_,rfl,cB H o e⟩))
 ·rw[if_neg (by simpa using e)]
  have y:Yd lb a b n (none,f.push a[d],d+1,i,(g,k,l)):=⟨rfl,⟨o,by show d+1+1<a.size;omega,p,by show(f.push a[d]).size=d+1+i;rw[iw];omega⟩,by show n<=(f.push a[d]).size;rw[iw];omega⟩
  split
  ·exact de (q _ (.inr y))
  ·exact de (q _ y)
def kJG(H:Hy M A E s lb D kd a b){st:eN}(Z:kindOf st=kd){f:Array bj}{l d g k ob n:Nat}(h:MI lb a b f l d)(hn:n<=f.size+1)(c:∀(p:l<a.size)(hb:d<b.size),le lb b[d] a[l]){Q:ForInStep LS->eN->Prop}
  (q:∀ r,RR lb a b n r->Q r st):wpS M A E s (pB a b f l d g k ob) Q st:=by
 obtain⟨m,h1,G,h3⟩:=h;have p:l<a.size:=by omega
 unfold pB;refine cm (qD (getElem?_pos b d G) ?_);have C:=kCK H p G m (c p G);have sz:(f.push b[d]).size=l+(d+1):=by rw[iw];omega
 by_cases e:d+1=b.size
 ·rw[if_pos (by simpa using e)]
  exact de (q _ (.inl ⟨_,rfl,kGC C e⟩))
 ·rw[if_neg (by simpa using e)]
  refine cm (qD (getElem?_pos a l p) ?_);refine cm (uQ H.W H.L Z (H.da _ (by simp)) H.db (by omega) (λ i j S J=>wF H.W H.sb (by omega) (by omega)) (by omega) λ o kn O N=>?_);simp only[if_true]at O N
  have rest:∀ y∈b.toList.drop (d+1+o),le lb a[l] y:=λ y B=>by
   obtain⟨j,J,ij,rfl⟩:=yW B;have:=N (j-(d+1)) (by omega) (by omega);simp only[show d+1+(j-(d+1))=j by omega]at this;exact this
  dsimp only;by_cases T:o>0
  ·rw[if_pos T]
   have I:=kQM (k:=o) C λ x Y y B=>by
    obtain⟨j,J,X,rfl⟩:=zY Y;obtain⟨i,S,U,rfl⟩:=yW B;exact H.W.trans (H.W.of_lt (O j X (by omega))) (wF H.W H.sa U S)
   have u:(f.push b[d]++b.extract (d+1) (d+1+o)).size=l+(d+1+o):=by
    rw[yk,sz,ko];omega
   by_cases v:d+1+o=b.size
   ·rw[if_pos (by simpa using v)]
    exact de (q _ (.inl ⟨_,rfl,kGC I v⟩))
   ·rw[if_neg (by simpa using v)]
    exact kJF H ⟨I,h1,by omega,u⟩ (by omega) (λ _=>rest) q
  ·rw[if_neg T]
   have:o=0:=by omega
   subst this;exact kJF H ⟨C,h1,by omega,sz⟩ (by omega) (λ _=>rest) q
def kRL(H:Hy M A E s lb D kd a b){st:eN}(B:kindOf st=kd){c:Array bj}{d f g U ob n:Nat}(h:MI lb a b c d f)(S:n<=c.size+1){Q:ForInStep LS->eN->Prop}
  (q:∀ r,RR lb a b n r->Q r (wG st g)):wpS M A E s (pA a b c d f g U ob) Q st:=by
 obtain⟨m,h1,C,Z⟩:=id h;have ha:d<a.size:=by omega
 unfold pA;rw[setMinGallop'_eq];refine cm (qa ?_);refine cm (qD (getElem?_pos b f C) ?_);refine cm (uQ (st:=wG st g) H.W H.L B (H.db _ (by simp)) H.da (by omega) (λ i j I X=>wF H.W H.sa (by omega) (by omega)) (by omega) λ k kn G u=>?_);simp only[eE,if_false]at G u;dsimp only;by_cases J:k>0
 ·rw[if_pos J]
  have p:=kQN (k:=k) m λ x Y y T=>by
   obtain⟨j,X,O,rfl⟩:=zY Y;obtain⟨i,I,N,rfl⟩:=yW T;exact H.W.trans (G j O (by omega)) (wF H.W H.sb N I)
  have l:(c++a.extract d (d+k)).size=d+k+f:=by
   rw[yk,ko];omega
  by_cases v:d+k+1=a.size
  ·rw[if_pos (by simpa using v)]
   exact de (q _ (.inl ⟨_,rfl,cB H p v⟩))
  ·rw[if_neg (by simpa using v)]
   by_cases o:d+k=a.size
   ·rw[if_pos (by simpa using o)]
    exact de (q _ (.inl ⟨_,rfl,kVK p o⟩))
   ·rw[if_neg (by simpa using o)]
    exact kJG (st:=wG st g) H B ⟨p,by omega,C,l⟩ (by omega) (λ _ _=>H.W.of_lt (u k (by omega) (by omega))) q
 ·rw[if_neg J]
  have:k=0:=by omega
  subst this;exact kJG (st:=wG st g) H B h S (λ _ _=>H.W.of_lt (u 0 (by omega) (by omega))) q
def Yd.mono{n d:Nat}{f:Type}{c:Option (Array bj)×Array bj×Nat×Nat×f}(h:Yd lb a b n c)(k:d<=n):Yd lb a b d c:=⟨h.1,h.2.1,jt k h.2.2⟩
theorem Dn.mono{n d:Nat}{f:Type}{c:Option (Array bj)×Array bj×Nat×Nat×f}(h:Dn lb a b n c)(k:d<=n):Dn lb a b d c:=h.imp id λ z=>z.mono k
def kRN(H:Hy M A E s lb D kd a b){st:eN}(O:kindOf st=kd){l:Array bj}{N L g:Nat}(h:MI lb a b l N L){Q:ForInStep LS0->eN->Prop}
  (S:∀ r c st',Sm st st'->Res lb a.toList b.toList r.toList->Q (.done (some r,c)) st') (T:∀ c st',Sm st st'->Yd lb a b (l.size+1) c->Q (.yield c) st'):wpS M A E s (p0 a b (none,l,N,L,g)) Q st:=by
 unfold p0;dsimp only;have U:0<a.size+b.size:=by have:=h.2.2.1;omega
 refine cm (vi (jw (I:=λ x d st'=>st'=st/\Yd lb a b (l.size+x) d) (Q:=λ d st'=>st'=st/\Dn lb a b (l.size+1) d) ?step ?fin ⟨rfl,rfl,h,bf _⟩) ?post)
 case fin =>
  rintro d st' ⟨rfl,y⟩;exact⟨rfl,.inr (y.mono (by omega))⟩
 case step =>
  rintro x ⟨r,o,i,j,u,v⟩ st' _ _ ⟨rfl,e,J,le⟩
  cases(show r=none from e)
  have le:l.size+x<=o.size:=le;refine kRM H O J λ r B=>?_
  cases r with
  | done c=>exact⟨rfl,Dn.mono B (by omega)⟩
  | yield c=>exact⟨rfl,Yd.mono B (by omega)⟩
 case post =>
  rintro⟨r,o,i,j,u,v⟩ st' ⟨rfl,C⟩
  cases r with
  | some r =>
   dsimp only;rcases C with⟨G,e,p⟩ | ⟨e,_⟩
   ·cases e
    exact de (S _ _ _ (Sm.refl _) p)
   ·cases e
  | none =>
   dsimp only
   have y:Yd lb a b (l.size+1) (none,o,i,j,(u,v)):=by
    rcases C with⟨G,e,p⟩ | y
    ·cases e
    ·exact y
   refine cm (wK ?_);refine cm (vi (jw (I:=λ x f m=>Sm st' m/\Yd lb a b (l.size+1) f) (Q:=λ f m=>Sm st' m/\Dn lb a b (l.size+1) f) ?step2 ?fin2 ⟨Sm.refl _,y⟩) ?post2)
   case fin2 =>
    rintro f m ⟨q,y⟩;exact⟨q,.inr y⟩
   case step2 =>
    rintro x ⟨r,o,i,j,X,u,v⟩ m _ _ ⟨q,e,J,le⟩
    cases(show r=none from e)
    have le:l.size+1<=o.size:=le;dsimp only
    split
    all_goals
     refine kRL (n:=l.size+1) H (q.1.trans O) J (by omega) λ r B=>?_
     cases r with
     | done c=>exact⟨q.gal _,B⟩
     | yield c=>exact⟨q.gal _,B⟩
   case post2 =>
    rintro⟨r,o,i,j,X,u,v⟩ m ⟨q,C⟩
    cases r with
    | some r =>
     dsimp only;rcases C with⟨G,e,p⟩ | ⟨e,_⟩
     ·cases e
      exact de (S _ _ _ q p)
     ·cases e
    | none =>
     dsimp only;rcases C with⟨G,e,p⟩ | y
     ·cases e
     ·rw[setMinGallop'_eq]
      exact cm (qa (de (T _ _ (q.gal _) y)))
def tG(H:Hy M A E s lb D kd a b){st:eN}(L:kindOf st=kd)(C:0<a.size)(v:0<b.size)(first:le lb b[0] a[0]){Q:Array bj->eN->Prop}
  (q:∀ r st',Sm st st'->Res lb a.toList b.toList r.toList->Q r st'):wpS M A E s (mB a b) Q st:=by
 rw[mergeLo'_parts];refine cm (wK ?_);refine cm (qD (getElem?_pos b 0 v) ?_);have J:Mg lb a.toList b.toList (#[]:Array bj).toList (a.toList.drop 0) (b.toList.drop 0):=⟨H.sa,H.sb,AQ _⟩;have m:Mg lb a.toList b.toList (#[b[0]]:Array bj).toList (a.toList.drop 0) (b.toList.drop 1):=kCK H C v J first;by_cases n:1=b.size
 ·rw[if_pos (by simpa using n)]
  exact de (q _ _ (Sm.refl _) (kGC m n))
 rw[if_neg (by simpa using n)];by_cases l:0+1=a.size
 ·rw[if_pos (by simpa using l)]
  exact de (q _ _ (Sm.refl _) (cB H m l))
 rw[if_neg (by simpa using l)];refine cm (AC ?_);refine cm (vi (jw (I:=λ x c st'=>Sm st st'/\Yd lb a b (1+x) c) (Q:=λ c st'=>Sm st st'/\∃ r,c.1=some r/\Res lb a.toList b.toList r.toList) ?step ?fin ⟨Sm.refl _,rfl,⟨m,by show 0+1<a.size;omega,by show 1<b.size;omega,rfl⟩,bf _⟩) ?post)
 case post =>
  rintro⟨r,c⟩ st' ⟨f,N,e,h⟩;cases e
  exact de (q _ _ f h)
 case fin =>
  rintro⟨r,o,i,j,g⟩ st' ⟨f,e,⟨_,h1,B,u⟩,le⟩;have u:o.size=i+j:=u;have le:1+max 0 (a.size+b.size)<=o.size:=le;have h1:i+1<a.size:=h1;have B:j<b.size:=B;omega
 case step =>
  rintro x ⟨r,o,i,j,g⟩ st' _ _ ⟨f,e,G,le⟩
  cases(show r=none from e)
  have le:1+x<=o.size:=le;exact kRN H (f.1.trans L) G (λ r c p d h=>⟨⟨d.1.trans f.1,d.2.1.trans f.2.1,d.2.2.1.trans f.2.2.1,d.2.2.2.trans f.2.2.2⟩,r,rfl,h⟩) λ c p d y=>⟨⟨d.1.trans f.1,d.2.1.trans f.2.1,d.2.2.1.trans f.2.2.1,d.2.2.2.trans f.2.2.2⟩,y.mono (by omega)⟩
end
end Srt
local macro_rules | `(tactic| walk_at "sort_open mergeHi")=>`(tactic| delta $(Lean.mkIdent (Lean.mkPrivateNameCore `PySem.Builtin.List.W1All `PySem.Builtin.mergeHi)):ident)
namespace Srt
set_option autoImplicit false
open PySem PyProof.Rows
def mC:Array bj->Array bj->StateT eN Sem (Array bj):=sortPriv% PySem.Builtin.mergeHi
abbrev KS:=Option (Array bj)×Nat×Nat×Array bj×Nat×Nat×Nat
abbrev KS1:=Option (Array bj)×Nat×Nat×Array bj×Nat×Nat
abbrev KS0:=Option (Array bj)×Nat×Nat×Array bj×Nat
section
variable (a b:Array bj)
def hDn(f d:Nat)(c:Array bj):Array bj:=a.extract 0 f++b.extract 0 d++c.reverse
def hFb(f d:Nat)(c:Array bj):Array bj:=b.extract 0 d++a.extract 0 f++c.reverse
def hC(d f:Nat)(c:Array bj)(g k h:Nat):StateT eN Sem (ForInStep KS):=do
 let x <-elem' a (d-1)
 if(d-1 == 0)=true then pure (.done (some (hDn a b (d-1) f (c.push x)),d-1,f,c.push x,g,k,h))
 else if(decide (k<7) && decide (h<7))=true then pure (.done (none,d-1,f,c.push x,g,k,h)) else pure (.yield (none,d-1,f,c.push x,g,k,h))
def hB(f d:Nat)(c:Array bj)(g k ob:Nat):StateT eN Sem (ForInStep KS):=do
 let y <-elem' b (d-1)
 if(d-1 == 1)=true then pure (.done (some (hFb a b f (d-1) (c.push y)),f,d-1,c.push y,g,k,ob))
 else do
  let x <-elem' a (f-1)
  let r <-vL true x b 0 (d-1) (d-1-1)
  match r with
  | some p =>
   if d-1-p>0 then
    if(p == 1)=true then pure (.done (some (hFb a b f p (c.push y++(b.extract p (d-1)).reverse)),f,p,c.push y++(b.extract p (d-1)).reverse,g,k,d-1-p))
    else if(p == 0)=true then pure (.done (some (hDn a b f p (c.push y++(b.extract p (d-1)).reverse)),f,p,c.push y++(b.extract p (d-1)).reverse,g,k,d-1-p))
    else hC a b f p (c.push y++(b.extract p (d-1)).reverse) g k (d-1-p)
   else hC a b f (d-1) (c.push y) g k (d-1-p)
  | x=>pure (.done (some (hDn a b f (d-1) (c.push y)),f,d-1,c.push y,g,k,ob))
def hA(d f:Nat)(c:Array bj)(g h ob:Nat):StateT eN Sem (ForInStep KS):=do
 xN g
 let y <-elem' b (f-1)
 let r <-vL false y a 0 d (d-1)
 match r with
 | some p =>
  if d-p>0 then
   if(p == 0)=true then pure (.done (some (hDn a b p f (c++(a.extract p d).reverse)),p,f,c++(a.extract p d).reverse,g,d-p,ob))
   else hB a b p f (c++(a.extract p d).reverse) g (d-p) ob
  else hB a b d f c g (d-p) ob
 | x=>pure (.done (some (hDn a b d f c),d,f,c,g,h,ob))
def h1(mg:Nat)(c:KS1):StateT eN Sem (ForInStep KS1):=do
 let y <-elem' b (c.2.2.1-1)
 let x <-elem' a (c.2.1-1)
 let r <-lt' y x
 match r with
 | some aw =>
  if aw=true then do
   let x <-elem' a (c.2.1-1)
   if(c.2.1-1 == 0)=true then pure (.done (some (hDn a b (c.2.1-1) c.2.2.1 (c.2.2.2.1.push x)),c.2.1-1,c.2.2.1,c.2.2.2.1.push x,c.2.2.2.2.1+1,0))
   else if c.2.2.2.2.1+1 >= mg then pure (.done (none,c.2.1-1,c.2.2.1,c.2.2.2.1.push x,c.2.2.2.2.1+1,0))
   else pure (.yield (none,c.2.1-1,c.2.2.1,c.2.2.2.1.push x,c.2.2.2.2.1+1,0))
  else do
   let y <-elem' b (c.2.2.1-1)
   if(c.2.2.1-1 == 1)=true then pure (.done (some (hFb a b c.2.1 (c.2.2.1-1) (c.2.2.2.1.push y)),c.2.1,c.2.2.1-1,c.2.2.2.1.push y,0,c.2.2.2.2.2+1))
   else if c.2.2.2.2.2+1 >= mg then pure (.done (none,c.2.1,c.2.2.1-1,c.2.2.2.1.push y,0,c.2.2.2.2.2+1))
   else pure (.yield (none,c.2.1,c.2.2.1-1,c.2.2.2.1.push y,0,c.2.2.2.2.2+1))
 | x=>pure (.done (some (hDn a b c.2.1 c.2.2.1 c.2.2.2.1),c.2.1,c.2.2.1,c.2.2.2.1,c.2.2.2.2.1,c.2.2.2.2.2))
def h0(c:KS0):StateT eN Sem (ForInStep KS0):=do
 let d <-forIn [:a.size+b.size] ((none,c.2.1,c.2.2.1,c.2.2.2.1,0,0):KS1) λ x d=>h1 a b c.2.2.2.2 d
 match d.1 with
 | some r=>pure (.done (some r,d.2.1,d.2.2.1,d.2.2.2.1,c.2.2.2.2))
 | none=>do
  liftM (rule "list.sort.gallop")
  let f <-forIn [:a.size+b.size] ((none,d.2.1,d.2.2.1,d.2.2.2.1,c.2.2.2.2+1,d.2.2.2.2.1,d.2.2.2.2.2):KS) λ x f =>
   if f.2.2.2.2.1>1 then hA a b f.2.1 f.2.2.1 f.2.2.2.1 (f.2.2.2.2.1-1) f.2.2.2.2.2.1 f.2.2.2.2.2.2 else hA a b f.2.1 f.2.2.1 f.2.2.2.1 f.2.2.2.2.1 f.2.2.2.2.2.1 f.2.2.2.2.2.2
  match f.1 with
  | some r=>pure (.done (some r,f.2.1,f.2.2.1,f.2.2.2.1,f.2.2.2.2.1))
  | none=>do
   xN (f.2.2.2.2.1+1)
   pure (.yield (none,f.2.1,f.2.2.1,f.2.2.2.1,f.2.2.2.2.1+1))
def mergeHi'_parts:mC a b=(do
  liftM (rule "list.sort.merge-hi")
  let y <-elem' a (a.size-1)
  if(a.size-1 == 0)=true then pure (hDn a b (a.size-1) b.size #[y])
  else if(b.size == 1)=true then pure (hFb a b (a.size-1) b.size #[y])
  else do
   let st <-get
   let c <-forIn [:a.size+b.size] ((none,a.size-1,b.size,#[y],gallopOf st):KS0) λ x c=>h0 a b c
   match c.1 with
   | some r=>pure r
   | none=>unsupported "internal:list.sort.merge-bound"):=by
 unfold mC
 walk_at "sort_open mergeHi"
 dsimp only;refine congrArg _ (funext λ _=>?_);refine congrArg _ (funext λ y=>?_);refine ite_congr rfl (λ _=>rfl) (λ _=>ite_congr rfl (λ _=>rfl) (λ _=>?_));refine congrArg _ (funext λ st=>?_);refine congr (congrArg _ (congrArg _ (funext λ x=>funext λ c=>?_))) (funext λ c=>by cases c.1<;>rfl);unfold h0;refine congr (congrArg _ (congrArg _ (funext λ x=>funext λ d=>?_))) (funext λ d=>?_)
 ·unfold h1
  refine congrArg _ (funext λ _=>?_);refine congrArg _ (funext λ _=>?_);refine congrArg _ (funext λ r=>?_);cases r<;>rfl
 ·cases d.1 with
  | some r=>rfl
  | none =>
   dsimp only;refine congrArg _ (funext λ _=>?_);refine congr (congrArg _ (congrArg _ (funext λ x=>funext λ f=>?_))) (funext λ f=>by cases f.1<;>rfl);refine ite_congr rfl (λ _=>?_) (λ _=>?_)
   all_goals
    unfold hA;refine congrArg _ (funext λ _=>?_);refine congrArg _ (funext λ y=>?_);refine congrArg _ (funext λ r=>?_)
    cases r with
    | none=>rfl
    | some k =>
     dsimp only;refine ite_congr rfl (λ _=>ite_congr rfl (λ _=>rfl) (λ _=>?_)) (λ _=>?_)
     all_goals
      unfold hB;refine congrArg _ (funext λ y=>?_);refine ite_congr rfl (λ _=>rfl) (λ _=>?_);refine congrArg _ (funext λ x=>?_);refine congrArg _ (funext λ r=>?_);cases r<;>rfl
end
section
variable {α:Type} {lb:α->α->Bool}
structure Mh(lb:α->α->Bool)(A B:List α)(w ra rb:List α):Prop where
 sa:jE lb (ra++w)
 sb:jE lb (rb++w)
 pm:(ra++(rb++w)).Perm (A++B)
def Mh.moveA{A B w c d b:List α}(h:Mh lb A B w (d++c) b)(j:∀ x∈b,∀ y∈c,le lb x y):Mh lb A B (c++w) d b:=by
 refine⟨by rw[<-di];exact h.sa,?_,?_⟩
 ·have h1:=eD.mp h.sa
  have g:=eD.mp h.sb;have i:=eD.mp h1.1;refine eD.mpr ⟨g.1,eD.mpr ⟨i.2.1,h1.2.1,λ x a y f=>h1.2.2 x (dc _ a) y f⟩,λ x a y f=>?_⟩;rcases bz.mp f with z | z
  ·exact j x a y z
  ·exact g.2.2 x a y z
 ·refine uy ?_ h.pm
  rw[di];refine ye d ?_;rw[<-di,<-di];exact xt w lj
def Mh.swap{A B w b a:List α}(h:Mh lb A B w b a):Mh lb B A w a b:=by
 refine⟨h.sb,h.sa,?_⟩;refine uy ?_ (h.pm.trans lj);rw[<-di,<-di];exact xt w lj
def Mh.moveB{A B w c a b:List α}(h:Mh lb A B w a (b++c))(d:∀ x∈a,∀ y∈c,le lb x y):Mh lb A B (c++w) a b:=(h.swap.moveA d).swap
def fZ{a:Array α}{n:Nat}(h0:0<n)(h:n<=a.size):a.toList.take n=a.toList.take (n-1)++[a[n-1]'(by omega)]:=by
 obtain⟨m,rfl⟩ : ∃ m,n=m+1:=⟨n-1,by omega⟩;rw[List.take_succ_eq_append_getElem (by simp;omega)];simp
def bZ(a:Array α)(n:Nat):(a.extract 0 n).toList=a.toList.take n:=by
 rw[vk,qm];simp
def kCI(a:Array α){p n:Nat}(h:p<=n):a.toList.take n=a.toList.take p++(a.extract p n).toList:=by
 rw[vk,qm,<-Ex]
 conv=>lhs;rw[<-fv p (a.toList.take n)]
 rw[Bb,ni h]
end
section
variable {M:zi} {A:fk} {E:au->az->Prop} {s:az} {lb:bj->bj->Bool} {D:bj->Prop} {kd:oy} {a b:Array bj}
structure Hz(M:zi)(A:fk)(E:au->az->Prop)(s:az)(lb:bj->bj->Bool)(D:bj->Prop)(kd:oy)(a b:Array bj):Prop where
 W:Wk lb
 L:vW M A E s lb D kd
 da:∀ x∈a.toList,D x
 db:∀ x∈b.toList,D x
 sa:jE lb a.toList
 sb:jE lb b.toList
 first:∀(h:0<b.size),∀ y∈a.toList,le lb b[0] y
abbrev MM(lb:bj->bj->Bool)(a b:Array bj)(f d:Nat)(c:Array bj):Prop:=Mh lb a.toList b.toList c.toList.reverse (a.toList.take f) (b.toList.take d)
def MH(lb:bj->bj->Bool)(a b:Array bj)(f d:Nat)(c:Array bj):Prop:=MM lb a b f d c/\0<f/\f<=a.size/\1<d/\d<=b.size/\c.size+f+d=a.size+b.size
def Zd(lb:bj->bj->Bool)(a b:Array bj)(n:Nat){d:Type}(c:Option (Array bj)×Nat×Nat×Array bj×d):Prop:=c.1=none/\MH lb a b c.2.1 c.2.2.1 c.2.2.2.1/\n<=c.2.2.2.1.size
def En(lb:bj->bj->Bool)(a b:Array bj)(n:Nat){d:Type}(c:Option (Array bj)×Nat×Nat×Array bj×d):Prop:=(∃ r,c.1=some r/\Res lb a.toList b.toList r.toList)\/Zd lb a b n c
def TT(lb:bj->bj->Bool)(a b:Array bj)(n:Nat){d:Type}:ForInStep (Option (Array bj)×Nat×Nat×Array bj×d)->Prop
 | .done c=>En lb a b n c
 | .yield c=>Zd lb a b n c
def Zd.mono{n d:Nat}{f:Type}{c:Option (Array bj)×Nat×Nat×Array bj×f}(h:Zd lb a b n c)(k:d<=n):Zd lb a b d c:=⟨h.1,h.2.1,jt k h.2.2⟩
theorem En.mono{n d:Nat}{f:Type}{c:Option (Array bj)×Nat×Nat×Array bj×f}(h:En lb a b n c)(k:d<=n):En lb a b d c:=h.imp id λ z=>z.mono k
def bK{a:Array bj}{n:Nat}{x:bj}(h:x∈a.toList.take n):∃ j,∃ hj:j<a.size,j<n/\x=a[j]:=by
 have:=zY (a:=a) (i:=0) (k:=n) (x:=x) (by simpa using h);obtain⟨j,hj,b,e⟩:=this;exact⟨j,by omega,b,by simpa using e⟩
def jB{a:Array bj}{p n:Nat}{x:bj}(h:x∈(a.extract p n).toList):∃ j,∃ hj:j<a.size,p<=j/\j<n/\x=a[j]:=by
 rw[vk,qm]at h;obtain⟨j,hj,b,e⟩:=zY h;exact⟨p+j,hj,by omega,by omega,e⟩
def kBE(f d:Nat)(c:Array bj):(hDn a b f d c).toList=a.toList.take f++(b.toList.take d++c.toList.reverse):=by
 unfold hDn;rw[iG,iG,bZ,bZ,yr,di]
def kMS(f d:Nat)(c:Array bj):(hFb a b f d c).toList=b.toList.take d++(a.toList.take f++c.toList.reverse):=by
 unfold hFb;rw[iG,iG,bZ,bZ,yr,di]
def sN{d f:Nat}{c:Array bj}(m:MM lb a b d f c)(e:d=0):Res lb a.toList b.toList (hDn a b d f c).toList:=by
 subst e;rw[kBE];exact⟨by simpa using m.sb,m.pm⟩
def kTP{f d:Nat}{c:Array bj}(m:MM lb a b f d c)(e:d=0):Res lb a.toList b.toList (hDn a b f d c).toList:=by
 subst e;rw[kBE];exact⟨by simpa using m.sa,m.pm⟩
def sL(H:Hz M A E s lb D kd a b){h f:Nat}{c:Array bj}(m:MM lb a b h f c)(e:f=1)(i:0<b.size):Res lb a.toList b.toList (hFb a b h f c).toList:=by
 subst e;rw[kMS];have t:b.toList.take 1=[b[0]]:=by rw[fZ (by decide) i];simp
 have d:=m.sb;rw[t]at d ⊢;refine⟨?_,?_⟩
 ·refine eD.mpr ⟨ph _ _,m.sa,λ x j y l=>?_⟩
  have:x=b[0]:=by simpa using j
  subst this;rcases bz.mp l with z | z
  ·exact H.first i y (uz z)
  ·exact(eD.mp d).2.2 _ (by simp) y z
 ·have g:=m.pm
  rw[t]at g;refine uy ?_ g;rw[<-di,<-di];exact xt _ lj
def kKC(H:Hz M A E s lb D kd a b){f g:Nat}{d:Array bj}(m:MM lb a b f g d)(i:0<f)(j:f<=a.size)(c:∀ x∈b.toList.take g,le lb x (a[f-1]'(by omega))):MM lb a b (f-1) g (d.push (a[f-1]'(by omega))):=by
 have m:Mh lb a.toList b.toList d.toList.reverse (a.toList.take f) (b.toList.take g):=m;rw[fZ i j]at m;show Mh lb _ _ (d.push _).toList.reverse _ _;rw[vw,yt];refine m.moveA λ x h y l=>?_;have:y=a[f-1]'(by omega):=by simpa using l
 rw[this];exact c x h
def kQS(H:Hz M A E s lb D kd a b){g f:Nat}{d:Array bj}(m:MM lb a b g f d)(i:0<f)(j:f<=b.size)(c:∀ x∈a.toList.take g,le lb x (b[f-1]'(by omega))):MM lb a b g (f-1) (d.push (b[f-1]'(by omega))):=by
 have m:Mh lb a.toList b.toList d.toList.reverse (a.toList.take g) (b.toList.take f):=m;rw[fZ i j]at m;show Mh lb _ _ (d.push _).toList.reverse _ _;rw[vw,yt];refine m.moveB λ x h y l=>?_;have:y=b[f-1]'(by omega):=by simpa using l
 rw[this];exact c x h
def kVN{f g p:Nat}{d:Array bj}(m:MM lb a b f g d)(hp:p<=f)(c:∀ x∈b.toList.take g,∀ y∈(a.extract p f).toList,le lb x y):MM lb a b p g (d++(a.extract p f).reverse):=by
 have m:Mh lb a.toList b.toList d.toList.reverse (a.toList.take f) (b.toList.take g):=m;rw[kCI a hp]at m;show Mh lb _ _ (d++_).toList.reverse _ _;rw[iG,yr,yt,Ax];exact m.moveA c
def kVM{g f p:Nat}{d:Array bj}(m:MM lb a b g f d)(hp:p<=f)(c:∀ x∈a.toList.take g,∀ y∈(b.extract p f).toList,le lb x y):MM lb a b g p (d++(b.extract p f).reverse):=by
 have m:Mh lb a.toList b.toList d.toList.reverse (a.toList.take g) (b.toList.take f):=m;rw[kCI b hp]at m;show Mh lb _ _ (d++_).toList.reverse _ _;rw[iG,yr,yt,Ax];exact m.moveB c
def kHB(W:Wk lb){a:Array bj}(b:jE lb a.toList){n:Nat}{y:bj}(g:0<n)(h:n<=a.size)(c:le lb (a[n-1]'(by omega)) y):∀ x∈a.toList.take n,le lb x y:=λ x d=>by
 obtain⟨j,f,i,rfl⟩:=bK d;exact W.trans (wF W b (show j<=n-1 by omega) (by omega)) c
def kRP(H:Hz M A E s lb D kd a b){st:eN}(p:kindOf st=kd){d:Array bj}{f g u v mg:Nat}(h:MH lb a b f g d){Q:ForInStep KS1->eN->Prop}
  (q:∀ r,TT lb a b (d.size+1) r->Q r st):wpS M A E s (h1 a b mg (none,f,g,d,u,v)) Q st:=by
 obtain⟨m,n,j,o,l,sz⟩:=h;unfold h1;dsimp only;refine cm (qD (getElem?_pos b (g-1) (by omega)) ?_);refine cm (qD (getElem?_pos a (f-1) (by omega)) ?_);refine cm (H.L _ _ (H.db _ (by simp)) (H.da _ (by simp)) st _ p ?_)
 cases e:lb (b[g-1]'(by omega)) (a[f-1]'(by omega))
 case true =>
  simp only[if_true];refine cm (qD (getElem?_pos a (f-1) (by omega)) ?_);have i:=kKC H m n j (kHB H.W H.sb (by omega) l (H.W.of_lt e));by_cases c:f-1=0
  ·rw[if_pos (by simpa using c)]
   exact de (q _ (.inl ⟨_,rfl,sN i c⟩))
  ·rw[if_neg (by simpa using c)]
   have z:Zd lb a b (d.size+1) (none,f-1,g,d.push (a[f-1]'(by omega)),(u+1,0)):=⟨rfl,⟨i,by show 0<f-1;omega,by show f-1<=a.size;omega,o,l,by show(d.push _).size+(f-1)+g=_;rw[iw];omega⟩,by show d.size+1<=(d.push _).size;rw[iw];omega⟩
   split
   ·exact de (q _ (.inr z))
   ·exact de (q _ z)
 case false =>
  simp only[eE,if_false];refine cm (qD (getElem?_pos b (g-1) (by omega)) ?_);have i:=kQS H m (by omega) l (kHB H.W H.sa n j e);by_cases c:g-1=1
  ·rw[if_pos (by simpa using c)]
   exact de (q _ (.inl ⟨_,rfl,sL H i c (by omega)⟩))
  ·rw[if_neg (by simpa using c)]
   have z:Zd lb a b (d.size+1) (none,f,g-1,d.push (b[g-1]'(by omega)),(0,v+1)):=⟨rfl,⟨i,n,j,by show 1<g-1;omega,by show g-1<=b.size;omega,by show(d.push _).size+f+(g-1)=_;rw[iw];omega⟩,by show d.size+1<=(d.push _).size;rw[iw];omega⟩
   split
   ·exact de (q _ (.inr z))
   ·exact de (q _ z)
def kJH(H:Hz M A E s lb D kd a b){st:eN}{d:Array bj}{f h g k j n:Nat}(m:MM lb a b f h d)(p:0<f)(l:f<=a.size)(u:1<h)(o:h<=b.size)(sz:d.size+f+h=a.size+b.size)(v:n<=d.size+1)
  (c:∀ x∈b.toList.take h,le lb x (a[f-1]'(by omega))) {Q:ForInStep KS->eN->Prop} (q:∀ r,TT lb a b n r->Q r st):wpS M A E s (hC a b f h d g k j) Q st:=by
 unfold hC;refine cm (qD (getElem?_pos a (f-1) (by omega)) ?_);have i:=kKC H m p l c;by_cases e:f-1=0
 ·rw[if_pos (by simpa using e)]
  exact de (q _ (.inl ⟨_,rfl,sN i e⟩))
 ·rw[if_neg (by simpa using e)]
  have z:Zd lb a b n (none,f-1,h,d.push (a[f-1]'(by omega)),(g,k,j)):=⟨rfl,⟨i,by show 0<f-1;omega,by show f-1<=a.size;omega,u,o,by show(d.push _).size+(f-1)+h=_;rw[iw];omega⟩,by show n<=(d.push _).size;rw[iw];omega⟩
  split
  ·exact de (q _ (.inr z))
  ·exact de (q _ z)
def kJI(H:Hz M A E s lb D kd a b){st:eN}(hk:kindOf st=kd){d:Array bj}{l f g k ob n:Nat}(h:MH lb a b l f d)(hn:n<=d.size+1)
  (c:∀(ha:l-1<a.size)(hb:f-1<b.size),le lb a[l-1] b[f-1]) {Q:ForInStep KS->eN->Prop} (q:∀ r,TT lb a b n r->Q r st):wpS M A E s (hB a b l f d g k ob) Q st:=by
 obtain⟨m,u,o,b1,b2,sz⟩:=h;unfold hB;refine cm (qD (getElem?_pos b (f-1) (by omega)) ?_);have C:=kQS H m (by omega) b2 (kHB H.W H.sa u o (c (by omega) (by omega)));have I:(d.push (b[f-1]'(by omega))).size+l+(f-1)=a.size+b.size:=by rw[iw];omega
 have gr:d.size+1=(d.push (b[f-1]'(by omega))).size:=by rw[iw]
 by_cases e:f-1=1
 ·rw[if_pos (by simpa using e)]
  exact de (q _ (.inl ⟨_,rfl,sL H C e (by omega)⟩))
 ·rw[if_neg (by simpa using e)]
  refine cm (qD (getElem?_pos a (l-1) (by omega)) ?_);refine cm (uQ H.W H.L hk (H.da _ (by simp)) H.db (by omega) (λ i j hi O=>wF H.W H.sb (by omega) (by omega)) (by omega) λ p kn T S=>?_);simp only[if_true,CZ]at T S
  have rest:∀ x∈b.toList.take p,le lb x (a[l-1]'(by omega)):=λ x J=>by
   obtain⟨j,O,X,rfl⟩:=bK J;exact H.W.of_lt (T j X (by omega))
  dsimp only;by_cases U:f-1-p>0
  ·rw[if_pos U]
   have G:=kVM (p:=p) C (by omega) λ x J y Y=>by
    obtain⟨j,O,Z,jn,rfl⟩:=jB Y;exact kHB H.W H.sa u o (S j Z jn) x J
   have v:(d.push (b[f-1]'(by omega))++(b.extract p (f-1)).reverse).size+l+p=a.size+b.size:=by
    rw[yk,DZ,ko];omega
   by_cases N:p=1
   ·rw[if_pos (by simpa using N)]
    exact de (q _ (.inl ⟨_,rfl,sL H G N (by omega)⟩))
   ·rw[if_neg (by simpa using N)]
    by_cases B:p=0
    ·rw[if_pos (by simpa using B)]
     exact de (q _ (.inl ⟨_,rfl,kTP G B⟩))
    ·rw[if_neg (by simpa using B)]
     exact kJH H G u o (by omega) (by omega) v (by omega) rest q
  ·rw[if_neg U]
   have e3:p=f-1:=by omega
   rw[e3]at rest;exact kJH H C u o (by omega) (by omega) I (by omega) rest q
def kRO(H:Hz M A E s lb D kd a b){st:eN}(v:kindOf st=kd){c:Array bj}{d f g S ob n:Nat}(h:MH lb a b d f c)(J:n<=c.size+1){Q:ForInStep KS->eN->Prop}
  (q:∀ r,TT lb a b n r->Q r (wG st g)):wpS M A E s (hA a b d f c g S ob) Q st:=by
 obtain⟨m,a1,a2,Y,G,sz⟩:=id h;unfold hA;rw[setMinGallop'_eq];refine cm (qa ?_);refine cm (qD (getElem?_pos b (f-1) (by omega)) ?_);refine cm (uQ (st:=wG st g) H.W H.L v (H.db _ (by simp)) H.da (by omega) (λ i j hi T=>wF H.W H.sa (by omega) (by omega)) (by omega) λ p Z o C=>?_);simp only[eE,if_false,CZ]at o C;dsimp only;by_cases I:d-p>0
 ·rw[if_pos I]
  have B:=kVN (p:=p) m (by omega) λ x X y N=>by
   obtain⟨j,T,O,U,rfl⟩:=jB N;exact kHB H.W H.sb (by omega) G (H.W.of_lt (C j O U)) x X
  have l:(c++(a.extract p d).reverse).size+p+f=a.size+b.size:=by
   rw[yk,DZ,ko];omega
  by_cases u:p=0
  ·rw[if_pos (by simpa using u)]
   exact de (q _ (.inl ⟨_,rfl,sN B u⟩))
  ·rw[if_neg (by simpa using u)]
   exact kJI (st:=wG st g) H v ⟨B,by omega,by omega,Y,G,l⟩ (by omega) (λ _ _=>o (p-1) (by omega) (by omega)) q
 ·rw[if_neg I]
  have e3:p=d:=by omega
  exact kJI (st:=wG st g) H v h J (λ _ _=>o (d-1) (by omega) (by omega)) q
def kRQ(H:Hz M A E s lb D kd a b){st:eN}(O:kindOf st=kd){l:Array bj}{L N g:Nat}(h:MH lb a b L N l){Q:ForInStep KS0->eN->Prop}
  (S:∀ r c st',Sm st st'->Res lb a.toList b.toList r.toList->Q (.done (some r,c)) st') (T:∀ c st',Sm st st'->Zd lb a b (l.size+1) c->Q (.yield c) st'):wpS M A E s (h0 a b (none,L,N,l,g)) Q st:=by
 unfold h0;dsimp only;have U:0<a.size+b.size:=by have:=h.2.2.1;have:=h.2.1;omega
 refine cm (vi (jw (I:=λ x d st'=>st'=st/\Zd lb a b (l.size+x) d) (Q:=λ d st'=>st'=st/\En lb a b (l.size+1) d) ?step ?fin ⟨rfl,rfl,h,bf _⟩) ?post)
 case fin =>
  rintro d st' ⟨rfl,y⟩;exact⟨rfl,.inr (y.mono (by omega))⟩
 case step =>
  rintro x ⟨r,i,j,o,u,v⟩ st' _ _ ⟨rfl,e,J,le⟩
  cases(show r=none from e)
  have le:l.size+x<=o.size:=le;refine kRP H O J λ r B=>?_
  cases r with
  | done c=>exact⟨rfl,En.mono B (by omega)⟩
  | yield c=>exact⟨rfl,Zd.mono B (by omega)⟩
 case post =>
  rintro⟨r,i,j,o,u,v⟩ st' ⟨rfl,C⟩
  cases r with
  | some r =>
   dsimp only;rcases C with⟨G,e,p⟩ | ⟨e,_⟩
   ·cases e
    exact de (S _ _ _ (Sm.refl _) p)
   ·cases e
  | none =>
   dsimp only
   have y:Zd lb a b (l.size+1) (none,i,j,o,(u,v)):=by
    rcases C with⟨G,e,p⟩ | y
    ·cases e
    ·exact y
   refine cm (wK ?_);refine cm (vi (jw (I:=λ x f m=>Sm st' m/\Zd lb a b (l.size+1) f) (Q:=λ f m=>Sm st' m/\En lb a b (l.size+1) f) ?step2 ?fin2 ⟨Sm.refl _,y⟩) ?post2)
   case fin2 =>
    rintro f m ⟨q,y⟩;exact⟨q,.inr y⟩
   case step2 =>
    rintro x ⟨r,i,j,o,X,u,v⟩ m _ _ ⟨q,e,J,le⟩
    cases(show r=none from e)
    have le:l.size+1<=o.size:=le;dsimp only
    split
    all_goals
     refine kRO (n:=l.size+1) H (q.1.trans O) J (by omega) λ r B=>?_
     cases r with
     | done c=>exact⟨q.gal _,B⟩
     | yield c=>exact⟨q.gal _,B⟩
   case post2 =>
    rintro⟨r,i,j,o,X,u,v⟩ m ⟨q,C⟩
    cases r with
    | some r =>
     dsimp only;rcases C with⟨G,e,p⟩ | ⟨e,_⟩
     ·cases e
      exact de (S _ _ _ q p)
     ·cases e
    | none =>
     dsimp only;rcases C with⟨G,e,p⟩ | y
     ·cases e
     ·rw[setMinGallop'_eq]
      exact cm (qa (de (T _ _ (q.gal _) y)))
def tH(H:Hz M A E s lb D kd a b){st:eN}(B:kindOf st=kd)(C:0<a.size)(u:0<b.size)(last:le lb (b[b.size-1]'(by omega)) (a[a.size-1]'(by omega))){Q:Array bj->eN->Prop}
  (q:∀ r st',Sm st st'->Res lb a.toList b.toList r.toList->Q r st'):wpS M A E s (mC a b) Q st:=by
 rw[mergeHi'_parts];refine cm (wK ?_);refine cm (qD (getElem?_pos a (a.size-1) (by omega)) ?_);have N:a.toList.take a.size=a.toList:=md (by simp);have L:b.toList.take b.size=b.toList:=md (by simp)
 have J:MM lb a b a.size b.size #[]:=by
  show Mh lb _ _ (#[]:Array bj).toList.reverse _ _;rw[N,L];exact⟨by simpa using H.sa,by simpa using H.sb,by simp⟩
 have m:MM lb a b (a.size-1) b.size #[a[a.size-1]'(by omega)]:=kKC H J C (bf _) (kHB H.W H.sb u (bf _) last);by_cases p:a.size-1=0
 ·rw[if_pos (by simpa using p)]
  exact de (q _ _ (Sm.refl _) (sN m p))
 rw[if_neg (by simpa using p)];by_cases l:b.size=1
 ·rw[if_pos (by simpa using l)]
  exact de (q _ _ (Sm.refl _) (sL H m l u))
 rw[if_neg (by simpa using l)];refine cm (AC ?_);refine cm (vi (jw (I:=λ x c st'=>Sm st st'/\Zd lb a b (1+x) c) (Q:=λ c st'=>Sm st st'/\∃ r,c.1=some r/\Res lb a.toList b.toList r.toList) ?step ?fin ⟨Sm.refl _,rfl,⟨m,by show 0<a.size-1;omega,by show a.size-1<=a.size;omega,by show 1<b.size;omega,bf _,by show 1+(a.size-1)+b.size=_;omega⟩,bf _⟩) ?post)
 case post =>
  rintro⟨r,c⟩ st' ⟨f,S,e,h⟩;cases e
  exact de (q _ _ f h)
 case fin =>
  rintro⟨r,i,j,o,g⟩ st' ⟨f,e,⟨_,h1,T,O,U,v⟩,le⟩;have v:o.size+i+j=a.size+b.size:=v;have le:1+max 0 (a.size+b.size)<=o.size:=le;omega
 case step =>
  rintro x ⟨r,i,j,o,g⟩ st' _ _ ⟨f,e,G,le⟩
  cases(show r=none from e)
  have le:1+x<=o.size:=le;exact kRQ H (f.1.trans B) G (λ r c n d h=>⟨⟨d.1.trans f.1,d.2.1.trans f.2.1,d.2.2.1.trans f.2.2.1,d.2.2.2.trans f.2.2.2⟩,r,rfl,h⟩) λ c n d y=>⟨⟨d.1.trans f.1,d.2.1.trans f.2.1,d.2.2.1.trans f.2.2.1,d.2.2.2.trans f.2.2.2⟩,y.mono (by omega)⟩
end
section
variable {α:Type} {lb:α->α->Bool}
def kHL(l:List α)(i:Nat)(x:α)(h:i<l.length):l.set i x=l.take i++x::l.drop (i+1):=by
 rw[List.set_eq_take_append_cons_drop,if_pos h]
theorem wr:∀(xs:List α)(k:Nat)(arr:Array α)(lo:Nat),lo+k+xs.length<=arr.size->((xs.zipIdx k).foldl (λ a (p:α×Nat)=>a.setIfInBounds (lo+p.2) p.1) arr).toList=arr.toList.take (lo+k)++(xs++arr.toList.drop (lo+k+xs.length))
 | [],k,arr,lo,h=>by simp
 | x::xs,k,arr,lo,h=>by
  rw[iJ]at h;rw[yy,wg];have d:=wr xs (k+1) (arr.setIfInBounds (lo+k) x) lo (by rw[Bz];omega);rw[d,Bc,kHL _ _ _ (by simp;omega)];have e:(arr.toList.take (lo+k)).length=lo+k:=by simp;omega
  have b:(arr.toList.take (lo+k)++x::arr.toList.drop (lo+k+1)).take (lo+(k+1))=arr.toList.take (lo+k)++[x]:=by
   rw[List.take_append,e,show lo+(k+1)-(lo+k)=1 by omega,md (by rw[e];omega)]
   rfl
  have c:(arr.toList.take (lo+k)++x::arr.toList.drop (lo+k+1)).drop (lo+(k+1)+xs.length)=arr.toList.drop (lo+k+(x::xs).length):=by
   rw[Ai,e,oq (by rw[e];omega),pd,show lo+(k+1)+xs.length-(lo+k)=xs.length+1 by omega,List.drop_succ_cons,AR,iJ]
   congr 1
   omega
  rw[b,c];simp
def kIN(W:Wk lb){b c f a g:List α}(l:jE lb (b++c))(o:jE lb (f++a))(h1:∀ x∈b,∀ y∈f++a,le lb x y)(n:∀ x∈c,∀ y∈a,le lb x y)(r:Res lb c f g) :
  jE lb (b++(g++a))/\(b++(g++a)).Perm ((b++c)++(f++a)):=by
 have j:=eD.mp l;have i:=eD.mp o;have mem:∀ z∈g,z∈c\/z∈f:=λ z m=>bz.mp ((r.2.mem_iff).mp m);refine⟨eD.mpr ⟨j.1,eD.mpr ⟨r.1,i.2.1,λ x d y h=>?_⟩,λ x d y h=>?_⟩,?_⟩
 ·rcases mem x d with z | z
  ·exact n x z y h
  ·exact i.2.2 x z y h
 ·rcases bz.mp h with z | z
  ·rcases mem y z with w | w
   ·exact j.2.2 x d y w
   ·exact h1 x d y (df _ w)
  ·exact h1 x d y (dc _ z)
 ·rw[di]
  refine ye b ?_;rw[<-di];exact r.2.append_right a
end
end Srt
local macro_rules | `(tactic| walk_at "sort_open mergeAt")=>`(tactic| delta $(Lean.mkIdent (Lean.mkPrivateNameCore `PySem.Builtin.List.W1All `PySem.Builtin.mergeAt)):ident)
namespace Srt
set_option autoImplicit false
open PySem PyProof.Rows
section
variable {M:zi} {A:fk} {E:au->az->Prop} {s:az} {lb:bj->bj->Bool} {D:bj->Prop} {kd:oy} {arr:Array bj}
def kNY{st a:eN}{Q:PUnit->eN->Prop}(h:Q ⟨⟩ a):wpS M A E s (set a:StateT eN Sem PUnit) Q st:=by
 unfold wpS;rw[StateT.run_set];exact bg ⟨rfl,h⟩
def wW{i m j:Nat}(h1:i<=m)(a:m<=j):(arr.extract i j).toList=(arr.extract i m).toList++(arr.extract m j).toList:=by
 rw[<-iG,Array.extract_append_extract,ni h1,Nat.max_eq_right a]
def kCN(W:Wk lb){lo n:Nat}(h:jE lb (arr.extract lo (lo+n)).toList)(b:lo+n<=arr.size)(i j:Nat)(hi:i<=j)(a:j<n):le lb (arr[lo+i]'(by omega)) (arr[lo+j]'(by omega)):=by
 have:=wF W h hi (show j<(arr.extract lo (lo+n)).size by rw[ko];omega);simpa using this
def Joined(lb:bj->bj->Bool)(arr a:Array bj)(lo n:Nat):Prop:=∃ m:List bj,a.toList=arr.toList.take lo++(m++arr.toList.drop (lo+n))/\jE lb m/\m.Perm (arr.extract lo (lo+n)).toList
def vQ{lo n:Nat}(h:lo+n<=arr.size):arr.toList=arr.toList.take lo++((arr.extract lo (lo+n)).toList++arr.toList.drop (lo+n)):=by
 rw[xH,<-AR,fv,fv]
def tK(W:Wk lb)(hL:vW M A E s lb D kd){st:eN}(O:kindOf st=kd)(hf:vj st=none)(dd:∀ x∈(cx st).toList,D x){i b d f pa pb:Nat}(hi:(cw st)[i]?=some (b,d,pa))(H:(cw st)[i+1]?=some (b+d,f,pb))
  (a2:0<d) (a5:0<f) (hn:b+d+f<=(cx st).size) (Y:jE lb ((cx st).extract b (b+d)).toList) (sy:jE lb ((cx st).extract (b+d) (b+d+f)).toList) {Q:Bool->eN->Prop}
  (q:∀ st',kindOf st'=kd->vj st'=none->cw st'=((cw st).setIfInBounds i (b,d+f,pa)).eraseIdxIfInBounds (i+1)->Joined lb (cx st) (cx st') b (d+f)->Q true st'):wpS M A E s (mergeAt' i) Q st:=by
 unfold mergeAt'
 walk_at "sort_open mergeAt"
 dsimp only;refine cm (AC ?_);rw[hi,H];dsimp only;refine cm (kNY ?_);generalize hP:((cw st).setIfInBounds i (b,d+f,pa)).eraseIdxIfInBounds (i+1)=Z at *;have dx:∀{j:Nat}(h:j<(cx st).size),D (cx st)[j]:=λ h=>dd _ (by simp);have z1:b+d<(cx st).size:=by omega
 have z2:b+d-1<(cx st).size:=by omega
 have z3:b+d<=(cx st).size:=by omega
 refine cm (qD (arr:=cx st) (getElem?_pos (cx st) (b+d) z1) ?_);refine cm (uQ (arr:=cx st) (st:=setPending st Z) W hL O (dx z1) dd z3 (kCN (arr:=cx st) W Y z3) a2 λ k kn g1 g2=>?_);simp only[eE,if_false]at g1 g2;dsimp only;have I:=wW (arr:=cx st) (i:=b) (m:=b+k) (j:=b+d) (by omega) (by omega);have N:=wW (arr:=cx st) (i:=b) (m:=b+d) (j:=b+d+f) (by omega) (by omega);have iy:=kCN W sy (by omega);have ix:=kCN W Y (by omega);have same:∀{X:List bj},X=((cx st).extract b (b+(d+f))).toList->jE lb X->Joined lb (cx st) (cx st) b (d+f):=λ{X} e h=>⟨X,by rw[e];exact vQ (by omega),h,by rw[e]⟩
 have low:∀ x∈((cx st).extract b (b+k)).toList,∀ y∈((cx st).extract (b+d) (b+d+f)).toList,le lb x y:=λ x C y g=>by
  obtain⟨j,H,S,J,rfl⟩:=jB C;obtain⟨j',a7,a8,a6,rfl⟩:=jB g;have l:=g1 (j-b) (by omega) (by omega);have e2:=iy 0 (j'-(b+d)) (by omega) (by omega);simp only[show b+(j-b)=j by omega,show b+d+(j'-(b+d))=j' by omega,Dy]at l e2;exact W.trans l e2
 by_cases e:d-k=0
 ·rw[if_pos (by simpa using e)]
  have ek:b+k=b+d:=by omega
  rw[ek]at low;exact de (q _ O hf rfl (same (by rw[<-yc];exact N.symm) (eD.mpr ⟨Y,sy,low⟩)))
 rw[if_neg (by simpa using e)];have eL:b+k+(d-k)-1=b+d-1:=by omega
 rw[eL];refine cm (qD (arr:=cx st) (getElem?_pos (cx st) (b+d-1) z2) ?_);refine cm (uQ (arr:=cx st) (st:=setPending st Z) W hL O (dx z2) dd hn iy (by omega) λ p pn f1 f2=>?_);simp only[if_true]at f1 f2;dsimp only
 have n:∀ x∈((cx st).extract b (b+d)).toList,le lb x ((cx st)[b+d-1]'(by omega)):=λ x C=>by
  obtain⟨j,H,S,J,rfl⟩:=jB C;have l:=ix (j-b) (d-1) (by omega) (by omega);simp only[show b+(j-b)=j by omega,show b+(d-1)=b+d-1 by omega]at l;exact l
 have high:∀ y∈((cx st).extract (b+d+p) (b+d+f)).toList,le lb ((cx st)[b+d-1]'(by omega)) y:=λ y g=>by
  obtain⟨j,H,S,J,rfl⟩:=jB g;have l:=f2 (j-(b+d)) (by omega) (by omega);simp only[show b+d+(j-(b+d))=j by omega]at l;exact l
 by_cases e0:p=0
 ·rw[if_pos (by simpa using e0)]
  rw[e0,Dy]at high;exact de (q _ O hf rfl (same (by rw[<-yc];exact N.symm) (eD.mpr ⟨Y,sy,λ x C y g=>W.trans (n x C) (high y g)⟩)))
 rw[if_neg (by simpa using e0)];have L:=wW (arr:=cx st) (i:=b+d) (m:=b+d+p) (j:=b+d+f) (by omega) (by omega);have B:=Y;rw[I]at B;have G:=sy;rw[L]at G
 have mx:∀{u v:Nat},∀ x∈((cx st).extract u v).toList,D x:=λ x C=>by
  obtain⟨j,H,_,_,rfl⟩:=jB C;exact dx H
 have a1:((cx st).extract (b+k) (b+d)).size=d-k:=by rw[ko];omega
 have a3:((cx st).extract (b+d) (b+d+p)).size=p:=by rw[ko];omega
 have x0:∀(h:0<((cx st).extract (b+k) (b+d)).size),((cx st).extract (b+k) (b+d))[0]=(cx st)[b+k]'(by omega):=λ h=>by simp
 have xl:∀(h:0<((cx st).extract (b+k) (b+d)).size),((cx st).extract (b+k) (b+d))[((cx st).extract (b+k) (b+d)).size-1]'(by omega)=(cx st)[b+d-1]'(by omega):=λ h=>by
  rw[Array.getElem_extract]
  congr 1
  omega
 have y0:∀(h:0<((cx st).extract (b+d) (b+d+p)).size),((cx st).extract (b+d) (b+d+p))[0]=(cx st)[b+d]'(by omega):=λ h=>by simp
 have below:∀ y∈((cx st).extract (b+d) (b+d+p)).toList,le lb y ((cx st)[b+d-1]'(by omega)):=λ y g=>by
  obtain⟨j,H,S,J,rfl⟩:=jB g;have l:=f1 (j-(b+d)) (by omega) (by omega);simp only[show b+d+(j-(b+d))=j by omega]at l;exact W.of_lt l
 have o:∀ y∈((cx st).extract (b+k) (b+d)).toList,le lb ((cx st)[b+d]'(by omega)) y:=λ y g=>by
  obtain⟨j,H,S,J,rfl⟩:=jB g;have l:=g2 (j-b) (by omega) (by omega);simp only[show b+(j-b)=j by omega]at l;exact W.of_lt l
 have T:∀(r:Array bj)(st':eN),Sm (setPending st Z) st'->Res lb ((cx st).extract (b+k) (b+d)).toList ((cx st).extract (b+d) (b+d+p)).toList r.toList ->
   wpS M A E s (do modify λ s=>setArr s (r.toList.zipIdx.foldl (λ a (p,j)=>a.setIfInBounds (b+k+j) p) (cx s));let __do_lift <-get;pure (vj __do_lift).isNone) Q st':=λ r st' sm U=>by
  refine cm (qa (cm (AC ?_)));have ef:vj st'=none:=sm.2.2.2.trans hf;have ea:cx st'=cx st:=sm.2.1;refine de ?_;show Q (vj st').isNone _;rw[ef];refine q _ (sm.1.trans O) ef sm.2.2.1 ?_;show Joined lb (cx st) (r.toList.zipIdx.foldl (λ a (p:bj×Nat)=>a.setIfInBounds (b+k+p.2) p.1) (cx st')) b (d+f);rw[ea];obtain⟨S,J⟩:=kIN W B G (by rw[<-L];exact low) (λ x C y g=>W.trans (n x (by rw[I];exact dc _ C)) (high y g)) U;rw[<-I,<-L,<-N]at J;refine⟨_,?_,S,by rw[<-yc];exact J⟩
  have len:r.toList.length=d-k+p:=by
   have:=U.2.length_eq;rw[bu]at this;simp only[iE,a1,a3]at this;simpa using this
  rw[wr r.toList 0 (cx st) (b+k) (by rw[len];omega),len];have t1:(cx st).toList.take (b+k+0)=(cx st).toList.take b++((cx st).extract b (b+k)).toList:=kCI (cx st) (by omega)
  have t2:(cx st).toList.drop (b+k+0+(d-k+p))=((cx st).extract (b+d+p) (b+d+f)).toList++(cx st).toList.drop (b+(d+f)):=by
   rw[show b+k+0+(d-k+p)=b+d+p by omega,show b+d+f=b+d+p+(f-p) by omega,xH,show b+(d+f)=b+d+p+(f-p) by omega];exact kDS _ _ _
  rw[t1,t2];simp only[di]
 have a0:(cx st)[b+k]'(by omega)∈((cx st).extract (b+k) (b+d)).toList:=by
  rw[<-x0 (by omega),va];exact Bu _
 have a4:((cx st).extract (b+d) (b+d+p))[((cx st).extract (b+d) (b+d+p)).size-1]'(by omega)∈((cx st).extract (b+d) (b+d+p)).toList:=by
  rw[va];exact Bu _
 by_cases c:d-k<=p
 ·rw[if_pos c]
  refine cm ?_;exact tG (st:=setPending st Z) ⟨W,hL,mx,mx,(eD.mp B).2.1,(eD.mp G).1,λ h y g=>by rw[xl h];exact below y g⟩ O (by omega) (by omega) (by rw[x0 (by omega),y0 (by omega)];exact o _ a0) T
 ·rw[if_neg c]
  refine cm ?_;exact tH (st:=setPending st Z) ⟨W,hL,mx,mx,(eD.mp B).2.1,(eD.mp G).1,λ h y g=>by rw[y0 h];exact o y g⟩ O (by omega) (by omega) (by rw[xl (by omega)];exact below _ a4) T
end
def rE{α:Type}{R:α->α->Prop}:∀{l:List α},l.length<=1->l.Pairwise R
 | [],_=>Bt
 | [_],_=>ph _ _
set_option autoImplicit false
open PySem PyProof.Rows
section
variable {α:Type}
def kKB(arr:Array α){Q R:List α}{y x:α}(h:arr.toList=Q++y::x::R):(arr.swapIfInBounds (Q.length+1) Q.length).toList=Q++x::y::R:=by
 have sz:arr.size=Q.length+(R.length+2):=by
  have:=congrArg jb h;simpa using this
 have g:∀ k,arr[k]?=(Q++y::x::R)[k]?:=λ k=>by rw[<-h,ow]
 refine AV λ k=>?_;have e:=getElem?_swapIB (xs:=arr) (i:=Q.length+1) (j:=Q.length) (by omega) (by omega) k;rw[show(arr.swapIfInBounds (Q.length+1) Q.length).toList[k]?=(arr.swapIfInBounds (Q.length+1) Q.length)[k]? by simp,e,g,g,g];rcases iY k Q.length with c | c
 ·rw[if_neg (by omega),if_neg (by omega),bq c,bq c]
 ·obtain⟨j,rfl⟩ : ∃ j,k=Q.length+j:=⟨k-Q.length,by omega⟩
  rw[cq (by omega),cq (by omega),cq (by omega),cq (by omega)];rw[show Q.length+j-Q.length=j by omega,show Q.length+1-Q.length=1 by omega,Dz]
  match j with
  | 0=>simp
  | 1=>simp
  | j+2 =>
   rw[if_neg (by omega),if_neg (by omega)];simp
theorem dZ:∀(b a T:List α)(x:α)(arr:Array α),arr.toList=a++(b++x::T)->(bubble arr (a.length+b.length) b.length).toList=a++(x::(b++T))
 | [],a,T,x,arr,h=>h
 | y::b,a,T,x,arr,h=>by
  have c:=dZ b (a++[y]) T x arr (by rw[h];simp);rw[iJ,bubble_succ];rw[bu,fj,show a.length+1+b.length=a.length+(b.length+1) by omega]at c;have e:=kKB (bubble arr (a.length+(b.length+1)) b.length) (Q:=a) (y:=y) (x:=x) (R:=b++T) (by rw[c];simp);rw[show a.length+(b.length+1)-b.length=a.length+1 by omega,show a.length+1-1=a.length by omega];rw[e];simp
end
section
variable {M:zi} {A:fk} {E:au->az->Prop} {s:az} {lb:bj->bj->Bool} {D:bj->Prop} {kd:oy}
def aS(b:vW M A E s lb D kd){st:eN}(d:kindOf st=kd){i j:Nat}{x y:bj}(a:(cx st)[i]?=some x)(g:(cx st)[j]?=some y)(c:D x)(f:D y){Q:Option Bool->eN->Prop}(q:Q (some (lb x y)) st):wpS M A E s (ltAt' i j) Q st:=by
 rw[ltAt'_eq];refine cm (AC ?_);exact cm (qD a (cm (qD g (b _ _ c f st _ d q))))
def Sa(st a:eN):Prop:=kindOf a=kindOf st/\cw a=cw st/\vj a=vj st
def kPY(W:Wk lb){c b:List bj}{x:bj}(h:jE lb (c++b))(h1:∀ y∈c,le lb y x)(g:∀ y∈b,le lb x y):jE lb (c++x::b):=by
 have a:=eD.mp h;refine eD.mpr ⟨a.1,Be.mpr ⟨g,a.2.1⟩,λ y d z f=>?_⟩;rcases eA.mp f with rfl | w
 ·exact h1 y d
 ·exact a.2.2 y d z w
def kCD(W:Wk lb)(S:vW M A E s lb D kd){st:eN}(hk:kindOf st=kd)(O:∀ x∈(cx st).toList,D x){lo n ok:Nat}(U:ok<=n)(hn:lo+n<=(cx st).size)(hs:jE lb ((cx st).extract lo (lo+ok)).toList){Q:Bool->eN->Prop}
  (q:∀ st',Sa st st'->Joined lb (cx st) (cx st') lo n->Q true st'):wpS M A E s (binarySort' lo n ok) Q st:=by
 rw[binarySort'_eq];refine cm (vi (jw (I:=λ k c st'=>c=(none,())/\Sa st st'/\Joined lb (cx st) (cx st') lo (min k n)) (Q:=λ c st'=>c=(none,())/\Sa st st'/\Joined lb (cx st) (cx st') lo n) ?step ?fin ?init) ?post)
 case post =>
  rintro c st' ⟨rfl,g,j⟩;exact de (q st' g j)
 case fin =>
  rintro c st' ⟨rfl,g,j⟩;refine⟨rfl,g,?_⟩;rwa[show min (max (max ok 1) n) n=n by omega]at j
 case init =>
  refine⟨rfl,⟨rfl,rfl,rfl⟩,_,vQ (by omega),?_,AQ _⟩;by_cases o:ok=0
  ·have:((cx st).extract lo (lo+min (max ok 1) n)).toList.length<=1:=by
    rw[iE,ko];omega
   generalize((cx st).extract lo (lo+min (max ok 1) n)).toList=l at *;exact rE this
  ·rwa[show min (max ok 1) n=ok by omega]
 case step =>
  rintro k c st' _ X ⟨rfl,g,m,e,L,B⟩;rw[show min k n=k by omega]at e B;have Z:m.length=k:=by rw[B.length_eq,iE,ko];omega
  have lp:((cx st).toList.take lo).length=lo:=by simp;omega
  have J:lo+k<(cx st).size:=by omega
  rw[drop_one J]at e
  have ax:(cx st')[lo+k]?=some ((cx st)[lo+k]):=by
   rw[<-ow,e,cq (by omega),lp,cq (by omega),Z,show lo+k-lo-k=0 by omega]
   rfl
  have Y:∀ j (h:j<m.length),(cx st')[lo+j]?=some m[j]:=λ j h=>by
   rw[<-ow,e,cq (by omega),lp,bq (by omega),show lo+j-lo=j by omega];exact ae h
  have T:D (cx st)[lo+k]:=O _ (by simp)
  have dm:∀ j (h:j<m.length),D m[j]:=λ j h=>by
   obtain⟨i,f,_,_,ei⟩:=jB (B.mem_iff.mp (iR h));rw[ei];exact O _ (by simp)
  have mono:∀ i j (h:i<=j) (N:j<m.length),le lb (m[i]'(by omega)) m[j]:=λ i j h N=>by
   by_cases z:i=j
   ·subst z;exact W.refl _
   ·exact qb.mp L i j (by omega) N (by omega)
  refine cm (vi (jw (I:=λ x c a=>a=st'/\∃ l r,c=(none,l,r)/\l<=r/\r<=k/\r-l<=k-x/\(∀ i (h:i<m.length),i<l->le lb m[i] (cx st)[lo+k])/\(∀ i (h:i<m.length),r<=i->le lb (cx st)[lo+k] m[i]))
   (Q:=λ c a=>a=st'/\∃ l r,c=(none,l,r)/\l<=k/\(∀ i (h:i<m.length),i<l->le lb m[i] (cx st)[lo+k])/\(∀ i (h:i<m.length),l<=i->le lb (cx st)[lo+k] m[i])) ?istep ?ifin ?iinit) ?ipost)
  case iinit=>exact⟨rfl,0,k,rfl,by omega,by omega,by omega,λ i _ f=>by omega,λ i h1 h2=>by omega⟩
  case ifin =>
   rintro c a ⟨rfl,l,r,rfl,lr,H,d,u,p⟩;have:l=r:=by omega
   subst this;exact⟨rfl,l,l,rfl,H,u,p⟩
  case istep =>
   rintro x c a _ _ ⟨rfl,l,r,rfl,lr,H,d,u,p⟩;dsimp only;by_cases v:l >= r
   ·rw[if_pos v]
    have:l=r:=by omega
    subst this;exact de ⟨rfl,l,l,rfl,H,u,p⟩
   ·rw[if_neg v]
    have C:(l+r) / 2<m.length:=by omega
    refine cm (aS S (g.1.trans hk) ax (Y _ C) T (dm _ C) ?_)
    cases z:lb (cx st)[lo+k] m[(l+r) / 2]
    case true =>
     simp only[if_true];exact de ⟨rfl,l,_,rfl,by omega,by omega,by omega,u,λ i h f=>W.trans (W.of_lt z) (mono _ i f h)⟩
    case false =>
     simp only[eE,if_false];exact de ⟨rfl,_,r,rfl,by omega,by omega,by omega,λ i h f=>W.trans (mono i _ (by omega) C) z,p⟩
  case ipost =>
   rintro c a ⟨rfl,l,r,rfl,lk,u,p⟩;show wpS _ _ _ _ (do moveDown' (lo+k) (lo+l);pure (je (none,()))) _ _;rw[moveDown'_eq];refine cm (qa (de ⟨rfl,g,?_⟩));rw[show min (k+1) n=k+1 by omega];show Joined lb (cx st) (bubble (cx a) (lo+k) (lo+k-(lo+l))) lo (k+1)
   have b:=dZ (m.drop l) ((cx st).toList.take lo++m.take l) ((cx st).toList.drop (lo+k+1)) ((cx st)[lo+k]) (cx a) (by
    rw[e]
    conv=>lhs;rw[<-fv l m]
    simp only[di,List.singleton_append])
   have l1:((cx st).toList.take lo++m.take l).length+(m.drop l).length=lo+k:=by
    rw[bu,lp,dq,iZ];omega
   have l2:(m.drop l).length=lo+k-(lo+l):=by rw[iZ];omega
   rw[l1,l2]at b;refine⟨m.take l++(cx st)[lo+k]::m.drop l,?_,kPY W (by rw[fv];exact L) (λ y G=>?_) (λ y G=>?_),?_⟩
   ·rw[b,<-yc]
    simp only[di,mj]
   ·obtain⟨i,f,rfl⟩:=eO.mp G
    rw[dq]at f;rw[AU];exact u i (by omega) (by omega)
   ·obtain⟨i,f,rfl⟩:=eO.mp G
    rw[iZ]at f;rw[Bv];exact p _ (by omega) (by omega)
   ·refine uy CL ?_
    rw[fv,wW (i:=lo) (m:=lo+k) (j:=lo+(k+1)) (by omega) (by omega)]
    have:((cx st).extract (lo+k) (lo+(k+1))).toList=[(cx st)[lo+k]]:=by
     rw[<-yc,xH,drop_one J]
     rfl
    rw[this];exact(lj (l₁:=[(cx st)[lo+k]]) (l₂:=m)).trans (B.append_right _)
end
section
variable {α:Type}
def kAZ(arr:Array α){P m T:List α}{i j:Nat}(h:arr.toList=P++(m++T))(hi:i=P.length)(b:j=P.length+m.length):(mirror arr i j ((j-i) / 2)).toList=P++(m.reverse++T):=by
 subst hi b
 have sz:arr.size=P.length+(m.length+T.length):=by
  have:=congrArg jb h;simpa using this
 have g:∀ k,arr[k]?=(P++(m++T))[k]?:=λ k=>by rw[<-h,ow]
 refine AV λ k=>?_;rw[ow,getElem?_mirror_all (by omega),g,g];rcases iY k P.length with c | c
 ·rw[if_neg (by omega),bq c,bq c]
 ·rcases iY k (P.length+m.length) with a | a
  ·rw[if_pos ⟨c,a⟩,cq (by omega),cq c,bq (by omega),bq (by rw[wz];omega),Cu (by omega)]
   congr 1
   omega
  ·rw[if_neg (by omega),cq c,cq c,cq (by omega),cq (by rw[wz];omega),wz]
end
section
variable {α:Type} {lb:α->α->Bool}
def Fal(lb:α->α->Bool)(l:List α):Prop:=l.Pairwise λ a b=>le lb b a
def Fal.rev{l:List α}(h:Fal lb l):jE lb l.reverse:=Ac.mpr h
def Fal.tail{u t:List α}(h:Fal lb (u++t))(e:jE lb t):Fal lb (u++t.reverse):=by
 have a:=eD.mp h;refine eD.mpr ⟨a.1,Ac.mpr e,λ x b y c=>a.2.2 x b y (ou.mp c)⟩
end
section
variable {M:zi} {A:fk} {E:au->az->Prop} {s:az} {lb:bj->bj->Bool} {D:bj->Prop} {kd:oy}
structure Rn(arr0 arr:Array bj)(lo n:Nat)(m:List bj):Prop where
 eq:arr.toList=arr0.toList.take lo++(m++arr0.toList.drop (lo+n))
 pm:m.Perm (arr0.extract lo (lo+n)).toList
 hn:lo+n<=arr0.size
variable {arr0 arr:Array bj} {lo n:Nat} {m:List bj}
def Rn.len(h:Rn arr0 arr lo n m):m.length=n:=by
 have:=h.hn;rw[h.pm.length_eq,iE,ko];omega
def Rn.joined(h:Rn arr0 arr lo n m)(a:jE lb m):Joined lb arr0 arr lo n:=⟨m,h.eq,a,h.pm⟩
def Rn.start(h:lo+n<=arr0.size):Rn arr0 arr0 lo n (arr0.extract lo (lo+n)).toList:=⟨vQ h,AQ _,h⟩
def Rn.lp(h:Rn arr0 arr lo n m):(arr0.toList.take lo).length=lo:=by have:=h.hn;simp;omega
def Rn.at(h:Rn arr0 arr lo n m){j:Nat}(a:j<m.length):arr[lo+j]?=some m[j]:=by
 rw[<-ow,h.eq,cq (by rw[h.lp];omega),h.lp,bq (by omega),show lo+j-lo=j by omega];exact ae a
def Rn.next(h:Rn arr0 arr lo n m)(a:lo+n<arr0.size):arr[lo+n]?=some arr0[lo+n]:=by
 rw[<-ow,h.eq,cq (by rw[h.lp];omega),h.lp,cq (by rw[h.len];omega),h.len,drop_one a,show lo+n-lo-n=0 by omega]
 rfl
def Rn.more(h:Rn arr0 arr lo n m)(a:lo+n<arr0.size):Rn arr0 arr lo (n+1) (m++[arr0[lo+n]]):=by
 refine⟨?_,?_,by omega⟩
 ·rw[h.eq,drop_one a,di]
  rfl
 ·rw[wW (i:=lo) (m:=lo+n) (j:=lo+(n+1)) (by omega) (by omega)]
  have:(arr0.extract (lo+n) (lo+(n+1))).toList=[arr0[lo+n]]:=by
   rw[<-yc,xH,drop_one a]
   rfl
  rw[this];exact h.pm.append_right _
def Rn.dom(h:Rn arr0 arr lo n m)(b:∀ x∈arr0.toList,D x):∀ x∈m,D x:=λ x a=>by
 obtain⟨i,d,_,_,c⟩:=jB (h.pm.mem_iff.mp a);rw[c];exact b _ (by simp)
def Rn.turn{u v t:List bj}(h:Rn arr0 arr lo n (u++(v++t))){i j:Nat}(hi:i=lo+u.length)(a:j=lo+u.length+v.length):Rn arr0 (mirror arr i j ((j-i) / 2)) lo n (u++(v.reverse++t)):=by
 have lp:=h.lp;refine⟨?_,uy (ye u (xt t (AW v))) h.pm,h.hn⟩;have e:=kAZ arr (P:=arr0.toList.take lo++u) (m:=v) (T:=t++arr0.toList.drop (lo+n)) (i:=i) (j:=j) (by rw[h.eq];simp only[di]) (by rw[bu,lp];exact hi) (by rw[bu,lp];exact a);rw[e];simp only[di]
def kFT(W:Wk lb){m:List bj}{x:bj}(a:jE lb m)(h:m.length-1<m.length)(c:le lb m[m.length-1] x):jE lb (m++[x]):=by
 refine eD.mpr ⟨a,ph _ _,λ y f z b=>?_⟩;have:z=x:=by simpa using b
 subst this;obtain⟨i,d,rfl⟩:=eO.mp f;by_cases e:i=m.length-1
 ·subst e;exact c
 ·exact W.trans (qb.mp a i (m.length-1) d h (by omega)) c
abbrev AS:=Option (Option Nat)×Nat
def kDZ(lo a b:Nat):StateT eN Sem AS :=
 forIn [a:b] ((none,a):AS) λ _ c=>do
  let r <-ltAt' (lo+c.2) (lo+c.2-1)
  match r with
  | some smaller=>if smaller=true then pure (yp (none,c.2)) else pure (je (none,c.2+1))
  | _=>pure (yp (some none,c.2))
def tL(W:Wk lb)(p:vW M A E s lb D kd){st:eN}(y:kindOf st=kd)(l:∀ x∈arr0.toList,D x){a:Nat}(B:lo+a<=arr0.size)(H:1<=n)(r:n<=a)(h:Rn arr0 (cx st) lo n m)(u:jE lb m){Q:AS->eN->Prop}
  (q:∀ k m',n<=k->k<=a->Rn arr0 (cx st) lo k m'->jE lb m'->(k=a\/∃(h1:lo+k<arr0.size)(G:m'.length-1<m'.length),lb arr0[lo+k] m'[m'.length-1]=true)->Q (none,k) st):wpS M A E s (kDZ lo n a) Q st:=by
 unfold kDZ;refine jw (I:=λ x c f=>f=st/\c=(none,x)/\∃ m',Rn arr0 (cx st) lo x m'/\jE lb m') ?step ?fin ⟨rfl,rfl,m,h,u⟩
 case fin =>
  rintro c f ⟨rfl,rfl,m',d,b⟩;rw[show max n a=a by omega]at d ⊢;exact q a m' r (bf _) d b (.inl rfl)
 case step =>
  rintro x c f i v ⟨rfl,rfl,m',d,b⟩;dsimp only;have C:=d.len;have j:lo+x<arr0.size:=by omega
  have g:m'.length-1<m'.length:=by omega
  have o:=d.at g;rw[show lo+(m'.length-1)=lo+x-1 by omega]at o;refine cm (aS p y (d.next j) o (l _ (by simp)) (d.dom l _ (iR g)) ?_)
  cases e:lb arr0[lo+x] m'[m'.length-1]
  case true =>
   simp only[if_true];exact de (q x m' i (by omega) d b (.inr ⟨j,g,e⟩))
  case false =>
   simp only[eE,if_false];exact de ⟨rfl,rfl,_,d.more j,kFT W b g e⟩
end
section
variable {M:zi} {A:fk} {E:au->az->Prop} {s:az} {lb:bj->bj->Bool} {D:bj->Prop} {kd:oy}
variable {arr0 arr:Array bj} {lo n:Nat} {m:List bj}
abbrev DS:=Option (Option Nat)×Nat×Nat
def kBS(lo n a:Nat):StateT eN Sem DS :=
 forIn [n:a] ((none,n,0):DS) λ _ c=>do
  let r <-ltAt' (lo+c.2.1) (lo+c.2.1-1)
  match r with
  | some smaller =>
   if smaller=true then
    if c.2.2>0 then do
     reverseSlice' (lo+c.2.1-(c.2.2+1)) (lo+c.2.1)
     pure (je (none,c.2.1+1,0))
    else pure (je (none,c.2.1+1,0))
   else do
    let r <-ltAt' (lo+c.2.1-1) (lo+c.2.1)
    match r with
    | some larger=>if larger=true then pure (yp (none,c.2.1,c.2.2)) else pure (je (none,c.2.1+1,c.2.2+1))
    | _=>pure (yp (some none,c.2.1,c.2.2))
  | _=>pure (yp (some none,c.2.1,c.2.2))
structure Fl(lb:bj->bj->Bool)(arr0 arr:Array bj)(lo n neq:Nat)(u t:List bj)(z:bj):Prop where
 rn:Rn arr0 arr lo n (u++(t++[z]))
 fal:Fal lb (u++(t++[z]))
 srt:jE lb (t++[z])
 len:t.length=neq
def Fl.last{a:Nat}{u t:List bj}{z:bj}(h:Fl lb arr0 arr lo n a u t z)(b:0<n):arr[lo+n-1]?=some z:=by
 have l:=h.rn.len;rw[bu,bu,fj]at l;have:=h.rn.at (j:=n-1) (by rw[bu,bu,fj];omega);rw[show lo+(n-1)=lo+n-1 by omega]at this;rw[this,<-ae,cq (by omega),cq (by omega),show n-1-u.length-t.length=0 by omega]
 rfl
def Fl.low(W:Wk lb){a:Nat}{u t:List bj}{z x:bj}(h:Fl lb arr0 arr lo n a u t z)(c:le lb x z):∀ y∈u++(t++[z]),le lb x y:=λ y b=>by
 have f:=h.fal;rw[Fal,<-di]at f;rw[<-di]at b;rcases bz.mp b with w | w
 ·exact W.trans c ((eD.mp f).2.2 y w z (by simp))
 ·have:y=z:=by simpa using w
  rw[this];exact c
def bY{l:List bj}{x:bj}(h:Fal lb l)(c:∀ y∈l,le lb x y):Fal lb (l++[x]):=by
 refine eD.mpr ⟨h,ph _ _,λ y a w b=>?_⟩;have:w=x:=by simpa using b
 rw[this];exact c y a
def Fl.turned{a:Nat}{u t:List bj}{z:bj}(h:Fl lb arr0 arr lo n a u t z):Rn arr0 (mirror arr (lo+n-(a+1)) (lo+n) ((lo+n-(lo+n-(a+1))) / 2)) lo n (u++(t++[z]).reverse)/\Fal lb (u++(t++[z]).reverse):=by
 have l:=h.rn.len;have b:=h.len;rw[bu,bu,fj]at l;refine⟨?_,h.fal.tail h.srt⟩;have:=Rn.turn (u:=u) (v:=t++[z]) (t:=[]) (by simpa using h.rn) (i:=lo+n-(a+1)) (j:=lo+n) (by omega) (by rw[bu,fj];omega);simpa using this
def kGY(W:Wk lb)(i:vW M A E s lb D kd){st:eN}(p:kindOf st=kd)(o:∀ x∈arr0.toList,D x){a:Nat}(J:lo+a<=arr0.size)(L:1<=n)(B:n<=a){u:List bj}{z:bj}(h:Fl lb arr0 (cx st) lo n 0 u [] z){Q:DS->eN->Prop}
  (q:∀ k neq st' u t z,Sa st st'->n<=k->k<=a->Fl lb arr0 (cx st') lo k neq u t z->Q (none,k,neq) st'):wpS M A E s (kBS lo n a) Q st:=by
 unfold kBS;refine jw (I:=λ x c st'=>Sa st st'/\∃ neq u t z,c=(none,x,neq)/\Fl lb arr0 (cx st') lo x neq u t z) ?step ?fin ⟨⟨rfl,rfl,rfl⟩,0,u,[],z,rfl,h⟩
 case fin =>
  rintro c st' ⟨b,neq,u,t,z,rfl,f⟩;rw[show max n a=a by omega]at f ⊢;exact q _ _ _ _ _ _ b B (bf _) f
 case step =>
  rintro x c st' g H ⟨b,neq,u,t,z,rfl,f⟩;dsimp only;have d:lo+x<arr0.size:=by omega
  have l:D z:=f.rn.dom o z (by simp);have j:D arr0[lo+x]:=o _ (by simp);refine cm (aS i (b.1.trans p) (f.rn.next d) (f.last (by omega)) j l ?_)
  cases e:lb arr0[lo+x] z
  case true =>
   simp only[if_true];have m:=f.low W (W.of_lt e);by_cases r:neq>0
   ·rw[if_pos r,Aj]
    obtain⟨C,G⟩:=f.turned;refine cm (qa (de ⟨b,0,_,[],_,rfl,⟨C.more d,bY G λ y v=>m y ?_,ph _ _,rfl⟩⟩));rcases bz.mp v with w | w
    ·exact df _ w
    ·exact dc _ (ou.mp w)
   ·rw[if_neg r]
    exact de ⟨b,0,_,[],_,rfl,⟨f.rn.more d,bY f.fal m,ph _ _,rfl⟩⟩
  case false =>
   simp only[eE,if_false];refine cm (aS i (b.1.trans p) (f.last (by omega)) (f.rn.next d) l j ?_)
   cases e2:lb z arr0[lo+x]
   case true =>
    simp only[if_true];exact de (q _ _ _ _ _ _ b g (by omega) f)
   case false =>
    simp only[eE,if_false];refine de ⟨b,neq+1,u,t++[z],arr0[lo+x],rfl,⟨by have:=f.rn.more d;simpa using this,by have:=bY f.fal (f.low W e2);simpa using this,?_,by rw[bu,f.len];rfl⟩⟩;refine kFT W f.srt (by rw[bu,fj];omega) ?_;have:(t++[z])[(t++[z]).length-1]'(by rw[bu,fj];omega)=z:=by simp
    rw[this];exact e
end
def nQ(lo n a:Nat):StateT eN Sem (Option Nat):=do
 reverseSlice' lo (lo+n)
 let c <-kDZ lo n a
 match c.1 with
 | some r=>pure r
 | none=>pure (some c.2)
def dP(lo n a:Nat):StateT eN Sem (Option Nat):=do
 liftM (rule "list.sort.descending-run")
 let c <-kBS lo (n+1) a
 match c.1 with
 | some r=>pure r
 | none =>
  if c.2.2>0 then do
   reverseSlice' (lo+c.2.1-(c.2.2+1)) (lo+c.2.1)
   nQ lo c.2.1 a
  else nQ lo c.2.1 a
def mO(lo a:Nat):countRun' lo a=(do
  let c <-kDZ lo 1 a
  match c.1 with
  | some r=>pure r
  | none =>
   if(c.2 == a)=true then pure (some c.2)
   else if c.2>1 then do
    let r <-ltAt' lo (lo+c.2-1)
    match r with
    | some rose =>
     if rose=true then pure (some c.2)
     else do
      reverseSlice' lo (lo+c.2)
      dP lo c.2 a
    | _=>pure none
   else dP lo c.2 a):=by
 rw[countRun'_eq];dsimp only;unfold kDZ;refine congr (congrArg _ (congrArg _ (funext λ x=>funext λ c=>congrArg _ (funext λ r=>by cases r<;>rfl)))) (funext λ c=>?_);have part:∀ n:Nat,dP lo n a=dP lo n a:=λ _=>rfl
 cases c.1 with
 | some r=>rfl
 | none =>
  dsimp only;refine ite_congr rfl (λ _=>rfl) (λ _=>ite_congr rfl (λ _=>congrArg _ (funext λ r=>?_)) (λ _=>?_))
  ·cases r with
   | none=>rfl
   | some rose =>
    dsimp only;refine ite_congr rfl (λ _=>rfl) (λ _=>congrArg _ (funext λ _=>?_));unfold dP kBS;refine congrArg _ (funext λ _=>congr (congrArg _ (congrArg _ (funext λ x=>funext λ d=>congrArg _ (funext λ r=>?_)))) (funext λ d=>?_))
    ·cases r with
     | none=>rfl
     | some b=>exact ite_congr rfl (λ _=>rfl) (λ _=>congrArg _ (funext λ r=>by cases r<;>rfl))
    ·cases d.1 with
     | some r=>rfl
     | none =>
      unfold nQ kDZ;refine ite_congr rfl (λ _=>congrArg _ (funext λ _=>?_)) (λ _=>?_)
      all_goals exact congrArg _ (funext λ _=>congr (congrArg _ (congrArg _ (funext λ x=>funext λ c=>congrArg _ (funext λ r=>by cases r<;>rfl)))) (funext λ c=>by cases c.1<;>rfl))
  ·unfold dP kBS
   refine congrArg _ (funext λ _=>congr (congrArg _ (congrArg _ (funext λ x=>funext λ d=>congrArg _ (funext λ r=>?_)))) (funext λ d=>?_))
   ·cases r with
    | none=>rfl
    | some b=>exact ite_congr rfl (λ _=>rfl) (λ _=>congrArg _ (funext λ r=>by cases r<;>rfl))
   ·cases d.1 with
    | some r=>rfl
    | none =>
     unfold nQ kDZ;refine ite_congr rfl (λ _=>congrArg _ (funext λ _=>?_)) (λ _=>?_)
     all_goals exact congrArg _ (funext λ _=>congr (congrArg _ (congrArg _ (funext λ x=>funext λ c=>congrArg _ (funext λ r=>by cases r<;>rfl)))) (funext λ c=>by cases c.1<;>rfl))
section
variable {M:zi} {A:fk} {E:au->az->Prop} {s:az} {lb:bj->bj->Bool} {D:bj->Prop} {kd:oy}
variable {arr0 arr:Array bj} {lo n:Nat} {m:List bj}
def nH(W:Wk lb)(f:vW M A E s lb D kd){st:eN}(l:kindOf st=kd)(c:∀ x∈arr0.toList,D x){a:Nat}(g:lo+a<=arr0.size)(p:1<=n)(y:n<=a)(h:Rn arr0 (cx st) lo n m)(o:Fal lb m){Q:Option Nat->eN->Prop}
  (q:∀ k st',Sa st st'->1<=k->k<=a->Joined lb arr0 (cx st') lo k->Q (some k) st'):wpS M A E s (nQ lo n a) Q st:=by
 unfold nQ;rw[Aj];refine cm (qa ?_);have t:=Rn.turn (u:=[]) (v:=m) (t:=[]) (by simpa using h) (i:=lo) (j:=lo+n) (by simp) (by rw[h.len];simp);simp only[pd,iq]at t;refine cm (tL (st:=setArr st (mirror (cx st) lo (lo+n) ((lo+n-lo) / 2))) W f l c g p y t o.rev λ k B C r d b _=>?_);exact de (q k _ ⟨rfl,rfl,rfl⟩ (by omega) r (d.joined b))
def nI(W:Wk lb)(g:vW M A E s lb D kd){st:eN}(o:kindOf st=kd)(l:∀ x∈arr0.toList,D x){a:Nat}(i:lo+a<=arr0.size)(L:1<=n)(J:n<a)(h:Rn arr0 (cx st) lo n m)(B:Fal lb m)(hz:lo+n<arr0.size)(H:∀ y∈m,le lb arr0[lo+n] y){Q:Option Nat->eN->Prop}
  (q:∀ k st',Sa st st'->1<=k->k<=a->Joined lb arr0 (cx st') lo k->Q (some k) st'):wpS M A E s (dP lo n a) Q st:=by
 unfold dP;refine cm (wK ?_);refine cm (kGY W g o l i (by omega) (by omega) (u:=m) (z:=arr0[lo+n]) ⟨h.more hz,bY B H,ph _ _,rfl⟩ λ k c st' u t z d I r f=>?_);dsimp only;have v:∀ k b,Sa st' b->1<=k->k<=a->Joined lb arr0 (cx b) lo k->Q (some k) b:=λ k b j=>q k b ⟨j.1.trans d.1,j.2.1.trans d.2.1,j.2.2.trans d.2.2⟩;by_cases p:c>0
 ·rw[if_pos p,Aj]
  obtain⟨C,G⟩:=f.turned;refine cm (qa ?_);exact nH (st:=setArr st' (mirror (cx st') (lo+k-(c+1)) (lo+k) ((lo+k-(lo+k-(c+1))) / 2))) W g (d.1.trans o) l i (by omega) r C G v
 ·rw[if_neg p]
  exact nH W g (d.1.trans o) l i (by omega) r f.rn f.fal v
def pQ(W:Wk lb)(d:vW M A E s lb D kd){st:eN}(h:kindOf st=kd)(b:∀ x∈(cx st).toList,D x){a:Nat}(B:lo+a<=(cx st).size)(Z:1<=a){Q:Option Nat->eN->Prop}
  (q:∀ k st',Sa st st'->1<=k->k<=a->Joined lb (cx st) (cx st') lo k->Q (some k) st'):wpS M A E s (countRun' lo a) Q st:=by
 rw[mO];have N:=Rn.start (arr0:=cx st) (lo:=lo) (n:=1) (by omega)
 have Y:jE lb ((cx st).extract lo (lo+1)).toList:=by
  have:=N.len;generalize((cx st).extract lo (lo+1)).toList=l at *;exact rE (GC this)
 refine cm (tL W d h b B (by omega) Z N Y λ k m p S r f c=>?_);dsimp only;have U:=r.len;by_cases e:k=a
 ·rw[if_pos (by simpa using e)]
  exact de (q k st ⟨rfl,rfl,rfl⟩ p S (r.joined f))
 ·rw[if_neg (by simpa using e)]
  obtain⟨J,T,lt⟩ : ∃(h1:lo+k<(cx st).size)(h2:m.length-1<m.length),lb (cx st)[lo+k] m[m.length-1]=true:=by
   rcases c with c | c
   ·exact absurd c e
   ·exact c
  by_cases g:k>1
  ·rw[if_pos g]
   have I:=r.at (j:=0) (by omega);have L:=r.at T;rw[Dy]at I;rw[show lo+(m.length-1)=lo+k-1 by omega]at L;refine cm (aS d h I L (r.dom b _ (iR _)) (r.dom b _ (iR _)) ?_)
   cases e2:lb (m[0]'(by omega)) m[m.length-1]
   case true =>
    simp only[if_true];exact de (q k st ⟨rfl,rfl,rfl⟩ p S (r.joined f))
   case false =>
    simp only[eE,if_false];rw[Aj];refine cm (qa ?_);have t:=Rn.turn (u:=[]) (v:=m) (t:=[]) (by simpa using r) (i:=lo) (j:=lo+k) (by simp) (by rw[U];simp);simp only[pd,iq]at t;refine nI (st:=setArr st (mirror (cx st) lo (lo+k) ((lo+k-lo) / 2))) W d h b B p (by omega) t (show List.Pairwise _ _ from Ac.mpr f) J (λ y C=>?_) λ H st' G=>q H st' G;obtain⟨i,O,rfl⟩:=eO.mp (ou.mp C)
    have f0:le lb (m[0]'(by omega)) m[i]:=by
     by_cases z:0=i
     ·subst z;exact W.refl _
     ·exact qb.mp f 0 i (by omega) O (by omega)
    exact W.trans (W.of_lt lt) (W.trans e2 f0)
  ·rw[if_neg g]
   have o:k=1:=by omega
   subst o
   exact nI W d h b B (by omega) (by omega) r (rE (by omega)) J (λ y C=>by
    obtain⟨i,O,rfl⟩:=eO.mp C;have X:i=m.length-1:=by omega
    simp only[X];exact W.of_lt lt) λ H st' G=>q H st' G
end
abbrev Pn:=Nat×Nat×Nat
def Tiles:List Pn->Nat->Nat->Prop
 | [],a,b=>a=b
 | x::r,a,b=>x.1=a/\0<x.2.1/\Tiles r (a+x.2.1) b
theorem Tiles.le:∀{l:List Pn}{a b:Nat},Tiles l a b->a<=b
 | [],a,b,h=>by rw[show a=b from h];exact bf _
 | x::r,a,b,h=>by have:=Tiles.le h.2.2;omega
theorem Tiles.app:∀{l r:List Pn}{a b:Nat},Tiles (l++r) a b↔∃ c,Tiles l a c/\Tiles r c b
 | [],r,a,b=>⟨λ h=>⟨a,rfl,h⟩,λ⟨c,h1,d⟩=>by rw[show a=c from h1];exact d⟩
 | x::l,r,a,b=>by
  constructor
  ·rintro⟨h1,d,g⟩
   obtain⟨c,f,i⟩:=Tiles.app.mp g;exact⟨c,⟨h1,d,f⟩,i⟩
  ·rintro⟨c,⟨h1,d,g⟩,f⟩
   exact⟨h1,d,Tiles.app.mpr ⟨c,g,f⟩⟩
def Tiles.join{l r:List Pn}{a b s n o d p q:Nat}(h:Tiles (l++(s,n,p)::(o,d,q)::r) a b):o=s+n/\0<n/\0<d/\s+n+d<=b/\Tiles l a s/\Tiles r (s+n+d) b/\Tiles (l++(s,n+d,p)::r) a b:=by
 obtain⟨c,h1,m,j,g,i,f⟩:=Tiles.app.mp h;have m:s=c:=m;have g:o=c+n:=g;have j:0<n:=j;have i:0<d:=i;have f:Tiles r (c+n+d) b:=f;subst m;refine⟨g,j,i,f.le,h1,f,Tiles.app.mpr ⟨s,h1,rfl,by show 0<n+d;omega,?_⟩⟩;show Tiles r (s+(n+d)) b;rw[<-yc];exact f
def kCZ{P:Array Pn}{l r:List Pn}{x y z:Pn}(h:P.toList=l++x::y::r):((P.setIfInBounds l.length z).eraseIdxIfInBounds (l.length+1)).toList=l++z::r:=by
 have sz:P.size=l.length+(r.length+2):=by
  have:=congrArg jb h;simpa using this
 unfold Array.eraseIdxIfInBounds;rw[dif_pos (by rw[Bz];omega),Array.toList_eraseIdx,Bc,h];rw[List.set_append_right _ _ (bf _),Dz,AK (by omega),show l.length+1-l.length=1 by omega]
 rfl
section
variable {lb:bj->bj->Bool} {arr arr':Array bj} {lo n:Nat}
def Joined.low(h:Joined lb arr arr' lo n)(d:lo+n<=arr.size){a k:Nat}(c:a+k<=lo):(arr'.extract a (a+k)).toList=(arr.extract a (a+k)).toList:=by
 obtain⟨m,e,_,b⟩:=h;have lp:(arr.toList.take lo).length=lo:=by simp;omega
 rw[xH,xH,e,Ay (by omega),xi (by rw[iZ];omega),Ex,Bb,ni (by omega)]
def Joined.high(h:Joined lb arr arr' lo n)(d:lo+n<=arr.size){a k:Nat}(c:lo+n<=a):(arr'.extract a (a+k)).toList=(arr.extract a (a+k)).toList:=by
 obtain⟨m,e,_,b⟩:=h
 have l:m.length=n:=by
  rw[b.length_eq,xH,dq,iZ,iE];omega
 have lp:(arr.toList.take lo).length=lo:=by simp;omega
 rw[xH,xH,e,Ai,lp,oq (by omega),pd,Ai,oq (by omega),pd,AR]
 congr 2
 omega
def Joined.here(h:Joined lb arr arr' lo n)(c:lo+n<=arr.size):jE lb (arr'.extract lo (lo+n)).toList:=by
 obtain⟨m,e,a,b⟩:=h
 have l:m.length=n:=by
  rw[b.length_eq,xH,dq,iZ,iE];omega
 have lp:(arr.toList.take lo).length=lo:=by simp;omega
 rw[xH,e,Ai,lp,oq (by omega),pd,Dz,Ey,xi (by omega),md (by omega)];exact a
def Joined.perm(h:Joined lb arr arr' lo n)(b:lo+n<=arr.size):arr'.toList.Perm arr.toList:=by
 obtain⟨m,e,c,a⟩:=h;rw[e];exact(ye _ (a.append_right _)).trans (List.Perm.of_eq (vQ b).symm)
end
section
variable {M:zi} {A:fk} {E:au->az->Prop} {s:az} {lb:bj->bj->Bool} {D:bj->Prop} {kd:oy}
structure SI(lb:bj->bj->Bool)(kd:oy)(a0:Array bj)(st:eN)(lo:Nat):Prop where
 kind:kindOf st=kd
 failed:vj st=none
 perm:(cx st).toList.Perm a0.toList
 tiles:Tiles (cw st).toList 0 lo
 top:lo<=a0.size
 runs:∀ x∈(cw st).toList,jE lb ((cx st).extract x.1 (x.1+x.2.1)).toList
theorem SI.size{a:Array bj}{st:eN}{lo:Nat}(h:SI lb kd a st lo):(cx st).size=a.size:=by simpa using h.perm.length_eq
theorem Tiles.in:∀{l:List Pn}{a b:Nat},Tiles l a b->∀ x∈l,a<=x.1/\x.1+x.2.1<=b
 | y::l,a,b,h,x,hx=>by
  rcases eA.mp hx with rfl | z
  ·have:=h.2.2.le
   have:=h.1;omega
  ·have:=Tiles.in h.2.2 x z
   omega
def aF(W:Wk lb)(G:vW M A E s lb D kd){j:Array bj}(O:∀ x∈j.toList,D x){st:eN}{lo:Nat}(h:SI lb kd j st lo){i:Nat}(hi:i+1<(cw st).size){Q:Bool->eN->Prop}
  (q:∀ st',SI lb kd j st' lo->(cw st').size+1=(cw st).size->(∀ a k,lo<=a->((cx st').extract a (a+k)).toList=((cx st).extract a (a+k)).toList)->Q true st'):wpS M A E s (mergeAt' i) Q st:=by
 have n:(cw st).toList=(cw st).toList.take i++(cw st)[i]::(cw st)[i+1]::(cw st).toList.drop (i+2):=by
  conv=>lhs;rw[<-fv i (cw st).toList]
  rw[drop_one (show i<(cw st).size by omega),drop_one hi]
  rfl
 have C:((cw st).toList.take i).length=i:=by simp;omega
 have e1:=getElem?_pos (cw st) i (by omega);have H:=getElem?_pos (cw st) (i+1) hi;have I:=h.runs _ (by simp:(cw st)[i]∈(cw st).toList);have N:=h.runs _ (by simp:(cw st)[i+1]∈(cw st).toList);have u:=h.tiles;have m:=h.runs;rw[n]at u m;generalize B:(cw st)[i]=x at *;generalize hy:(cw st)[i+1]=y at *;obtain⟨d,l,r⟩:=x;obtain⟨sb,p,pb⟩:=y;obtain⟨eb,g,f,le,J,tr,S⟩:=u.join;subst eb;have top:=h.top;have sz:=h.size;refine tK W G h.kind h.failed (λ x B=>O x (h.perm.mem_iff.mp B)) e1 H g f (by omega) I N λ st' X Y Z c=>?_;have b:d+(l+p)<=(cx st).size:=by omega
 have o:(cw st').toList=(cw st).toList.take i++(d,l+p,r)::(cw st).toList.drop (i+2):=by
  have:=kCZ (z:=(d,l+p,r)) n;rw[C]at this;rw[Z,this]
 refine q st' ⟨X,Y,(c.perm b).trans h.perm,by rw[o];exact S,top,λ z v=>?_⟩ ?_ (λ a k U=>c.high b (by omega))
 ·rw[o]at v
  rcases bz.mp v with w | w
  ·have:=J.in z w
   rw[c.low b (by omega)];exact m z (df _ w)
  ·rcases eA.mp w with rfl | w
   ·exact c.here b
   ·have:=tr.in z w
    rw[c.high b (by omega)];exact m z (dc _ (du _ (du _ w)))
 ·have T:=congrArg jb o
  have L:=congrArg jb n;simp only[iE,bu,iJ]at T L;omega
end
def Tiles.snoc{l:List Pn}{a b:Nat}{x:Pn}(h:Tiles l a b)(e:x.1=b)(n:0<x.2.1):Tiles (l++[x]) a (b+x.2.1) :=
 Tiles.app.mpr ⟨b,h,e,n,rfl⟩
theorem Tiles.repl:∀{l:List Pn}{a b:Nat}(k:Nat)(f:Pn->Pn),(∀ x,(f x).1=x.1/\(f x).2.1=x.2.1)->Tiles l a b->Tiles (l.modify k f) a b
 | [],a,b,k,f,hf,h=>by simpa using h
 | x::r,a,b,0,f,hf,h=>by
  obtain⟨h1,c,d⟩:=h;have:=hf x;rw[List.modify_zero_cons];exact⟨this.1.trans h1,by rw[this.2];exact c,by rw[this.2];exact d⟩
 | x::r,a,b,k+1,f,hf,h=>by
  obtain⟨h1,c,d⟩:=h;rw[List.modify_succ_cons];exact⟨h1,c,Tiles.repl k f hf d⟩
def kPP{l:List Pn}{k:Nat}{f:Pn->Pn}{x:Pn}(h:x∈l.modify k f):∃ y∈l,x=y\/x=f y:=by
 obtain⟨i,a,rfl⟩:=eO.mp h;rw[List.getElem_modify];have b:i<l.length:=by simpa using a
 split
 ·exact⟨l[i],iR _,.inr rfl⟩
 ·exact⟨l[i],iR _,.inl rfl⟩
def Tiles.one:∀{l:List Pn}{a b:Nat},Tiles l a b->a<b->l.length<=1->∃ p,l=[(a,b-a,p)]
 | [],a,b,h,c,_=>by have:a=b:=h;omega
 | [(s,n,p)],a,b,h,c,_=>by
  obtain⟨h1,f,d⟩:=h;have h1:s=a:=h1;have d:a+n=b:=d;refine⟨p,?_⟩;rw[h1,show n=b-a by omega]
 | _::_::_,a,b,h,c,z=>by simp at z
section
variable {M:zi} {A:fk} {E:au->az->Prop} {s:az} {lb:bj->bj->Bool} {D:bj->Prop} {kd:oy}
def SI.len{c:Array bj}{st:eN}{lo:Nat}(h:SI lb kd c st lo):(cw st).size<=lo:=by
 have:∀(l:List Pn)(a b:Nat),Tiles l a b->a+l.length<=b:=by
  intro l
  induction l with
  | nil=>intro a b h;rw[show a=b from h];simp
  | cons x r ih =>
   intro a b h;have:=ih _ _ h.2.2;have:=h.2.1;rw[iJ];omega
 have:=this _ _ _ h.tiles;simpa using this
theorem SI.push{b:Array bj}{st:eN}{lo n:Nat}(h:SI lb kd b st lo)(c:0<n)(f:lo+n<=b.size)(d:jE lb ((cx st).extract lo (lo+n)).toList) :
  SI lb kd b (setPending st ((cw st).push (lo,n,0))) (lo+n):=by
 refine⟨h.kind,h.failed,h.perm,?_,f,?_⟩
 ·show Tiles ((cw st).push (lo,n,0)).toList 0 (lo+n)
  rw[vw];exact h.tiles.snoc rfl c
 ·intro x a
  have a:x∈((cw st).push (lo,n,0)).toList:=a;rw[vw]at a;rcases bz.mp a with z | z
  ·exact h.runs x z
  ·have:x=(lo,n,0):=by simpa using z
   rw[this];exact d
def SI.mod{b:Array bj}{st:eN}{lo:Nat}(h:SI lb kd b st lo)(k c:Nat):SI lb kd b (setPending st ((cw st).modify k λ(x:Pn)=>(x.1,x.2.1,c))) lo:=by
 refine⟨h.kind,h.failed,h.perm,?_,h.top,?_⟩
 ·show Tiles ((cw st).modify k _).toList 0 lo
  rw[DH];exact Tiles.repl k _ (λ x=>⟨rfl,rfl⟩) h.tiles
 ·intro x a
  have a:x∈((cw st).modify k λ(x:Pn)=>(x.1,x.2.1,c)).toList:=a;rw[DH]at a;obtain⟨y,d,e⟩:=kPP a;have r:=h.runs y d;rcases e with rfl | rfl
  ·exact r
  ·exact r
def SI.tail{d:Array bj}{st a:eN}{lo n:Nat}(h:SI lb kd d st lo)(b:Sa st a)(f:lo+n<=d.size)(j:Joined lb (cx st) (cx a) lo n):SI lb kd d a lo:=by
 have sz:=h.size;refine⟨b.1.trans h.kind,b.2.2.trans h.failed,(j.perm (by omega)).trans h.perm,by rw[b.2.1];exact h.tiles,h.top,λ x c=>?_⟩;rw[b.2.1]at c;have:=h.tiles.in x c;rw[j.low (by omega) (by omega)];exact h.runs x c
def tE(W:Wk lb)(N:vW M A E s lb D kd){st:eN}(hk:kindOf st=kd)(hf:vj st=none)(hp:cw st = #[])(dd:∀ x∈(cx st).toList,D x){Q:Unit->eN->Prop}
  (h:∀ st',(cx st').toList.Perm (cx st).toList->vj st'=none->jE lb (cx st').toList->Q () st'):wpS M A E s sortRuns' Q st:=by
 rw[sortRuns'_eq];refine cm (AC ?_);dsimp only;generalize a4:(cx st).size=size;generalize a6:minRun' size size 0=mr
 refine cm (vi (jw
  (I:=λ x c st'=>∃ lo,c=(none,lo)/\SI lb kd (cx st) st' lo/\(x<=lo\/lo=size))
  (Q:=λ c st'=>c=(none,size)/\SI lb kd (cx st) st' size) ?step ?fin ⟨0,rfl,⟨hk,hf,AQ _,by rw[hp];rfl,iH _,by rw[hp];simp⟩,.inl (bf _)⟩) ?post)
 case fin =>
  rintro c st' ⟨lo,rfl,d,v⟩
  have:lo=size:=by
   rcases v with v | v
   ·have:=d.top;omega
   ·exact v
  subst this;exact⟨rfl,d⟩
 case step =>
  rintro x c st' _ v ⟨lo,rfl,d,a5⟩;dsimp only;have top:=d.top;have a7:=d.size;by_cases T:lo >= size
  ·rw[if_pos T]
   have:lo=size:=by omega
   subst this;exact de ⟨rfl,d⟩
  rw[if_neg T];have X:∀{o:eN},SI lb kd (cx st) o lo->∀ x∈(cx o).toList,D x:=λ h x v=>dd x (h.perm.mem_iff.mp v);refine cm (pQ W N d.kind (X d) (by omega) (by omega) λ m o C m1 m2 j2=>?_);dsimp only;have j:=d.tail C (by omega) j2;have u:=j2.here (by omega);have J:=j.size;have bin:∀ n,n=min (size-lo) mr->m<mr->m<=n/\0<n/\lo+n<=size:=λ n e h=>by omega
  by_cases q:m<mr
  ·rw[if_pos q]
   refine cm (wK ?_);generalize hn:min (size-lo) mr=n;obtain⟨mn,Z,a2⟩:=bin n hn.symm q;refine cm (kCD W N j.kind (X j) mn (by omega) u λ a1 L j3=>?_);simp only[zq,eE,if_false];have a0:=j.tail L (by omega) j3;have O:=j3.here (by omega);clear u j j2 C j3 L J m1 m2 mn q hn bin;clear m o;refine cm (AC ?_)
   cases S:(cw a1).back? with
   | none =>
    dsimp only;exact cm (qa (de ⟨lo+n,rfl,a0.push Z (by omega) O,by omega⟩))
   | some z =>
    obtain⟨Y,G,z1⟩:=z;dsimp only;generalize power' size (2*Y+G) (2*Y+G+G+n) size=U
    refine cm (vi (jw (I:=λ _ c st'=>c=(none,())/\SI lb kd (cx st) st' lo/\jE lb ((cx st').extract lo (lo+n)).toList)
     (Q:=λ c st'=>c=(none,())/\SI lb kd (cx st) st' lo/\jE lb ((cx st').extract lo (lo+n)).toList) ?_ (λ _ _ hh=>hh) ⟨rfl,a0,O⟩) ?_)
    ·rintro y c a _ hy ⟨rfl,f,g⟩
     refine cm (AC ?_);by_cases h1:(cw a).size>1
     ·rw[if_pos h1,getElem?_pos (cw a) ((cw a).size-2) (by omega)]
      generalize(cw a)[(cw a).size-2]'(by omega)=zz;obtain⟨y1,y2,y3⟩:=zz;dsimp only;by_cases H:y3<=U
      ·rw[if_pos H]
       exact de ⟨rfl,f,g⟩
      ·rw[if_neg H]
       refine cm (aF W N dd f (by omega) λ a3 l h5 e5=>?_);simp only[zq,eE,if_false];exact de ⟨rfl,l,by rw[e5 _ _ (bf _)];exact g⟩
     ·rw[if_neg h1]
      exact de ⟨rfl,f,g⟩
    ·rintro c a ⟨rfl,f,g⟩
     dsimp only;refine cm (qa ?_);have l:=f.mod ((cw a).size-1) U;exact cm (qa (de ⟨lo+n,rfl,l.push Z (by omega) g,by omega⟩))
  ·rw[if_neg q]
   have a2:lo+m<=size:=by omega
   have Z:0<m:=by omega
   clear bin q m2 m1 j2 J C;refine cm (AC ?_)
   cases S:(cw o).back? with
   | none =>
    dsimp only;exact cm (qa (de ⟨lo+m,rfl,j.push Z (by omega) u,by omega⟩))
   | some z =>
    obtain⟨Y,G,z1⟩:=z;dsimp only;generalize power' size (2*Y+G) (2*Y+G+G+m) size=U
    refine cm (vi (jw (I:=λ _ c st'=>c=(none,())/\SI lb kd (cx st) st' lo/\jE lb ((cx st').extract lo (lo+m)).toList)
     (Q:=λ c st'=>c=(none,())/\SI lb kd (cx st) st' lo/\jE lb ((cx st').extract lo (lo+m)).toList) ?_ (λ _ _ hh=>hh) ⟨rfl,j,u⟩) ?_)
    ·rintro y c a _ hy ⟨rfl,f,g⟩
     refine cm (AC ?_);by_cases h1:(cw a).size>1
     ·rw[if_pos h1,getElem?_pos (cw a) ((cw a).size-2) (by omega)]
      generalize(cw a)[(cw a).size-2]'(by omega)=zz;obtain⟨y1,y2,y3⟩:=zz;dsimp only;by_cases H:y3<=U
      ·rw[if_pos H]
       exact de ⟨rfl,f,g⟩
      ·rw[if_neg H]
       refine cm (aF W N dd f (by omega) λ a3 l h5 e5=>?_);simp only[zq,eE,if_false];exact de ⟨rfl,l,by rw[e5 _ _ (bf _)];exact g⟩
     ·rw[if_neg h1]
      exact de ⟨rfl,f,g⟩
    ·rintro c a ⟨rfl,f,g⟩
     dsimp only;refine cm (qa ?_);have l:=f.mod ((cw a).size-1) U;exact cm (qa (de ⟨lo+m,rfl,l.push Z (by omega) g,by omega⟩))
 case post =>
  rintro c st' ⟨rfl,d⟩;dsimp only
  have B:∀ st',SI lb kd (cx st) st' size->(cw st').size<=1->Q () st':=λ st' d hl=>by
   refine h st' d.perm d.failed ?_;by_cases z:0<size
   ·obtain⟨p,e⟩:=d.tiles.one z (by simpa using hl)
    have r:=d.runs (0,size-0,p) (by rw[e];simp);have r:jE lb ((cx st').extract 0 (0+(size-0))).toList:=r;have e1:=d.size;rw[show 0+(size-0)=(cx st').size by omega,Array.extract_size]at r;exact r
   ·have:(cx st').toList=[]:=pe.mp (by rw[iE];have:=d.size;omega)
    rw[this];exact Bt
  refine cm (vi (jw (I:=λ x c st'=>c=(none,())/\SI lb kd (cx st) st' size/\(cw st').size+x<=max (size+1) (1+x))
   (Q:=λ c st'=>c=(none,())/\SI lb kd (cx st) st' size/\(cw st').size<=1) ?_ ?_ ⟨rfl,d,by have:=d.len;omega⟩) ?_)
  ·rintro x c st' _ v ⟨rfl,d,S⟩
   refine cm (AC ?_);by_cases h1:(cw st').size<=1
   ·rw[if_pos h1]
    exact de ⟨rfl,d,h1⟩
   rw[if_neg h1];have hg:∀ b:Bool,(if b=true then(cw st').size-2-1 else(cw st').size-2)+1<(cw st').size:=λ b=>by split<;>omega
   replace hg:=hg (Option.any (λ x=>decide (x<((cw st')[(cw st').size-2+1]?.elim 0 λ x=>x.snd.fst))) (if(cw st').size-2>0 then Gg (λ x=>x.snd.fst) (cw st')[(cw st').size-2-1]? else none))
   generalize(if(if(cw st').size-2>0 then Gg (λ x=>x.snd.fst) (cw st')[(cw st').size-2-1]? else none).any _=true then(cw st').size-2-1 else(cw st').size-2)=i at hg ⊢;refine cm (aF W N dd d hg λ o j H _=>?_);simp only[zq,eE,if_false];exact de ⟨rfl,j,by omega⟩
  ·rintro c st' ⟨rfl,d,S⟩
   exact⟨rfl,d,by omega⟩
  ·rintro c st' ⟨rfl,d,S⟩
   exact de (B _ d S)
end
open PySem PySem.W PyProof.Rows
def lexLt:List Int->List Int->Bool
 | [],[]=>false
 | [],_::_=>true
 | _::_,[]=>false
 | a::x,b::y=>if a=b then lexLt x y else decide (a<b)
theorem lex_irr:∀ x,lexLt x x=false
 | []=>rfl
 | a::x=>by rw[lexLt,if_pos rfl];exact lex_irr x
theorem lex_tr:∀ x y z,lexLt x y=true->lexLt y z=true->lexLt x z=true
 | [],[],_,h,_=>nomatch h
 | [],_::_,[],_,h=>nomatch h
 | [],_::_,_::_,_,_=>rfl
 | _::_,[],_,h,_=>nomatch h
 | _::_,_::_,[],_,h=>nomatch h
 | a::x,b::y,c::z,h,k=>by
  rw[lexLt]at *;by_cases e:a=b
  ·subst e
   rw[if_pos rfl]at h;by_cases d:a=c
   ·subst d
    rw[if_pos rfl]at k ⊢;exact lex_tr x y z h k
   ·rw[if_neg d]at k ⊢
    exact k
  ·rw[if_neg e]at h
   by_cases d:b=c
   ·subst d
    rw[if_neg e];exact h
   ·rw[if_neg d]at k
    have h:=of_decide_eq_true h;have k:=of_decide_eq_true k;rw[if_neg (by omega)];exact decide_eq_true (by omega)
theorem lex_neg:∀ x y z,lexLt x z=true->lexLt x y=true\/lexLt y z=true
 | [],[],z,h=>.inr h
 | [],_::_,z,h=>.inl rfl
 | _::_,_,[],h=>nomatch h
 | _::_,[],_::_,h=>.inr rfl
 | a::x,b::y,c::z,h=>by
  rw[lexLt]at *;by_cases e:a=c
  ·subst e
   rw[if_pos rfl]at h;by_cases d:a=b
   ·subst d
    rw[if_pos rfl,lexLt,if_pos rfl];exact lex_neg x y z h
   ·rw[if_neg d,lexLt,if_neg (λ q=>d q.symm)]
    by_cases l:a<b
    ·exact .inl (decide_eq_true l)
    ·exact .inr (decide_eq_true (by omega))
  ·rw[if_neg e]at h
   have h:=of_decide_eq_true h;by_cases d:a=b
   ·subst d
    rw[lexLt,if_neg e];exact .inr (decide_eq_true h)
   ·rw[if_neg d]
    by_cases l:a<b
    ·exact .inl (decide_eq_true l)
    ·rw[lexLt,if_neg (by omega)]
     exact .inr (decide_eq_true (by omega))
theorem lex_tot:∀ x y,lexLt x y=false->lexLt y x=false->x=y
 | [],[],_,_=>rfl
 | [],_::_,h,_=>nomatch h
 | _::_,[],_,h=>nomatch h
 | a::x,b::y,h,k=>by
  rw[lexLt]at *;by_cases e:a=b
  ·subst e
   rw[if_pos rfl]at h k;rw[lex_tot x y h k]
  ·rw[if_neg e]at h
   rw[if_neg (λ q=>e q.symm)]at k;have h:=of_decide_eq_false h;have k:=of_decide_eq_false k;omega
def keyOf(h:iV):au->List Int
 | .ref a=>match h.get? a with
  | some o=>match o.data with
   | .seq xs _=>xs.toList.map numOf
   | _=>[]
  | none=>[]
 | _=>[]
def lbT(h:iV)(x y:bj):Bool:=lexLt (keyOf h x.1) (keyOf h y.1)
def kSW(h:iV):Wk (lbT h):=⟨λ a=>lex_irr _,λ a b c=>lex_neg _ _ _,λ a b c=>lex_tr _ _ _⟩
def lbI(x y:bj):Bool:=decide (numOf x.1<numOf y.1)
def kSX:Wk lbI:=⟨λ a=>by unfold lbI;simp,λ a b c h=>by
  unfold lbI at *;have:=of_decide_eq_true h;by_cases l:numOf a.1<numOf b.1
  ·exact .inl (decide_eq_true l)
  ·exact .inr (decide_eq_true (by omega)),λ a b c h k=>by
  unfold lbI at *;have:=of_decide_eq_true h;have:=of_decide_eq_true k;exact decide_eq_true (by omega)⟩
def TupI(h:iV)(v:au):Prop:=∃ a o b n,v=.ref a/\h.get? a=some o/\o.cls=.type "tuple"/\o.data=.seq b n/\(∀ u∈b.toList,∃ k t,u=.int k t)/\0<b.size
def TupI.kept{h h':iV}{v:au}(x:TupI h v)(k:∀ a o,o.cls=.type "tuple"->h.get? a=some o->h'.get? a=some o):TupI h' v/\keyOf h' v=keyOf h v:=by
 obtain⟨a,o,f,n,rfl,c,b,g,i,d⟩:=x;refine⟨⟨a,o,f,n,rfl,k _ _ b c,b,g,i,d⟩,?_⟩;unfold keyOf;simp only[c,k _ _ b c]
def TupI.key{h:iV}{a:av}{o:Obj}{xs:Array au}{n:Nat}(b:h.get? a=some o)(c:o.data=.seq xs n):keyOf h (.ref a)=xs.toList.map numOf:=by
 unfold keyOf;simp only[b,c]
section
variable {prog:eX} {w:iN} {A:fk} {E:au->az->Prop} {s:az}
theorem kBB{Q:Bool->az->Prop}:∀(xs ys:List au)(i:Nat),(∀ u∈xs,∃ k t,u=ur k t)->(∀ u∈ys,∃ k t,u=ur k t)->Q (lexLt (xs.map numOf) (ys.map numOf)) s->KatLex prog w A true (decide (xs.length<ys.length)) Q (xs.zip ys) i s
 | [],[],i,_,_,h=>by exact h
 | [],_::_,i,_,_,h=>by exact h
 | _::_,[],i,_,_,h=>by exact h
 | x::xs,y::ys,i,hx,hy,h=>by
  obtain⟨a,t,rfl⟩:=hx x (eP ..);obtain⟨b,u,rfl⟩:=hy y (eP ..);rw[Bf,show decide ((ur a t::xs).length<(ur b u::ys).length)=decide (xs.length<ys.length) by simp];refine kat_cons (EH ?_);have h:Q (if a=b then lexLt (xs.map numOf) (ys.map numOf) else decide (a<b)) s:=h;by_cases e:a=b
  ·rw[if_pos e]at h
   rw[beq_iff_eq.mpr e];exact kat_yes (kBB xs ys (i+1) (λ u c=>hx u (du _ c)) (λ u c=>hy u (du _ c)) h)
  ·rw[if_neg e]at h
   rw[beq_eq_false_iff_ne.mpr e];refine kat_no ?_;rw[Bool.true_and]
   cases i == 0 with
   | true=>exact oneLt_int h
   | false=>exact kat_one _ _ (Gb h)
def kIH:vW (model prog w) A E s (lbT s.heap) (λ x=>TupI s.heap x.1) (tuples' true):=by
 intro x y r o st Q B q;obtain⟨a,I,c,n,j,i,C,h,u,G⟩:=r;obtain⟨b,J,d,m,l,f,H,g,p,D⟩:=o;rw[lt'_eq];refine cm (AC ?_);rw[B]
 have q:Q (some (lexLt (c.toList.map numOf) (d.toList.map numOf))) st:=by
  have:lbT s.heap x y=lexLt (c.toList.map numOf) (d.toList.map numOf):=by
   unfold lbT;rw[j,l,TupI.key i h,TupI.key f g]
  rw[<-this];exact q
 rw[j,l];refine cm (GX (zr (kat_lt i h f g ?_)))
 have:=kBB (prog:=prog) (w:=w) (A:=A) (s:=s) (Q:=λ b v=>v=s/\wpS (model prog w) A E s (match(Except.ok b:Except au Bool) with
  | .ok b=>pure (some b)
  | .error e=>do
   modify (λ s=>Ca (kindOf s) (cx s) (cw s) (gallopOf s) (some e))
   pure none) Q st) c.toList d.toList 0 u p ⟨rfl,de q⟩
 simpa using this
def kII:vW (model prog w) A E s lbI (λ x=>∃ k t,x.1=.int k t) oneType':=by
 intro x y f h st Q g q;obtain⟨a,t,c⟩:=f;obtain⟨b,u,d⟩:=h;rw[lt'_eq];refine cm (AC ?_);rw[g,c,d];unfold lbI at q;rw[c,d]at q;exact cm (GX (zr (kat_lt_int ⟨rfl,de q⟩)))
end
end Srt
namespace Fc
open Cyc Tri Rnd
section
variable {α:Type} {le:α->α->Bool}
theorem uH(c:∀ a b,le a b=true->le b a=true->a=b):∀{l m:List α},l.Perm m->l.Pairwise (λ a b=>le a b=true)->m.Pairwise (λ a b=>le a b=true)->l=m
 | [],m,p,_,_=>(List.nil_perm.mp p).symm
 | a::l,m,p,hl,hm=>by
  match m,p,hm with
  | [],p,_=>exact absurd p.length_eq (by simp)
  | b::m,p,hm =>
   have f:=Be.mp hl;have d:=Be.mp hm
   have e:a=b:=by
    rcases eA.mp (p.mem_iff.mp (eP ..)) with z | z
    ·exact z
    ·rcases eA.mp (p.mem_iff.mpr (eP ..)) with y | y
     ·exact y.symm
     ·exact c a b (f.1 b y) (d.1 a z)
   subst e;rw[uH c (List.Perm.cons_inv p) f.2 d.2]
def kEY(g:∀ a b c,le a b=true->le b c=true->le a c=true)(f:∀ a b,(le a b || le b a)=true)(d:∀ a b,le a b=true->le b a=true->a=b){l m:List α}(p:l.Perm m)(h:l.Pairwise (λ a b=>le a b=true)):l=m.mergeSort le :=
 uH d (p.trans (BI m le).symm) h (List.pairwise_mergeSort g f m)
end
def leP(a b:Nat×Nat):Bool:=decide (a.1<b.1\/a.1=b.1/\a.2<=b.2)
def bO{a b:Nat×Nat}:leP a b=true↔a.1<b.1\/a.1=b.1/\a.2<=b.2:=decide_eq_true_iff
def sortP(T:List (Nat×Nat)):List (Nat×Nat):=T.mergeSort leP
def sortP_is{l m:List (Nat×Nat)}(p:l.Perm m)(h:l.Pairwise (λ a b=>leP a b=true)):l=sortP m :=
 kEY (λ a b c h k=>by rw[bO]at *;omega) (λ a b=>by
  rw[Co,bO,bO];omega) (λ a b h k=>by
  rw[bO]at h k;exact qv (by omega) (by omega)) p h
def sortP_perm(T:List (Nat×Nat)):(sortP T).Perm T:=BI T leP
def zl(l:List Nat):List Int:=l.map λ n:Nat=>(n:Int)
theorem zl_inj:∀{a b:List Nat},zl a=zl b->a=b
 | [],[],_=>rfl
 | [],_::_,h=>nomatch h
 | _::_,[],h=>nomatch h
 | a::l,b::m,h=>by
  unfold zl at h;rw[eZ,eZ]at h;injection h with h1 h2
  rw[zl_inj (a:=l) (b:=m) h2,show a=b by omega]
def leL(a b:List Nat):Bool:=!Srt.lexLt (zl b) (zl a)
def leL_iff{a b:List Nat}:leL a b=true↔Srt.lexLt (zl b) (zl a)=false:=by
 unfold leL
 cases Srt.lexLt (zl b) (zl a)<;>simp
def sortL(T:List (List Nat)):List (List Nat):=T.mergeSort leL
def kSV(a b c:List Nat)(h:leL a b=true)(k:leL b c=true):leL a c=true:=by
 rw[leL_iff]at *
 cases e:Srt.lexLt (zl c) (zl a) with
 | false=>rfl
 | true =>
  rcases Srt.lex_neg _ (zl b) _ e with z | z
  ·rw[k]at z;cases z
  ·rw[h]at z;cases z
def kPS(a b:List Nat):(leL a b || leL b a)=true:=by
 rw[Co,leL_iff,leL_iff]
 cases e:Srt.lexLt (zl b) (zl a) with
 | false=>exact .inl rfl
 | true =>
  right
  cases f:Srt.lexLt (zl a) (zl b) with
  | false=>rfl
  | true =>
   have:=Srt.lex_tr _ _ _ e f;rw[Srt.lex_irr]at this;cases this
def kMD(a b:List Nat)(h:leL a b=true)(k:leL b a=true):a=b:=by
 rw[leL_iff]at h k;exact zl_inj (Srt.lex_tot _ _ k h)
def sortL_is{l m:List (List Nat)}(p:l.Perm m)(h:l.Pairwise (λ a b=>leL a b=true)):l=sortL m:=kEY kSV kPS kMD p h
def vE(T:List (List Nat)):(sortL T).Perm T:=BI T leL
def leP_leL(a b:Nat×Nat):leL [a.1,a.2] [b.1,b.2]=leP a b:=by
 rw[iX,leL_iff,bO];show Srt.lexLt [(b.1:Int),(b.2:Int)] [(a.1:Int),(a.2:Int)]=false↔_;unfold Srt.lexLt;by_cases e:(b.1:Int)=a.1
 ·rw[if_pos e]
  unfold Srt.lexLt;by_cases f:(b.2:Int)=a.2
  ·rw[if_pos f]
   exact⟨λ _=>by omega,λ _=>rfl⟩
  ·rw[if_neg f]
   rw[decide_eq_false_iff_not];omega
 ·rw[if_neg e]
  rw[decide_eq_false_iff_not];omega
open Classical in
noncomputable def per(W:Rows)(t:Nat×Nat):Nat:=if h:∃ k,0<k/\it (nxt W) k t=t/\∀ j,0<j->j<k->it (nxt W) j t≠t then xa h else 0
def per_is{W:Rows}{t:Nat×Nat}{k:Nat}(h0:0<k)(h1:it (nxt W) k t=t)(f:∀ j,0<j->j<k->it (nxt W) j t≠t):per W t=k:=by
 have d:∃ k,0<k/\it (nxt W) k t=t/\∀ j,0<j->j<k->it (nxt W) j t≠t:=⟨k,h0,h1,f⟩;unfold per;rw[dif_pos d];obtain⟨a,b,c⟩:=rg d;generalize xa d=m at *;rcases yg m k with l | l | l
 ·exact absurd b (f m a l)
 ·exact l
 ·exact absurd h1 (c k h0 l)
noncomputable def rnd(W:Rows)(t:Nat×Nat):List (Nat×Nat):=(cf (per W t)).map λ i=>it (nxt W) i t
noncomputable def fstep(W:Rows)(st:List (List Nat)×List (Nat×Nat))(t:Nat×Nat):List (List Nat)×List (Nat×Nat) :=
 if t∈st.2 then st else(st.1++[(rnd W t).map (·.1)],st.2++rnd W t)
noncomputable def fgo(W:Rows)(S:List (Nat×Nat)):List (List Nat)×List (Nat×Nat):=S.foldl (fstep W) ([],[])
def fgo_snoc(W:Rows)(S:List (Nat×Nat))(t:Nat×Nat):fgo W (S++[t])=fstep W (fgo W S) t:=by
 unfold fgo;rw[EA]
 rfl
def stepsS(W:Rows):List (Nat×Nat):=sortP (kM W)
def tiesS(W:Rows):List (Nat×Nat):=(stepsS W).filter λ t=>decide (t.1<t.2)
noncomputable def uN(W:Rows):List (List Nat):=(fgo W (stepsS W)).1
noncomputable def facesS(W:Rows):List (List Nat):=sortL (uN W)
def mem_stepsS{W:Rows}{t:Nat×Nat}:t∈stepsS W↔E W t.1 t.2:=by
 unfold stepsS;rw[(sortP_perm _).mem_iff];exact mem_steps
section
variable {W:Rows} (S:Nb W)
def lV(S:Nb W):Rnd.Perm (nxt W) (kM W):=lU S.nd S.sym
def rL(S:Nb W){t:Nat×Nat}(h:t∈kM W):0<per W t/\per W t<=(kM W).length/\it (nxt W) (per W t) t=t/\∀ j,0<j->j<per W t->it (nxt W) j t≠t:=by
 obtain⟨k,h1,c,b,a⟩:=(lV S).comes h;have e:=per_is h1 b a;rw[e];exact⟨h1,c,b,a⟩
def kHS(S:Nb W){t:Nat×Nat}(h:t∈kM W):(rnd W t).Nodup:=(lV S).round_nodup h (rL S h).2.2.2
def rnd_len(W:Rows)(t:Nat×Nat):(rnd W t).length=per W t:=by unfold rnd;simp
def rnd_sub(S:Nb W){t u:Nat×Nat}(h:t∈kM W)(a:u∈rnd W t):u∈kM W:=by
 unfold rnd at a;obtain⟨i,_,rfl⟩:=fe.mp a;exact(lV S).it i h
def bL(S:Nb W){t u:Nat×Nat}(h:t∈kM W):u∈rnd W t↔∃ j,it (nxt W) j t=u:=by
 obtain⟨p0,_,back,_⟩:=rL S h;unfold rnd;rw[fe];constructor
 ·rintro⟨i,_,e⟩
  exact⟨i,e⟩
 ·rintro⟨j,e⟩
  refine⟨j % per W t,iP.mpr (Nat.mod_lt _ p0),?_⟩;rw[<-kMI _ _ back];exact e
def rnd_self(S:Nb W){t:Nat×Nat}(h:t∈kM W):t∈rnd W t:=(bL S h).mpr ⟨0,rfl⟩
def kAG(S:Nb W){t u:Nat×Nat}(h:t∈kM W)(a:u∈rnd W t):nxt W u∈rnd W t:=by
 obtain⟨j,rfl⟩:=(bL S h).mp a;exact(bL S h).mpr ⟨j+1,rfl⟩
structure FI(W:Rows)(T:List (Nat×Nat))(st:List (List Nat)×List (Nat×Nat)):Prop where
 reps:∃ R:List (Nat×Nat),(∀ r∈R,r∈T)/\st.1=R.map (λ r=>(rnd W r).map (·.1))/\st.2=R.flatMap (rnd W)
 nd:st.2.Nodup
 sub:∀ t∈st.2,t∈kM W
 cl:∀ t∈st.2,nxt W t∈st.2
 cov:∀ t∈T,t∈st.2
def FI.start(W:Rows):FI W [] ([],[]):=⟨⟨[],by simp,rfl,rfl⟩,yx,by simp,by simp,by simp⟩
theorem FI.it{T:List (Nat×Nat)}{st:List (List Nat)×List (Nat×Nat)}(h:FI W T st){t:Nat×Nat}(a:t∈st.2)(j:Nat):it (nxt W) j t∈st.2:=by
 induction j with
 | zero=>exact a
 | succ j ih=>exact h.cl _ ih
def FI.step(S:Nb W){T:List (Nat×Nat)}{st:List (List Nat)×List (Nat×Nat)}(h:FI W T st){t:Nat×Nat}(f:t∈kM W):FI W (T++[t]) (fstep W st t):=by
 unfold fstep;obtain⟨R,m,l,r3⟩:=h.reps
 split
 ·rename_i c
  refine⟨⟨R,λ r g=>df _ (m r g),l,r3⟩,h.nd,h.sub,h.cl,λ u d=>?_⟩;rcases bz.mp d with z | z
  ·exact h.cov u z
  ·rw[cg.mp z]
   exact c
 ·rename_i c
  have i:∀ a∈st.2,∀ b∈rnd W t,a≠b:=λ a n b o e=>by
   subst e;obtain⟨j,rfl⟩:=(bL S f).mp o;obtain⟨p0,_,back,_⟩:=rL S f
   have:Rnd.it (nxt W) (per W t*(j+1)-j) (Rnd.it (nxt W) j t)=t:=by
    have le:j<=per W t*(j+1):=jt (Aq j) (Nat.le_mul_of_pos_left _ p0);rw[<-aM,uk le,kMI _ _ back,Nat.mul_mod_right]
    rfl
   rw[<-this]at c;exact c (h.it n _)
  refine⟨⟨R++[t],λ r g=>?_,by rw[cu,l];rfl,by rw[qi,r3,xu]⟩,?_,λ u d=>?_,λ u d=>?_,λ u d=>?_⟩
  ·rcases bz.mp g with z | z
   ·exact df _ (m r z)
   ·exact dc _ z
  ·exact cy.mpr ⟨h.nd,kHS S f,i⟩
  ·rcases bz.mp d with z | z
   ·exact h.sub u z
   ·exact rnd_sub S f z
  ·rcases bz.mp d with z | z
   ·exact df _ (h.cl u z)
   ·exact dc _ (kAG S f z)
  ·rcases bz.mp d with z | z
   ·exact df _ (h.cov u z)
   ·rw[cg.mp z]
    exact dc _ (rnd_self S f)
def fgo_ok(S:Nb W):∀(T:List (Nat×Nat)),(∀ t∈T,t∈kM W)->FI W T (fgo W T):=by
 intro T
 have:∀(n:Nat),n<=T.length->(∀ t∈T,t∈kM W)->FI W (T.take n) (fgo W (T.take n)):=λ n=>by
  induction n with
  | zero=>intro _ _;rw[CM];exact FI.start W
  | succ n ih =>
   intro b a;have h:=ih (by omega) a;have e:T.take (n+1)=T.take n++[T[n]]:=by rw[jd,ae (by omega)];rfl
   rw[e,fgo_snoc];exact h.step S (a _ (iR _))
 intro a;have:=this T.length (bf _) a;rwa[iL]at this
def FI.len{T:List (Nat×Nat)}{st:List (List Nat)×List (Nat×Nat)}(h:FI W T st):st.2.length<=(kM W).length:=eV h.nd h.sub
end
end Fc
namespace Srt
set_option autoImplicit false
open PySem PySem.W PyProof.Rows
def kNV(lb:bj->bj->Bool)(l:List au):Prop:=l.Pairwise λ u v=>le lb (u,u) (v,v)
def kSM{lb:bj->bj->Bool}{c:List au}{l:List bj}(p:l.Perm (c.zip c))(f:jE lb l):(l.map (·.2)).Perm c/\kNV lb (l.map (·.2)):=by
 have same:∀ x∈l,x=(x.2,x.2):=λ x d=>by
  have:=(mem_zip_self (p.mem_iff.mp d)).1;obtain⟨a,b⟩:=x;have:a=b:=this;rw[this]
 refine⟨?_,?_⟩
 ·have:=p.map (λ x:bj=>x.2)
  rwa[show(c.zip c).map (λ x:bj=>x.2)=c from zd (bf _)]at this
 ·refine me.mpr (f.imp_of_mem λ{x y} d g h=>?_)
  rw[<-same x d,<-same y g];exact h
section
variable {prog:eX} {w:iN} {A:fk} {E:au->az->Prop} {s:az}
def kKO{lb:bj->bj->Bool}{D:bj->Prop}{kd:oy}(W:Wk lb){a:av}{c:List au}{n:Nat}{P:ux->az->Prop}(r:s.heap.get? a=some (seqObj "list" c.toArray n))(hz:c.length<=sizeLine)
  (B:2<=c.length->∀(j:iV),(∀ b o,o.cls≠.type "list"->s.heap.get? b=some o->j.get? b=some o)->∀ Q:oy->az->Prop,Q kd {s with heap:=j}->dj (model prog w) A (keyKind' c.toArray) Q E {s with heap:=j})
  (N:∀(j:iV),(∀ b o,o.cls≠.type "list"->s.heap.get? b=some o->j.get? b=some o)->vW (model prog w) A E {s with heap:=j} lb D kd) (T:∀ v∈c,D (v,v))
  (h:∀ out:List au,out.Perm c->kNV lb out->P (.done (.ret .none)) {s with heap:=sortedHeap s.heap a c out.toArray}) :
  dj (model prog w) A (AA.«list.sort» ⟨[.ref a],[]⟩) P E s:=by
 rw[list_sort_plain];have ha:a<s.heap.objs.size:=cj r;refine ai (EB r rfl (ai (CA r rfl ?_ (by simpa using hz) (iH _))));obtain⟨J,m⟩ : ∃ J,(s.heap.update a (uh λ _=>#[])).get? a=some (seqObj "list" #[] J):=⟨_,BD r (λ _=>#[])⟩;refine ai (EV m rfl (ai (Cy (ai (DP (kr ?_) (iH _))) (by simpa using hz))));generalize C:((s.heap.update a (uh λ _=>#[])).push (seqObj "tuple" c.toArray 0)).push (seqObj "list" #[] 0)=G
 have f:G.get? a=some (seqObj "list" #[] J):=by
  rw[<-C];exact ar _ (ar _ m)
 have M:∀ b o,o.cls≠.type "list"->s.heap.get? b=some o->G.get? b=some o:=λ b o hc e=>by
  have O:b≠a:=λ q=>by
   subst q;rw[r]at e;exact hc (by cases e;rfl)
  rw[<-C];refine ar _ (ar _ ?_);rw[zg _ _ _ _ O];exact e
 have heap:∀ out:List au,sortedHeap s.heap a c out.toArray=G.update a (uh λ _=>out.toArray):=λ out=>by rw[<-C];rfl
 have eS:∀ X Y:Sem ux,X=Y->dj (model prog w) A X P E {s with heap:=G}->dj (model prog w) A Y P E {s with heap:=G}:=λ X Y e h=>e ▸ h
 have l:∀ d:eN,vj d=none->(cx d).toList.Perm (c.zip c)->jE lb (cx d).toList ->
   P (.done (.ret .none)) {s with heap:=G.update a (uh λ _=>(cx d).map (·.2))}:=λ d _ g H=>by
  have:=kSM g H;have q:=h _ this.1 this.2;rw[heap]at q;rw[show(cx d).map (·.2)=((cx d).toList.map (·.2)).toArray by rw[<-Array.toList_map]];exact q
 have p:∀{d:eN},(cx d).toList.Perm (c.zip c)->((cx d).map (·.2)).size<=sizeLine+1:=λ{d} g=>by
  have:=g.length_eq;rw[Array.size_map];simp at this;omega
 dsimp only;by_cases i:c.toArray.size<2
 ·rw[if_pos i,if_pos i]
  refine ai (bg ?_);rw[StateT.run_pure];refine ai (bg ?_)
  have g:(cx (Ca general' (c.toArray.zip c.toArray) #[] 7 none)).toList.Perm (c.zip c):=by
   show(c.toArray.zip c.toArray).toList.Perm _;simp
  refine ai (EV f rfl (ai (CA f rfl ?_ (iH _) (p g))));dsimp only;simp only[bne_self_eq_false,eE,if_false];refine bg (l (Ca general' (c.toArray.zip c.toArray) #[] 7 none) rfl g ?_)
  have:(c.zip c).length<=1:=by
   simp at i ⊢;omega
  show jE lb (c.toArray.zip c.toArray).toList;rw[show(c.toArray.zip c.toArray).toList=c.zip c by simp];exact rE this
 ·rw[if_neg i,if_neg i]
  refine ai (B (by simp at i;omega) G M _ ?_)
  refine ai (we (tE (s:={s with heap:=G}) W (N G M) (st:=Ca kd (c.toArray.zip c.toArray) #[] 7 none) rfl rfl rfl (λ x y=>?_)
   (Q:=λ _ d=>(cx d).toList.Perm (c.zip c)/\vj d=none/\jE lb (cx d).toList) λ d Z U S=>⟨?_,U,S⟩) ?_ λ _ _ e=>e)
  ·have y:x∈(c.toArray.zip c.toArray).toList:=y
   rw[show(c.toArray.zip c.toArray).toList=c.zip c by simp]at y;obtain⟨I,z2⟩:=mem_zip_self y;obtain⟨u,v⟩:=x;have I:u=v:=I;subst I;exact T u z2
  ·refine Z.trans ?_
   show(c.toArray.zip c.toArray).toList.Perm _;simp
  ·rintro⟨⟨⟩,d⟩ s' ⟨rfl,g,L,H⟩
   refine ai (EV f rfl (ai (CA f rfl ?_ (iH _) (p g))));dsimp only;rw[L];simp only[bne_self_eq_false,eE,if_false];exact bg (l d L g H)
def kDT{l:av}{o:Obj}{a:List au}{n:Nat}{Q:List au->az->Prop}(j:s.heap.get? l=some o)(q:o.cls=.type "list"\/o.cls=.type "tuple")(p:o.data=.seq a.toArray n)(hz:a.length<=sizeLine)
  (h:∀ h1:iV,h1.objs.size=s.heap.objs.size+1->(∀ b u,s.heap.get? b=some u->h1.get? b=some u)->Q a {s with heap:=h1}):dj (model prog w) A (collect (.ref l)) Q E s:=by
 unfold collect;refine ai (wpAny_runValue (Ed entry_proto_collect' ?_));show dj _ _ (newList [] >>= λ x=>again (.builtin "list.__iadd__" ⟨[x,.ref l],[]⟩)) _ _ s;refine ai (DP (bg ⟨Code.quiet_builtin _ (by decide +kernel),Ed entry_list_iadd' ?_⟩) (iH _));generalize d:s.heap.push (seqObj "list" #[] 0)=G;have m:G.objs.size=s.heap.objs.size+1:=by rw[<-d,size_push']
 have f:∀ b u,s.heap.get? b=some u->G.get? b=some u:=λ b u e=>by rw[<-d];exact ar _ e
 have i:G.get? s.heap.objs.size=some (seqObj "list" #[] 0):=by rw[<-d];exact ck _ rfl
 show dj _ _ (BM (.ref s.heap.objs.size) (.ref l) (.ref s.heap.objs.size)) _ _ {s with heap:=G}
 unfold BM
 have c:dj (model prog w) A (load s.heap.objs.size >>= λ o=>match o.data with
   | .seq xs _=>pure xs.toList
   | _=>unsupported "internal:collect") Q E {s with heap:=G.update s.heap.objs.size (uh (·++a.toArray))}:=by
  refine ai (wpAny_load (BD i _) ?_);show dj _ _ (pure ((#[]:Array au)++a.toArray).toList) Q E _;rw[show((#[]:Array au)++a.toArray).toList=a by simp];refine bg (h _ (by rw[Heap.size_update,m]) λ b u e=>?_);rw[zg _ _ _ _ (dw (cj e))];exact f b u e
 have r:∃ T:String,o.cls=.type T/\(T = "list"\/T = "tuple"):=by
  rcases q with e | e
  ·exact⟨_,e,.inl rfl⟩
  ·exact⟨_,e,.inr rfl⟩
 obtain⟨T,y,g⟩:=r;refine ai (yw (T:=T) ⟨o,f l o j,y⟩ ?_)
 have v:(BP T == BP "list" || BP T == BP "tuple")=true:=by
  rcases g with rfl | rfl<;>rfl
 rw[if_pos (by rw[Bool.or_assoc,v,Bool.or_true])];refine ai (EB (f l o j) p (ai (EB (xs:=#[]) (n:=0) i rfl ?_)));rw[if_neg (by simp)];refine ai (CA (xs:=#[]) (n:=0) i rfl ?_ (iH _) (by show(#[]++a.toArray).size<=sizeLine+1;rw[yk];simp;omega));exact bg c
def gK{lb:bj->bj->Bool}{D:bj->Prop}{kd:oy}(W:Wk lb){l:av}{o:Obj}{f:List au}{n:Nat}{Q:au->az->Prop}(U:s.heap.get? l=some o)(T:o.cls=.type "list"\/o.cls=.type "tuple")(S:o.data=.seq f.toArray n)(hz:f.length<=sizeLine)
  (j:2<=f.length->∀(x:fk)(p:au->az->Prop)(d:iV),(∀ b o,o.cls≠.type "list"->s.heap.get? b=some o->d.get? b=some o)->∀ Q:oy->az->Prop,Q kd {s with heap:=d}->dj (model prog w) x (keyKind' f.toArray) Q p {s with heap:=d})
  (I:∀(x:fk)(p:au->az->Prop)(d:iV),(∀ b o,o.cls≠.type "list"->s.heap.get? b=some o->d.get? b=some o)->vW (model prog w) x p {s with heap:=d} lb D kd) (L:∀ v∈f,D (v,v))
  (h:∀(a:List au)(k:Nat)(h':iV),a.Perm f->kNV lb a->(∀ b u,s.heap.get? b=some u->h'.get? b=some u)->h'.get? (s.heap.objs.size+1)=some (seqObj "list" a.toArray k)->Q (.ref (s.heap.objs.size+1)) {s with heap:=h'}) :
  dj (model prog w) A (call (.builtin "sorted") [.ref l]) Q E s:=by
 refine Calls.call_function_entry kind_sorted plain_sorted entry_sorted (args_sorted1 _) ?_;unfold AA.«sorted»;refine ai (m:=checkCount "sorted" 1 1 _) (bg (ai (kDT U T S hz λ h1 g J=>?_)));refine ai (DP ?_ (by simpa using hz));generalize C:h1.push (seqObj "list" f.toArray 0)=G
 have i:G.get? (s.heap.objs.size+1)=some (seqObj "list" f.toArray 0):=by
  rw[<-C,<-g];exact ck _ rfl
 have y:∀ b u,s.heap.get? b=some u->G.get? b=some u:=λ b u e=>by
  rw[<-C];exact ar _ (J b u e)
 show dj _ _ _ _ _ {s with heap:=G}
 rw[g];refine ai (kr (ky slot_list_sort ⟨_,i,rfl⟩ entry_list_sort (kKO (s:={s with heap:=G}) W i hz (λ M d r Q q=>j M _ _ d (λ b o c e=>r b o c (y b o e)) Q q) (λ d r=>I _ _ d λ b o c e=>r b o c (y b o e)) L λ a X N=>⟨_,rfl,?_⟩) (args_list_sort _)))
 have H:s.heap.objs.size+1<G.objs.size:=cj i;have O:(G.update (s.heap.objs.size+1) (uh λ _=>#[])).get? (s.heap.objs.size+1)=some (seqObj "list" #[] (if(#[]:Array au).size == f.toArray.size then 0 else 1)):=BD i (λ _=>#[]);refine bg ⟨_,rfl,h a _ _ X N (λ b u e=>?_) (BD (ar _ (ar _ O)) (λ _=>a.toArray))⟩;have B:b≠s.heap.objs.size+1:=dw (yi (cj e));unfold sortedHeap;rw[zg _ _ _ _ B];refine ar _ (ar _ ?_);rw[zg _ _ _ _ B];exact y b u e
def sorted_tups{l:av}{o:Obj}{p:List au}{n:Nat}{Q:au->az->Prop}(ho:s.heap.get? l=some o)(hc:o.cls=.type "list"\/o.cls=.type "tuple")(hd:o.data=.seq p.toArray n)(hz:p.length<=sizeLine)
  (H:∀ v∈p,TupI s.heap v)
  (h:∀(g:List au)(k:Nat)(h':iV),g.Perm p->kNV (lbT s.heap) g->(∀ b u,s.heap.get? b=some u->h'.get? b=some u)->h'.get? (s.heap.objs.size+1)=some (seqObj "list" g.toArray k)->Q (.ref (s.heap.objs.size+1)) {s with heap:=h'}) :
  dj (model prog w) A (call (.builtin "sorted") [.ref l]) Q E s:=by
 have C:∀{d:iV},(∀ b o,o.cls≠.type "list"->s.heap.get? b=some o->d.get? b=some o)->∀ b o,o.cls=.type "tuple"->s.heap.get? b=some o->d.get? b=some o:=λ i b o c e=>i b o (by rw[c];intro q;injection q with q;exact absurd q (by decide)) e
 refine gK (D:=λ x=>TupI s.heap x.1) (kd:=tuples' true) (kSW s.heap) ho hc hd hz (λ h2 Y O d i Q q=>?_) (λ Y O d i=>?_) (λ v f=>H v f) h
 ·have X:∀ v∈p,TupI d v:=λ v f=>((H v f).kept (C i)).1
  have:∀ j:List au,(∀ v∈j,TupI d v)->∃ fs,KatTups d j fs/\fs.length=j.length/\∀ v∈fs,∃ k t,v=ur k t:=λ j=>by
   induction j with
   | nil=>intro _;exact⟨[],.nil,rfl,by simp⟩
   | cons u j ih =>
    intro J;obtain⟨fs,B,I,r⟩:=ih λ v f=>J v (du _ f);obtain⟨a,o,G,m,rfl,e1,M,U,N,e5⟩:=J u (eP ..);refine⟨G[0]::fs,.cons e1 M U (getElem?_pos G 0 e5) B,by simp[I],λ v f=>?_⟩;rcases eA.mp f with rfl | z
    ·exact N _ (by simp)
    ·exact r v z
  obtain⟨fs,B,I,r⟩:=this p X;refine kat_kind (T:=.type "int") B (by omega) (λ v f=>?_) rfl q;obtain⟨k,t,rfl⟩:=r v f;exact Fh rfl
 ·intro x y Z S st Q L q
  have a:=Z.kept (C i);have b:=S.kept (C i);refine kIH (s:={s with heap:=d}) x y a.1 b.1 st Q L ?_
  show Q (some (lexLt (keyOf d x.1) (keyOf d y.1))) st;rw[a.2,b.2];exact q
def sorted_nums{l:av}{o:Obj}{c:List au}{n:Nat}{Q:au->az->Prop}(r:s.heap.get? l=some o)(m:o.cls=.type "list"\/o.cls=.type "tuple")(i:o.data=.seq c.toArray n)(hz:c.length<=sizeLine)
  (f:∀ v∈c,∃ k t,v=ur k t)
  (h:∀(a:List au)(k:Nat)(h':iV),a.Perm c->kNV lbI a->(∀ b u,s.heap.get? b=some u->h'.get? b=some u)->h'.get? (s.heap.objs.size+1)=some (seqObj "list" a.toArray k)->Q (.ref (s.heap.objs.size+1)) {s with heap:=h'}) :
  dj (model prog w) A (call (.builtin "sorted") [.ref l]) Q E s:=by
 refine gK (D:=λ x=>∃ k t,x.1=.int k t) (kd:=oneType') kSX r m i hz (λ g B y j p Q q=>?_) (λ B y j p=>kII) (λ v d=>f v d) h;refine kas_kind (T:=.type "int") g (λ v d=>?_) rfl rfl q;obtain⟨k,t,rfl⟩:=f v d;exact Fh rfl
end
def perm_back{α β:Type}{f:α->β}:∀{c d:List β},c.Perm d->∀{l:List α},d=l.map f->∃ m:List α,m.Perm l/\c=m.map f:=by
 intro c d h
 induction h with
 | nil =>
  intro l e
  match l,e with
  | [],_=>exact⟨[],.refl _,rfl⟩
 | cons x _ ih =>
  intro l e
  match l,e with
  | y::l,e =>
   rw[eZ]at e;injection e with e1 e2
   obtain⟨m,a,b⟩:=ih e2;exact⟨y::m,a.cons y,by rw[eZ,b,e1]⟩
 | swap x y l0 =>
  intro l e
  match l,e with
  | a::b::l,e =>
   rw[eZ,eZ]at e;injection e with e1 e2
   injection e2 with e2 e3
   exact⟨b::a::l,.swap _ _ _,by rw[eZ,eZ,e1,e2,e3]⟩
 | trans _ _ ih1 ih2 =>
  intro l e;obtain⟨m,a,b⟩:=ih2 e;obtain⟨j,i,g⟩:=ih1 b;exact⟨j,i.trans a,g⟩
end Srt
namespace L2
open PySem PySem.Spec PyProof.Rows
section
variable {X:Cx}
theorem cK:∀{ps:List (av×List Int)}{a:List au},Vals (ps.map λ q=>V.ref q.1) a->a=ps.map λ q=>jx q.1
 | [],_,.nil=>rfl
 | p::ps,_,.cons r t=>by
  rw[cK t,show _=jx p.1 from r]
  rfl
theorem oK:∀(ps:List (av×List Int)),Vals (ps.map λ q=>V.ref q.1) (ps.map λ q=>jx q.1)
 | []=>.nil
 | p::ps=>.cons rfl (oK ps)
def kNT(H:Hp)(ps:List (av×List Int)):Prop:=∀ q∈ps,H q.1=some (.tup (q.2.map V.int))/\q.2≠[]
def pS{b:List (av×Obj)}{q:St}{H:Hp}{s:az}(I:Inv X b q H s){a:av}{c:List Int}(h:H a=some (.tup (c.map V.int)))(h0:c≠[]):Srt.TupI s.heap (.ref a)/\Srt.keyOf s.heap (.ref a)=c:=by
 obtain⟨l,g,⟨o,i,m,n,d⟩,r⟩:=I.tuple (SqT.of (K:=X.K) h);have f:=fS g;have j:=g.length;refine⟨⟨a,o,_,n,rfl,i,m,d,λ u p=>f.all u (by simpa using p),?_⟩,?_⟩
 ·rw[aj]at j
  have:0<c.length:=wo.mpr h0;simp;omega
 ·rw[Srt.TupI.key i d]
  exact f.nums
inductive dX(K:be)(xs:List V)(H:Hp)(Q:VK):Prop
 | mk:∀(p:av)(ps:List (av×List Int)),(xs=[.ref p])->((SqL K H p (ps.map λ q=>V.ref q.1)\/SqT K H p (ps.map λ q=>V.ref q.1)))->(kNT H ps)->(∀(l:av)(ps':List (av×List Int)),H l=none->ps'.Perm ps->ps'.Pairwise (λ a b=>Srt.lexLt b.2 a.2=false)->Q (.ref l) (upd H l (.lst (ps'.map λ q=>V.ref q.1))))->dX K xs H Q
def vO:zD X (.builtin "sorted") (dX X.K):=by
 intro J s σ H xs us Q I r h;obtain⟨p,ps,rfl,i,g,q⟩:=h;obtain⟨u,rfl,S⟩:=uX r;cases S
 have obj:∃(o:Obj)(n:Nat),s.heap.get? p=some o/\(o.cls=.type "list"\/o.cls=.type "tuple")/\o.data=.seq (ps.map λ q=>jx q.1).toArray n/\ps.length<=sizeLine:=by
  rcases i with i | i
  ·obtain⟨C,B,j,f⟩:=I.list i
   rw[cK B]at j;obtain⟨o,y,m,n,l⟩:=j.isList;exact⟨o,n,y,.inl m,l,by simpa using f⟩
  ·obtain⟨C,B,j,f⟩:=I.tuple i
   rw[cK B]at j;obtain⟨o,y,m,n,l⟩:=j;exact⟨o,n,y,.inr m,l,by simpa using f⟩
 obtain⟨o,n,y,m,l,f⟩:=obj;refine Srt.sorted_tups y m l (by simpa using f) (λ v U=>?_) λ O k M pm T Y e=>?_
 ·obtain⟨x,L,rfl⟩:=fe.mp U
  exact(pS I (g x L).1 (g x L).2).1
 ·obtain⟨d,c,rfl⟩:=Srt.perm_back pm rfl
  refine⟨.ref (s.heap.objs.size+1),_,I.laid (t':=s.toks) Y (Aq _) (show ObjOk X.prog X.w _ M _ (.lst (d.map λ q=>V.ref q.1)) from⟨by simpa[c.length_eq] using f,_,k,oK d,e⟩),rfl,q _ d (I.hok.fresh (Aq _)) c ?_⟩;refine(me.mp T).imp_of_mem λ{a b} G D A=>?_;have Z:=(pS I (g a (c.mem_iff.mp G)).1 (g a (c.mem_iff.mp G)).2).2;have N:=(pS I (g b (c.mem_iff.mp D)).1 (g b (c.mem_iff.mp D)).2).2;have A:Srt.lexLt (Srt.keyOf s.heap (.ref b.1)) (Srt.keyOf s.heap (.ref a.1))=false:=A;rw[Z,N]at A;exact A
inductive dY(K:be)(xs:List V)(H:Hp)(Q:VK):Prop
 | mk:∀(p:av)(ns:List Int),(xs=[.ref p])->((SqL K H p (ns.map V.int)\/SqT K H p (ns.map V.int)))->(∀(l:av)(ns':List Int),H l=none->ns'.Perm ns->ns'.Pairwise (·<=·)->Q (.ref l) (upd H l (.lst (ns'.map V.int))))->dY K xs H Q
def kDV:zD X (.builtin "sorted") (dY X.K):=by
 intro D s Z H Y T Q I r h;obtain⟨p,J,rfl,g,q⟩:=h;obtain⟨u,rfl,S⟩:=uX r;cases S
 have obj:∃(o:Obj)(n:Nat)(c:List au),s.heap.get? p=some o/\(o.cls=.type "list"\/o.cls=.type "tuple")/\o.data=.seq c.toArray n/\c.length<=sizeLine/\Vals (J.map V.int) c:=by
  rcases g with g | g
  ·obtain⟨c,i,B,f⟩:=I.list g
   obtain⟨o,x,m,n,l⟩:=B.isList;exact⟨o,n,c,x,.inl m,l,by rw[<-i.length];exact f,i⟩
  ·obtain⟨c,i,B,f⟩:=I.tuple g
   obtain⟨o,x,m,n,l⟩:=B;exact⟨o,n,c,x,.inr m,l,by rw[<-i.length];exact f,i⟩
 obtain⟨o,n,c,x,m,l,f,M⟩:=obj;have C:=fS M;refine Srt.sorted_nums x m l f (λ v j=>C.all v j) λ d k L y G U e=>?_;have all:∀ v∈d,∃ k t,v=ur k t:=λ v j=>C.all v (y.mem_iff.mp j)
 have N:Vals ((d.map numOf).map V.int) d:=by
  clear e G y
  induction d with
  | nil=>exact .nil
  | cons u T ih =>
   obtain⟨k,t,rfl⟩:=all u (eP ..);exact .cons ⟨t,rfl⟩ (ih λ v j=>all v (du _ j))
 have O:(d.map numOf).Perm J:=by
  have:=y.map numOf;rwa[C.nums]at this
 refine⟨.ref (s.heap.objs.size+1),_,I.laid (t':=s.toks) U (Aq _) (show ObjOk X.prog X.w _ L _ (.lst ((d.map numOf).map V.int)) from⟨?_,_,k,N,e⟩),rfl,q _ _ (I.hok.fresh (Aq _)) O ?_⟩
 ·rw[aj,aj,y.length_eq]
  exact f
 ·refine me.mpr (G.imp λ{a b} A=>?_)
  have A:decide (numOf b<numOf a)=false:=A;have:=of_decide_eq_false A;omega
end
end L2
namespace Hsh
set_option autoImplicit false
open PySem PySem.Spec PyProof.Rows
def kIX:Nat->List Nat->Bool
 | 0,l=>l.length<=1
 | k+1,l=>match l with
  | []=>true
  | [_]=>true
  | l=>kIX k (l.filter λ n=>(n / 2 ^ k) % 2 == 0) && kIX k (l.filter λ n=>!((n / 2 ^ k) % 2 == 0))
def kQJ:∀(k:Nat)(l:List Nat),kIX k l=true->l.Nodup:=by
 intro k
 induction k with
 | zero =>
  intro l h
  match l,h with
  | [],_=>exact yx
  | [x],_=>exact gh.mpr ⟨by simp,yx⟩
  | _::_::_,h=>simp[kIX]at h
 | succ k ih =>
  intro l h
  match l,h with
  | [],_=>exact yx
  | [x],_=>exact gh.mpr ⟨by simp,yx⟩
  | a::b::l,h =>
   unfold kIX at h;rw[iI]at h;have h1:=ih _ h.1;have g:=ih _ h.2;generalize a::b::l=m at *
   have:∀ m:List Nat,(m.filter λ n=>(n / 2 ^ k) % 2 == 0).Nodup->(m.filter λ n=>!((n / 2 ^ k) % 2 == 0)).Nodup->m.Nodup:=λ m=>by
    induction m with
    | nil=>intro _ _;exact yx
    | cons x m ih =>
     intro d c
     have mem:x∉m:=λ f=>by
      cases e:(x / 2 ^ k) % 2 == 0 with
      | true =>
       rw[vy,if_pos e]at d;exact(gh.mp d).1 (ip.mpr ⟨f,e⟩)
      | false =>
       rw[vy,if_pos (by rw[e];rfl)]at c;exact(gh.mp c).1 (ip.mpr ⟨f,by rw[e];rfl⟩)
     refine gh.mpr ⟨mem,ih ?_ ?_⟩
     ·rw[vy]at d
      split at d
      ·exact(gh.mp d).2
      ·exact d
     ·rw[vy]at c
      split at c
      ·exact(gh.mp c).2
      ·exact c
   exact this m h1 g
def hp(p q:Nat):Nat:=(reduceHash (FM [hashInt (p:Int),hashInt (q:Int)])+2 ^ 63).toNat
def all:List Nat:=(cf 1764).map λ i=>hp (i / 42) (i % 42)
def kNR:kIX 64 all=true:=by decide +kernel
def hp_inj{p q c d:Nat}(h1:p<42)(h:q<42)(g:c<42)(f:d<42)(e:hp p q=hp c d):p=c/\q=d:=by
 have nd:=kQJ 64 all kNR
 have at':∀ p q:Nat,p<42->q<42->all[42*p+q]?=some (hp p q):=λ p q a b=>by
  unfold all;rw[bb,ua (by omega)];show some (hp ((42*p+q) / 42) ((42*p+q) % 42))=_;rw[show(42*p+q) / 42=p by omega,show(42*p+q) % 42=q by omega]
 have a:=at' p q h1 h;have b:=at' c d g f;rw[<-e]at b;have:=(yj (ak.mp a).1 nd).mp (a.trans b.symm);omega
end Hsh
namespace Dct
set_option autoImplicit false
open PySem PySem.Spec PyProof.Rows
section
variable {prog:eX} {w:iN} {A:fk} {E:au->az->Prop} {s:az} {κ:Type} [DecidableEq κ] {kd:KeyKind prog w κ}
def fold(xs ys:List (List κ×av×au)):List (List κ×av×au):=ys.foldl (λ a y=>storedH a y.1 y.2.1 y.2.2) xs
def fold_len(xs ys:List (List κ×av×au)):(fold xs ys).length<=xs.length+ys.length:=by
 induction ys generalizing xs with
 | nil=>exact bf _
 | cons y ys ih =>
  have:=ih (storedH xs y.1 y.2.1 y.2.2)
  have l:(storedH xs y.1 y.2.1 y.2.2).length<=xs.length+1:=by
   unfold storedH
   split<;>simp
  rw[iJ];unfold fold at *;rw[wg];omega
theorem kBI:∀(xs ys:List (List κ×av×au)),((xs++ys).map (·.1)).Nodup->fold xs ys=xs++ys
 | xs,[],_=>by rw[iq];rfl
 | xs,y::ys,h=>by
  have a:atKey xs y.1=none:=by
   refine EC λ j p e=>?_;rw[cu,eZ,cy]at h;exact h.2.2 y.1 (fe.mpr ⟨_,dh e,rfl⟩) y.1 (eP ..) rfl
  unfold fold;rw[wg,storedH_new a];have:=kBI (xs++[y]) ys (by simpa using h);unfold fold at this;rw[show(y.1,y.2.1,y.2.2)=y from rfl,this];simp
def pD(xs ys:List (List κ×av×au))(i:Nat)(y:List κ×av×au)(h:ys[i]?=some y):fold xs (ys.take (i+1))=storedH (fold xs (ys.take i)) y.1 y.2.1 y.2.2:=by
 unfold fold;rw[List.take_add_one,h,EA]
 rfl
def lD{d a:av}{xs:List (List κ×av×au)}{k:List κ}{v:au}{Q:Unit->az->Prop}(J:A.units<cLine)(D:(tupleKind kd).is s.heap k a)(G:s.heap.DictOfH (tupleKind kd) d xs)(hz:xs.length<=sizeLine)
  (q:∀ h',h'.DictOfH (tupleKind kd) d (storedH xs k a v)->iz d s.heap h'->Q () {s with heap:=h'}):dj (model prog w) A (dictSetHashed d (.ref a) ((tupleKind kd).hash k) v) Q E s:=by
 obtain⟨o,H,B,c,C,b,i,f,g⟩:=G;have sz:=Cp i;unfold dictSetHashed
 try with_reducible refine kr ?_
 refine ai (wpAny_dictFind_heap (knd:=tupleKind kd) J D c b i f g (λ r=>?_) λ j p u=>?_)
 ·have I:=not_mem_keys_of_get r
  have e:=storedH_new (EC r) a v;refine ai (xp (wpAny_updateDictKeys (hz:=by omega) c b (q _ ⟨_,_,B+1,qz _ c (BJ (yu b _)),C.mapDictKeys _,yu b _,?_,?_,?_⟩ (jv ..))))
  ·rw[e]
   simp[i,entryOfKey]
  ·rw[e]
   intro x h;rcases bz.mp h with z | z
   ·exact(tupleKind kd).keeps (f x z) c b (jv ..)
   ·rw[cg.mp z]
    exact(tupleKind kd).keeps D c b (jv ..)
  ·rw[e,cu,cy]
   refine⟨g,by simp,λ x h y n z=>I ?_⟩;have:y=k:=by simpa using n
   rw[<-this,<-z];exact h
 ·have e:=storedH_old (atKey_of_get g u) a v
  refine ai (xp (ai (wpAny_updateDict c b (wpAny_point (q _ ⟨_,_,B,qz _ c (BJ (EN b _)),C.mapDict _,EN b _,?_,?_,?_⟩ (jv ..))))))
  ·rw[e]
   have m:=modify_map_putAt (entryOfKey (tupleKind kd)) (λ z:CI=>{z with val:=v}) k v (λ _ _=>rfl) g u
   rw[<-i]at m;obtain⟨l⟩:=H;simpa using m
  ·rw[e]
   intro x h;obtain⟨y,n,rfl⟩:=fe.mp h;unfold putAt
   split<;>exact(tupleKind kd).keeps (f y n) c b (jv ..)
  ·rw[e,keys_map_putAt]
   exact g
def kHW{k:List κ}{a:av}{Q:Bool->az->Prop}(b:(tupleKind kd).is s.heap k a)(q:Q false s):dj (model prog w) A (DA (.ref a)) Q E s:=by
 unfold DA;have b:IsTupleKey kd s.heap k a:=b;refine ai (Ck b.typeIs F.slot_tuple_eq.lookup (bg ?_));exact q
def kBN{id:String}{d:av}{o:Obj}{a:Array CI}{ep:Nat}{xs:List (List κ×av×au)}{Q:Array CI->az->Prop}(B:s.heap.get? d=some o)(y:o.data=.dict a ep)(r:a.toList=xs.map (entryOfKey (tupleKind kd)))(n:∀ x∈xs,(tupleKind kd).is s.heap x.1 x.2.1)
  (u:(xs.map λ x=>(tupleKind kd).hash x.1).Nodup) (q:Q a s):dj (model prog w) A (BE id d) Q E s:=by
 have j:∀ e∈a,¬ (a.filter λ z=>z.hash == e.hash).size>1:=λ e f g=>by
  have:(a.toList.map λ z=>z.hash)=xs.map λ x=>(tupleKind kd).hash x.1:=by
   rw[r,sh]
   rfl
  rw[<-this]at u
  have l:(a.filter λ z=>z.hash == e.hash).size=((a.toList.map λ z=>z.hash).filter λ z=>z == e.hash).length:=by
   rw[<-iE,Array.toList_filter,List.filter_map,aj]
   rfl
  have c:=List.nodup_iff_count.mp u e.hash;rw[List.count_eq_length_filter]at c;omega
 unfold BE;refine ai (so B y (ai ?_));rw[<-Array.forIn_toList];refine Ah _ (λ rest _ m=>m=s/\∀ e∈rest,e∈a) _ ?_ ?_ _ _ ⟨rfl,λ e h=>va.mp h⟩
 ·rintro e rest b m ⟨rfl,p⟩
  have f:=p e (eP ..)
  obtain⟨x,i,rfl⟩ : ∃ x∈xs,e=entryOfKey (tupleKind kd) x:=by
   have:e∈xs.map (entryOfKey (tupleKind kd)):=r ▸ va.mpr f;obtain⟨x,i,z⟩:=fe.mp this;exact⟨x,i,z.symm⟩
  refine ai (kHW (n x i) ?_);simp only[Ew,if_true];rw[if_neg (j _ f)];exact bg ⟨rfl,λ z v=>p z (du _ v)⟩
 ·rintro b m ⟨rfl,_⟩
  exact bg q
def kIG{nm:String}{d o:av}{xs ys:List (List κ×av×au)}{Q:Unit->az->Prop}(hu:A.units<cLine)(L:d≠o)(T:(o == sysModules)=false)(hd:s.heap.DictOfH (tupleKind kd) d xs)(ho:s.heap.DictOfH (tupleKind kd) o ys)
  (hz:xs.length+ys.length<=sizeLine) (hh:xs=[]->(ys.map λ y=>(tupleKind kd).hash y.1).Nodup)
  (q:∀ h',h'.DictOfH (tupleKind kd) d (fold xs ys)->iz d s.heap h'->Q () {s with heap:=h'}):dj (model prog w) A (Cb nm d o) Q E s:=by
 obtain⟨od,Z,U,u,X,n,Y,a0,a1⟩:=id hd;obtain⟨O,a,a2,p,a3,c,C,r,S⟩:=id ho;have H:=Cp C;have N:=Cp Y;unfold Cb;rw[if_neg (by simpa using L)];unfold GJ;rw[if_neg (by rw[T];exact eC)]
 refine ai (bg (ai (so p c ?_)))
 have I:∃ h' i,s={s with heap:=h'}/\AJ 0 a.size=AJ i (a.size-i)/\i<=a.size/\h'.DictOfH (tupleKind kd) d (fold xs (ys.take i))/\h'.get? o=some O/\iz d s.heap h' :=
  ⟨s.heap,0,rfl,rfl,iH _,by rw[CM];exact hd,p,AO _ _⟩
 dsimp only
 split
 ·refine ai (so u n ?_)
  split
  ·rename_i hemp
   have z:xs=[]:=by
    have h0:Z = #[]:=ED.mp hemp;rw[h0]at N;exact pe.mp N.symm
   subst z;have ff:fold [] ys=ys:=kBI [] ys S;rw[ff]at q;refine ai (kBN p c C r (hh rfl) ?_)
   split
   ·refine ai (wpAny_updateDictKeysTo u n (bg (q _ ⟨_,_,U+1,qz _ u (BJ (yu n _)),X.mapDictKeys _,yu n _,C,λ x hx=>(tupleKind kd).keeps (r x hx) u n (jv ..),S⟩ (jv ..))) ?_)
    simp only[yo]at hz;omega
   ·rename_i hne
    have h0:a = #[]:=ED.mp (by simpa using hne)
    have z:ys=[]:=by
     rw[h0]at H;exact pe.mp H.symm
    subst z;exact bg (q _ hd (AO _ _))
  ·refine ai (BF p c (ai (so p c (ai ?_))))
   rw[sk];simp only[Ab,EE,Da,GY];refine Ah _ (λ rest _ M=>∃ h' i,M={s with heap:=h'}/\rest=AJ i (a.size-i)/\i<=a.size/\h'.DictOfH (tupleKind kd) d (fold xs (ys.take i))/\h'.get? o=some O/\iz d s.heap h') _ ?_ ?_ _ _ I
   ·rintro x rest b M ⟨h',i,rfl,m,hi,j,g,h⟩
    by_cases v:i<a.size
    ·rw[show a.size-i=(a.size-(i+1))+1 by omega,wx]at m
     injection m with h1 h2
     subst h1;refine ai (so g c ?_);have G:ys[x]?=some (ys[x]'(by omega)):=ae _;rw[entry_at C x,G];generalize ys[x]'(by omega)=y at G;have hk:(tupleKind kd).is h' y.1 y.2.1:=(tupleKind kd).keeps (r y (dh G)) u n h;have lz:=fold_len xs (ys.take x);have lt:(ys.take x).length<=ys.length:=by rw[dq];omega
     refine ai (kr (lD (s:={s with heap:=h'}) hu hk j (by omega) λ D B l=>?_))
     have f:D.get? o=some O:=(l.2 o (ub L)).trans g;refine ai (BF f c ?_);rw[if_neg (by simp)];exact bg ⟨D,x+1,rfl,h2,v,by rw[pD xs ys x y G];exact B,f,h.trans l⟩
    ·rw[show a.size-i=0 by omega]at m
     exact nomatch m
   ·rintro b M ⟨h',i,rfl,m,hi,j,g,h⟩
    have J:i=a.size:=by
     by_cases v:i<a.size
     ·rw[show a.size-i=(a.size-(i+1))+1 by omega,wx]at m
      exact nomatch m
     ·omega
    refine bg (q h' ?_ h);rw[J,H,iL]at j;exact j
 ·refine ai (BF p c (ai (so p c (ai ?_))))
  rw[sk];simp only[Ab,EE,Da,GY];refine Ah _ (λ rest _ M=>∃ h' i,M={s with heap:=h'}/\rest=AJ i (a.size-i)/\i<=a.size/\h'.DictOfH (tupleKind kd) d (fold xs (ys.take i))/\h'.get? o=some O/\iz d s.heap h') _ ?_ ?_ _ _ I
  ·rintro x rest b M ⟨h',i,rfl,m,hi,j,g,h⟩
   by_cases v:i<a.size
   ·rw[show a.size-i=(a.size-(i+1))+1 by omega,wx]at m
    injection m with h1 h2
    subst h1;refine ai (so g c ?_);have G:ys[x]?=some (ys[x]'(by omega)):=ae _;rw[entry_at C x,G];generalize ys[x]'(by omega)=y at G;have hk:(tupleKind kd).is h' y.1 y.2.1:=(tupleKind kd).keeps (r y (dh G)) u n h;have lz:=fold_len xs (ys.take x);have lt:(ys.take x).length<=ys.length:=by rw[dq];omega
    refine ai (kr (lD (s:={s with heap:=h'}) hu hk j (by omega) λ D B l=>?_))
    have f:D.get? o=some O:=(l.2 o (ub L)).trans g;refine ai (BF f c ?_);rw[if_neg (by simp)];exact bg ⟨D,x+1,rfl,h2,v,by rw[pD xs ys x y G];exact B,f,h.trans l⟩
   ·rw[show a.size-i=0 by omega]at m
    exact nomatch m
  ·rintro b M ⟨h',i,rfl,m,hi,j,g,h⟩
   have J:i=a.size:=by
    by_cases v:i<a.size
    ·rw[show a.size-i=(a.size-(i+1))+1 by omega,wx]at m
     exact nomatch m
    ·omega
   refine bg (q h' ?_ h);rw[J,H,iL]at j;exact j
end
def meets_upd{prog:eX}{w:iN}{j:Type}[DecidableEq j](kd:KeyKind prog w j)(d o:av)(c:d≠o)(b:(o == sysModules)=false) :
  MeetsIn prog w (AA.«dict.update» ⟨[.ref d,.ref o],[]⟩) (λ A R s=>A.in1.units<cLine/\∃ xs ys,s.heap.DictOfH (tupleKind kd) d xs/\s.heap.DictOfH (tupleKind kd) o ys/\xs.length+ys.length<=sizeLine/\(xs=[]->(ys.map λ y=>(tupleKind kd).hash y.1).Nodup) /\
   ∀ h',h'.DictOfH (tupleKind kd) d (fold xs ys)->iz d s.heap h'->R (.ok (.ret .none)) {s with heap:=h'}) :=
 .of_wp λ A R s ⟨m,xs,ys,i,a,l,n,h⟩=>by
  unfold AA.«dict.update»;refine ai ?_;unfold Fi;refine ai (wpAny_notOrdered_dict i.typeIs ?_);refine bg (show dj _ _ (CN "dict.update" d (.ref o) [] .none) _ _ s from ?_);unfold CN;refine ai (yw a.typeIs ?_);rw[if_neg (by decide)];refine ai ?_;unfold Gh;refine ai ?_;unfold FN;refine ai (CO a.typeIs isSubtype_dict_dict ?_);simp only[zq,eE,if_false];refine ai (Ck a.typeIs F.slot_dict_iter.lookup (bg ?_));simp only[beq_self_eq_true,if_true];refine ai (bg (kIG m c b i a l n λ h' g f=>?_));refine show dj _ _ (Fj d [] >>= _) _ _ _ from ?_;exact ai (bg (bg ⟨.none,rfl,h h' g f⟩))
end Dct
namespace L2
open PySem PySem.Spec PyProof.Rows
section
variable {X:Cx} {pins:List (av×Obj)} {σ:St} {H:Hp} {s:az} {a:av} {y v:V} {u r:au} {o:Option V} {A:fk} {E:au->az->Prop}
def kJA{H':Hp}{Q:Unit->az->Prop}(U:A.units<cLine)(I:Inv X pins σ H s)(g:DPut H a y v H')(D:RelV y u)(B:RelV v r)(h:∀ s',Inv X pins σ H' s'->Q () s') :
  dj (model X.prog X.w) A (dictSet a u r) Q E s:=by
 rcases g with⟨i,k,e,m,l,p⟩ | ⟨i,k,b,e,m,G,l,p⟩
 ·subst m p
  obtain⟨z,x,vs,d,o⟩:=kNG I.hok e;refine wpAny_dictSet_pairs (hsz:=by rw[<-d.length];exact z) (kBC D) o λ L f n=>h _ ?_;exact uU I (by rw[e];exact tm) n (let ⟨q,_,_,j,_⟩:=f;⟨q,j⟩) (kNH (by have:=xY i k v;omega) x (d.put k B) f)
 ·subst m p
  cases(show u=jx b from D)
  obtain⟨z,x,Y,d,o⟩:=kGE I.hok e;refine wpAny_dictSet_heap (hsz:=by rw[<-wd d];exact z) U (mD I.hok G) o λ L f n=>h _ ?_;obtain⟨q,M,O,j,N,J,S,_,T⟩:=f;refine uU I (by rw[e];exact tm) n ⟨q,j⟩ ⟨by have:=xY i k v;omega,x,_,(d.put k G B).keeps λ c Z C=>?_,q,M,O,j,N,J,S,T⟩;rw[kL (wP C e (λ z=>nomatch z))];exact C
end
def kVO(D:av)(tk c:TE):TB:=λ N a H=>tk a H λ y d=>c a d λ v f=>∃ b,DPut f D y v b/\N a b
def fP{X:Cx}{c d:iW}{tk f:TE}{D:av}(O:X.A.units+1<cLine)(B:PE X c tk)(r:PE X d f):PBd X (pG c d X.env (.ref D)) (kVO D tk f):=by
 intro a s b H N I h;unfold pG;refine ai (thn (B a s b H _ I h) λ G q ⟨y,j,o,m,n⟩=>?_);refine ai (kr (thn (r a q b j _ o n) λ M J ⟨x,L,v,p,u,g,l⟩=>?_));exact ai (ya (kr (kJA (by omega) v g m p λ C i=>⟨b,u,i,l⟩)))
section
variable {X:Cx} {tg iter kx vx:iW} {ifs:List iW} {sc:wq} {pos:Pos} {Nc:List Str} {js:List (Option Nat)} {wi:TI}
def kWE(js:List (Option Nat))(c:TI)(g:TG)(bd:av->TB):TE:=λ b H Q=>c b H λ J a=>∀ D,a D=none->zT J g (bd D) (λ _ d=>Q (.ref D) d) (dD js b) (upd a D (.dT []))
def kPA{g:TG}{bd:av->TB}(hx:X.xe=λ _ _=>False)(hc:X.calm=true)(hi:PI X tg iter wi)(S:CS sc X.env.scope)(a1:cD js Nc X.N sc.names=true)
  (hg:∀ C s₂ H₂ fp pins,PG (cxC X Nc sc C s₂ H₂ fp pins) tg g)
  (l:∀ C s₂ H₂ fp pins D L,PTl (cxC X Nc sc C s₂ H₂ fp pins) (yE ifs (cxC X Nc sc C s₂ H₂ fp pins).env (pG kx vx (cxC X Nc sc C s₂ H₂ fp pins).env (.ref D)) L) L (bd D))
  (hs:∀ x,foldedSetIterable iter X.env x=pure x:=by intro _;rfl) :
  PE X (.DictComp kx vx [⟨tg,iter,ifs,0⟩] sc pos) (kWE js wi g bd):=by
 intro pins s σ H Q I h;rw[Dv];have a3:closureFor sc X.env=pure (uW sc X.env):=yR λ y hy hf=>I.ok.has y.1 (.inl (S.free y hy hf));refine ox (use:=none) rfl hs a3 S.kind S.names (thn (hi pins s σ H _ I h) λ v s1 h1=>thn h1 λ a6 d h2=>?_);obtain⟨it,fp,tn,J,U,e,Y,T,Z,f2,hw⟩:=h2;subst e;have n:∀ b∈fp,b<d.heap.objs.size:=λ b l=>let ⟨o,ho,_⟩:=T.obj _ _ Z b l;cj ho;refine iO (sj S.nocell (by intro y hy;simp at hy) (λ i f a=>?_) S.kind);dsimp only at f a ⊢;generalize r:d.heap.push {cls:=.type "dict",dict:=none,data:=.dict #[]}=G at f a ⊢;have a4:G.objs.size=d.heap.objs.size+1:=by rw[<-r,ir]
 have B:d.heap.objs.size≠G.objs.size:=by omega
 have j:d.heap.objs.size<=G.objs.size:=by omega
 have u:∀ b o,d.heap.get? b=some o->i.get? b=some o:=λ b o e=>a.extBut b o (dw (cv (cj e) j)) (ar _ (r ▸ ar _ e));have M:i.get? d.heap.objs.size=some {cls:=.type "dict",dict:=none,data:=.dict #[]}:=a.extBut _ _ B (ar _ (r ▸ ck _ rfl))
 have new:ObjOk X.prog X.w (upd U d.heap.objs.size (.dT [])) i d.heap.objs.size (.dT []):=by
  exact⟨iH _,beq_eq_false_iff_ne.mpr (ub (dw Y.big)),[],.nil,_,_,_,M,⟨rfl,rfl,rfl⟩,rfl,rfl,yx⟩
 have I4:=wR (js:=js) (Nc:=Nc) (tk:=d.toks+([]:List (Str×au)).length) Y S f2 n a1 j (bf _) B u f new;have hn:U d.heap.objs.size=none:=Y.fresh
 have f4:∀ b∈fp,zG (cxC X Nc sc G.objs.size d U fp pins) [] (upd U d.heap.objs.size (.dT [])) b:=λ b l=>by
  obtain⟨h0,h1,h2,h3,h4,h5⟩:=f2 b l;refine⟨?_,dw (cv (n b l) j),λ z=>?_,.inl l,λ x c z=>?_,λ p hp=>?_⟩
  ·rw[kL (dw (n b l))];exact h0
  ·rcases eA.mp (Y.stkSub b z) with q | q
   ·exact h1 q
   ·exact h2 q
  ·exact h4 x c (cC sc.names [] (λ z=>nomatch z) z)
  ·rcases bz.mp hp with z | z
   ·exact h5 p z
   ·exact absurd z (by simp)
 have O:tn 0 i:=T.keep _ _ _ Z λ b l o e=>u b o e
 have m:codeAny (model X.prog X.w) X.A (.compLoop (.DictComp kx vx [⟨tg,iter,ifs,0⟩] sc pos) 0 (.ref it) (.ref d.heap.objs.size) (compEnvC sc (uW sc X.env) G.objs.size X.env))
   (compPost (model X.prog X.w) X.A X.xe none (EP X pins σ Q) (.ref d.heap.objs.size) G.objs.size) {d with heap:=i,toks:=d.toks+([]:List (Str×au)).length}:=by
  refine yQ (X:=cxC X Nc sc G.objs.size d U fp pins) (.inr ⟨kx,vx,rfl⟩) hx hc (pR _ _ _ _ _ _ _ _ _ _) T (hg _ _ _ _ _) (l _ _ _ _ _ _ _) I4 O f4 (hw _ hn) λ a5 H' s' I' q=>?_;obtain⟨m',a2,_⟩:=I'.loc;exact⟨m',a2,λ h' a0=>⟨.ref d.heap.objs.size,H',wS Y f2 j I' a0,rfl,q⟩⟩
 exact xX (.inr ⟨kx,vx,rfl⟩) rfl rfl m (T.self _ _ _ _ _ O m)
def yK(kvs more:List (List Key×V)):List (List Key×V):=more.foldl (λ a y=>xC a y.1 y.2) kvs
theorem KT.fold{H:Hp}:∀{more:List (List Key×V)}{ys:List (List Key×av×au)}{kvs:List (List Key×V)}{xs:List (List Key×av×au)},KT H kvs xs->KT H more ys->KT H (yK kvs more) (Dct.fold xs ys)
 | [],_,_,_,r,.nil=>r
 | p::more,_,kvs,xs,r,.cons (b:=q) z t=>by
  have:=KT.fold (KT.put r q.1 (b:=q.2.1) (y:=p.2) (u:=q.2.2) (by rw[<-z.1];exact z.2.1) z.2.2) t;rw[<-z.1]at this;unfold yK at *;unfold Dct.fold at *;rw[wg,wg,<-z.1];exact this
def kNU(k:List Key):Prop:=∃ p q:Nat,k=[gw (p:Int),gw (q:Int)]/\p<42/\q<42
def kQB{prog:eX}{w:iN}:∀{ys:List (List Key×av×au)},(∀ y∈ys,kNU y.1)->(ys.map (·.1)).Nodup->(ys.map λ y=>(tupleKind (qH prog w)).hash y.1).Nodup:=by
 intro ys hp nd;have:ys.map (λ y=>(tupleKind (qH prog w)).hash y.1)=(ys.map (·.1)).map (tupleKind (qH prog w)).hash:=by rw[sh];rfl
 rw[this];refine me.mpr (nd.imp_of_mem λ{a b} i n c e=>c ?_);obtain⟨x,f,rfl⟩:=fe.mp i;obtain⟨y,o,rfl⟩:=fe.mp n;obtain⟨p,q,g,p1,j⟩:=hp x f;obtain⟨d,m,l,p2,h⟩:=hp y o;rw[g,l]at e ⊢
 have:Hsh.hp p q=Hsh.hp d m:=by
  unfold Hsh.hp;exact congrArg (λ z:Int=>(z+2 ^ 63).toNat) e
 obtain⟨rfl,rfl⟩:=Hsh.hp_inj p1 j p2 h this
 rfl
inductive kQY(x:V)(vs:List V)(H:Hp)(Q:VK):Prop
 | mk:∀(a b:av)(kvs more:List (List Key×V)),(x=.ref a)->(vs=[.ref b])->(a≠b)->(H a=some (.dT kvs))->(H b=some (.dT more))->((∀ y∈more,kNU y.1))->(kvs.length+more.length<=sizeLine)->(Q .non (upd H a (.dT (yK kvs more))))->kQY x vs H Q
def kPK(hu:X.A.units+1<cLine):MtM X "dict.update" kQY:=by
 intro T s σ H x vs v us Q I rx Y h;obtain⟨a,b,C,more,rfl,rfl,Z,p,hb,hp,hz,q⟩:=h;cases rx
 obtain⟨u,rfl,ru⟩:=Y.one;cases ru
 obtain⟨za,B,L,D,S⟩:=kGE I.hok p;obtain⟨zb,j,g,f,N⟩:=kGE I.hok hb
 have i:∀ y∈g,kNU y.1:=by
  have:∀{l:List (List Key×V)}{m:List (List Key×av×au)},KT H l m->(∀ y∈l,kNU y.1)->∀ y∈m,kNU y.1:=by
   intro l m r
   induction r with
   | nil=>intro _ y d;exact nomatch d
   | @cons p1 q1 ps qs z t ih =>
    intro M y d;rcases eA.mp d with rfl | d
    ·rw[<-z.1]
     exact M _ (eP ..)
    ·exact ih (λ y h=>M y (du _ h)) y d
  exact this f hp
 have nd:(g.map (·.1)).Nodup:=let ⟨_,_,_,_,_,_,_,_,n⟩:=N;n;have lx:=wd D;have ly:=wd f;refine call_meetsIn CB S.typeIs PySem.F.entry_dict_update (PySem.F.args_dict_update_2 _ _) (Dct.meets_upd (qH X.prog X.w) a b Z j) ⟨AE (knd:=qH X.prog X.w) hu,L,g,S,N,by omega,λ _=>kQB i nd,λ h' o hs=>?_⟩;obtain⟨G,es,ep,J,h2,U,h4,_,h5⟩:=o;have lf:=wd (KT.fold D f);have lz:=Dct.fold_len L g;refine⟨.non,upd H a (.dT (yK C more)),uU (t':=s.toks) I (by rw[p];exact tm) hs ⟨G,J⟩ ⟨by omega,B,_,(KT.fold D f).keeps λ c zs O=>?_,G,es,ep,J,h2,U,h4,h5⟩,rfl,q⟩;rw[kL (wP O p (λ z=>nomatch z))];exact O
end
section
variable {X:Cx}
end
section
variable {prog:eX} {w:iN} {A:fk} {E:au->az->Prop} {s:az} {z TI TO i1 i2:av} {fp1 fp2:List av} {n1 n2 j:Nat} {P1 P2:Nat->au->Prop} {S1 S2:Nat->iV->Prop} {a b:au}
def kGW{Q:ux->az->Prop}(O:EU prog w A i1 fp1 n1 P1 S1)(G:EU prog w A i2 fp2 n2 P2 S2)(d:ZAp z TI TO i1 i2 fp1 fp2)
  (hz:xh s.heap z TI TO .none) (v:yd s.heap TI (.ref i1) (.ref i2)) (C:yd s.heap TO a b) (h1:S1 n2 s.heap) (h2:S2 n2 s.heap) (l1:n2<n1)
  (X:∀ h' e tk,(∀ c o,c≠z->c≠TO->c≠i1->c≠i2->s.heap.get? c=some o->h'.get? c=some o)->(∃ o,h'.get? e=some o/\o.cls=.type "StopIteration")->E (.ref e) {s with heap:=h',toks:=tk}) :
  dj (model prog w) A (AA.«zip.__next__» ⟨[.ref z],[]⟩) Q E s:=by
 have y:∀{i:Nat}{h h':iV}{c:av},S1 i h->iz c h h'->c∉fp1->S1 i h':=λ st u B=>O.frame _ _ _ st λ b r o e=>u.extBut b o (λ q=>B (q ▸ r)) e;have g:∀{i:Nat}{h h':iV}{c:av},S2 i h->iz c h h'->c∉fp2->S2 i h':=λ st u B=>G.frame _ _ _ st λ b r o e=>u.extBut b o (λ q=>B (q ▸ r)) e;show dj _ _ (field (.ref z) 2 >>= _) _ _ _;refine ai (iQ hz rfl (x:=.bool false) rfl ?_);show dj _ _ (field (.ref z) 3 >>= _) _ _ _;refine ai (iQ hz rfl (x:=.ref TI) rfl ?_);refine ai (jz v rfl ?_);show dj _ _ (iA (.ref z) >>= _) _ _ _;refine ai ?_;unfold iA;refine ai (iQ hz rfl (x:=.none) rfl (bg ?_));simp only[if_true];refine ai (xp ?_);refine ai (iQ hz rfl (x:=.ref TO) rfl ?_);refine ai (km hz (by simp) λ g1 n m=>?_)
 replace n:xh g1 z TI TO .ellipsis:=n
 refine ai ?_
 simp only[yy,BC,zy,BX]
 refine ai (ai (wj ?_));show dj _ _ (gv (.ref i1) >>= _) _ _ _;refine ai (O.item n2 _ _ _ l1 (y h1 m d.z1) λ x g2 Z px a0 l=>bg ?_);have I:yd g2 TO a b:=l.extBut _ _ d.TOi1 (m.extBut _ _ d.zTO.symm C);refine ai (jz I rfl ?_);refine ai (As I λ D L p=>?_)
 replace L:yd D TO x b:=L
 refine ai (Au (bg ?_));refine ai (ai (wj ?_));show dj _ _ (gv (.ref i2) >>= _) _ _ _;refine ai (G.done _ _ _ (g (g (g h2 m d.z2) l d.i1f) p d.t2) λ g4 e N he=>?_);obtain⟨oe,f,j⟩:=he;have z3:xh D z TI TO .ellipsis:=p.extBut _ _ d.zTO (l.extBut _ _ d.zi1 n);have J:xh g4 z TI TO .ellipsis:=N _ _ d.zi2 z3;have S:e≠z:=λ q=>by subst q;rw[J]at f;cases f;simp at j
 exact km J (by simp) λ T _ H=>X T e _ (λ c o M Y c3 U q=>H.extBut _ _ M (N _ _ U (p.extBut _ _ Y (l.extBut _ _ c3 (m.extBut _ _ M q))))) ⟨oe,H.extBut _ _ S f,j⟩
end
def kUA(f g : Bool)(K : be)(a b : av) : It :=
  ⟨λ i H => ∃ c d x y, SqX K f H a c /\ SqX K g H b d /\ c[i]? = some x /\ d[i]? = some y,
   λ i H v h => ∃ T x y, H T = none /\ v = .ref T /\ (∀ c, SqX K f H a c -> c[i]? = some x) /\ (∀ d, SqX K g H b d -> d[i]? = some y) /\ h = upd H T (.tup [x, y]),
   λ i H => ∃ c d x, SqX K f H a c /\ SqX K g H b d /\ c[i]? = some x /\ d.length = i⟩
def kHE{P:eX}{w:iN}{K:be}{S:List iW} {x1} {a5:Pos} (k1 k2:Bool) (a b z TI TO p r:av) (C:ZAp z TI TO p r [p,a] [r,b]) :
  Turn P w K (.Tuple S x1 a5) (kUA k1 k2 K a b) [z,TO,p,r,TI] z
   (λ i h=>xh h z TI TO .none/\yd h TI (.ref p) (.ref r)/\(∃ u v,yd h TO u v)/\ItOf k1 h p a i/\ItOf k2 h r b i) where
 mem:=by simp
 obj:=λ i h st c M=>by
  obtain⟨B,l,⟨u,v,m⟩,h1,D⟩:=st;simp only[eA,ml,or_false]at M;rcases M with rfl | rfl | rfl | rfl | rfl
  ·exact⟨_,B,λ v q=>by cases q⟩
  ·exact⟨_,m,λ v q=>by cases q⟩
  ·exact h1.live
  ·exact D.live
  ·exact⟨_,l,λ v q=>by cases q⟩
 keep:=λ i h h' st Q=>by
  obtain⟨B,l,⟨u,v,m⟩,h1,D⟩:=st;exact⟨Q z (by simp) _ B,Q TI (by simp) _ l,⟨u,v,Q TO (by simp) _ m⟩,h1.at λ o q=>Q p (by simp) o q,D.at λ o q=>Q r (by simp) o q⟩
 item:=by
  intro X hP hw hK M i Y s σ H E I hf st hg;subst hP hw hK;obtain⟨B,l,⟨u0,v0,m⟩,h1,D⟩:=st;obtain⟨xs,ys,x,y,G,J,hx,hy⟩:=hg;obtain⟨f,N,p1⟩:=I.sq G;obtain⟨j,O,p2⟩:=I.sq J;obtain⟨u,hu,ru⟩:=N.get hx;obtain⟨v,hv,rv⟩:=O.get hy;have D1:=xU (prog:=X.prog) (w:=X.w) (A:=X.A.in1) (I.ok.hd M) k1 p a (uY p1 h1) f.toArray;have D2:=xU (prog:=X.prog) (w:=X.w) (A:=X.A.in1) (I.ok.hd M) k2 r b (uY p2 D) j.toArray;have L:i<f.toArray.size:=by simpa using(ak.mp hu).1
  have Z:i<j.toArray.size:=by simpa using(ak.mp hv).1
  have hT:s.TypeIs (.ref z) "zip":=⟨_,B,rfl⟩;unfold pyNext
  refine ai (zr (jc (name:=ve "__next__") hT tw (ky tw hT Ak
   (kGV D1 D2 C B l m ⟨h1,p1⟩ ⟨D,p2⟩ L Z λ u' v' h' tk aa a8 z' o' a1 a6 t' hk=>bg ?_) (AX _))))
  have eu:u'=u:=by
   have q:f[i]?=some u':=by simpa using aa
   rw[hu]at q;exact(bh q).symm
  have ev:v'=v:=by
   have q:j[i]?=some v':=by simpa using a8
   rw[hv]at q;exact(bh q).symm
  subst eu ev;refine⟨_,rfl,Bm z' λ g a3 n=>?_⟩;have a2:z<s.heap.objs.size:=cj B;have ab:TO<s.heap.objs.size:=cj m;have ac:p<s.heap.objs.size:=let ⟨_,e,_⟩:=h1.live;cj e;have af:r<s.heap.objs.size:=let ⟨_,e,_⟩:=D.live;cj e;have U:TI<s.heap.objs.size:=cj l;have a9:g.get? s.heap.objs.size=some {cls:=.type "tuple",data:=.seq #[u',v']}:=n.extBut _ _ (ja a2) t'
  obtain⟨I2,n2⟩:=I.handed (t':=tk) (ch:=[z,TO,p,r]) ru rv a9 (λ c o d q=>n.extBut c o (λ e=>d (by simp[e])) (hk c o (λ e=>d (by simp[e])) (λ e=>d (by simp[e])) (λ e=>d (by simp[e])) (λ e=>d (by simp[e])) q))
   (λ c d=>hf c (by simp at d ⊢;rcases d with e | e | e | e<;>simp[e]))
   (λ c d=>by simp at d;rcases d with rfl | rfl | rfl | rfl<;>assumption)
  refine⟨.ref s.heap.objs.size,_,I2,rfl,⟨_,x,y,I.hok.fresh (bf _),rfl,(λ ag a0=>by rw[I.sq_inj a0 G];exact hx),(λ ah a4=>by rw[I.sq_inj a4 J];exact hy),rfl⟩,?_,λ c d=>?_⟩
  ·exact⟨a3,n.extBut _ _ C.zTI.symm (hk _ _ C.zTI.symm C.TITO C.TIi1 C.TIi2 l),⟨_,_,n.extBut _ _ C.zTO.symm o'⟩,a1.1.at λ o q=>n.extBut p o C.zi1.symm q,a6.1.at λ o q=>n.extBut r o C.zi2.symm q⟩
  ·by_cases e:c=TI
   ·subst e
    rw[kL (dw U)];exact(hf c (by simp)).1
   ·exact n2 c (by simp at d ⊢;rcases d with q | q | q | q | q<;>simp_all)
 done:=by
  intro X hP hw hK M i Y s σ H E I hf st hg;subst hP hw hK;obtain⟨B,l,⟨u0,v0,m⟩,h1,D⟩:=st;obtain⟨xs,ys,x,G,J,hx,hy⟩:=hg;obtain⟨f,N,p1⟩:=I.sq G;obtain⟨j,O,p2⟩:=I.sq J;obtain⟨u,hu,ru⟩:=N.get hx;have D1:=xU (prog:=X.prog) (w:=X.w) (A:=X.A.in1) (I.ok.hd M) k1 p a (uY p1 h1) f.toArray;have D2:=xU (prog:=X.prog) (w:=X.w) (A:=X.A.in1) (I.ok.hd M) k2 r b (uY p2 D) j.toArray;have hl:j.toArray.size=i:=by rw[<-hy,O.length];simp
  have L:i<f.toArray.size:=by simpa using(ak.mp hu).1
  have hT:s.TypeIs (.ref z) "zip":=⟨_,B,rfl⟩;unfold pyNext
  refine ai (zr (jc (name:=ve "__next__") hT tw (ky tw hT Ak
   (kGW D1 D2 C B l m ⟨hl ▸ h1,p1⟩ ⟨hl ▸ D,p2⟩ (by omega) λ h' e tk hk he=>?_) (AX _))))
  obtain⟨o,ho,a7⟩:=he;refine ai (CO (T:="StopIteration") (b:=true) ⟨o,ho,a7⟩ Ez ?_)
  refine bg ⟨rfl,I.turnedL (t':=tk) (ch:=[z,TO,p,r]) (λ c o d q=>hk c o (λ e=>d (by simp[e])) (λ e=>d (by simp[e])) (λ e=>d (by simp[e])) (λ e=>d (by simp[e])) q)
   (λ c d=>hf c (by simp at d ⊢;rcases d with e | e | e | e<;>simp[e]))⟩
 self:=λ _ _ _ _ _ st h=>Al st.1 h
section
variable {X:Cx}
inductive kML(k1:Bool)(k2:Bool)(K:be)(R:It->Hp->Prop)(vs:List V)(H1:Hp):Prop
 | mk:∀ a b,(vs=[.ref a,.ref b])->((∃ xs,SqX K k1 H1 a xs))->((∃ ys,SqX K k2 H1 b ys))->(R (kUA k1 k2 K a b) H1)->kML k1 k2 K R vs H1
def kVE(c g:Bool)(K:be)(d:TA):TI:=λ b H R=>d b H λ f a=>kML c g K R f a
def kOY(J Q:Bool){a b:iW}{O:TA}{p i j:Pos}{o:List iW} {x1} (hg:Gl X "zip") (T:X.mg "zip" = none) (ha:PA X [a,b] O) (hs:starEach [a,b] X.env=[(false,eval a X.env),(false,eval b X.env)]:=by rfl) (l:starEach [b] X.env=[(false,eval b X.env)]:=by rfl) :
  PI X (.Tuple o x1 j) (.Call (.Name "zip" p) [a,b] [] i) (kVE J Q X.K O):=by
 intro d s σ H R I h;refine Fv (wH I hg T boot_zip (iu (thn (ha i d s σ H _ I h) λ us g ⟨vs,G,m,U,Z⟩=>?_) (by rw[hs,l]) (by rw[l];rfl)));obtain⟨l1,l2,rfl,⟨xs,x⟩,⟨ys,B⟩,q⟩:=Z;obtain⟨u,v,rfl,r,Y⟩:=kEF U;cases r
 cases Y
 obtain⟨L,a0,p1⟩:=m.sq x;obtain⟨M,a1,p2⟩:=m.sq B;have y:=p1.lt;have C:=p2.lt;refine kBW p1 p2 λ S N A D h1 h2 hk=>?_;refine Al (s:={g with heap:=S}) N ?_
 have f:∀ c,g.heap.objs.size<=c->zG X d G c:=λ c n=>m.fpOk n (m.hok.fresh n)
 refine⟨_,[g.heap.objs.size+4,g.heap.objs.size+3,g.heap.objs.size,g.heap.objs.size+1,g.heap.objs.size+2],_,_,G,rfl,m.kept (t':=g.toks) hk,
  kHE J Q l1 l2 _ _ _ _ _ (zap _ _ _ y C),⟨N,A,⟨_,_,D⟩,h1,h2⟩,λ c n=>?_,q⟩
 simp at n;rcases n with rfl | rfl | rfl | rfl | rfl<;>exact f _ (by omega)
end
end L2
namespace HT
open PySem PySem.Spec PyProof.Rows
section
variable {prog:eX} {w:iN} {A:fk} {E:au->az->Prop} {s:az}
def cat_tup0{t b:av}{l:List au}{Q:au->az->Prop}(r:ES s.heap t ([]:List au).toArray)(u:ES s.heap b l.toArray)(h:Q (.ref b) s):dj (model prog w) A (binaryOp .Add (.ref t) (.ref b)) Q E s:=by
 obtain⟨⟨cls,q,data,v⟩,o,j,n,i⟩:=id r;obtain⟨⟨m,g,data2,f⟩,d,c,p,a⟩:=id u;simp only at j i c a;subst j i c a
 exact Dj ⟨_,o,rfl⟩ ⟨_,d,rfl⟩ CH DL AM AI (zk _ _)
   (tuple_addW0 t b _ l.toArray n p q g v f (by simp)) ⟨o,d,h⟩
theorem kMX{α:Type}:∀ ys:List α,(cf ys.length).filterMap (λ(k:Nat)=>ys[k]?)=ys
 | []=>rfl
 | y::ys=>by
  rw[iJ,List.range_succ_eq_map,ym];show y::((cf ys.length).map Nat.succ).filterMap (λ(k:Nat)=>(y::ys)[k]?)=y::ys;rw[DV];exact congrArg (y::·) (kMX ys)
theorem kBJ{α β:Type}{f g:α->Option β}:∀ l:List α,(∀ x∈l,f x=g x)->l.filterMap f=l.filterMap g
 | [],_=>rfl
 | x::l,h=>by rw[ym,ym,h x (by simp),kBJ l λ y a=>h y (by simp[a])]
def kLB{α:Type}(xs:List α):(cf xs.length).filterMap (λ(k:Nat)=>xs[(((xs.length:Int)-1)+(k:Int)*(-1)).toNat]?)=xs.reverse:=by
 have h:=kMX xs.reverse;rw[wz]at h;rw[<-h];refine kBJ _ λ k a=>?_;have a:=iP.mp a;rw[Cu a]
 congr 1
 omega
def getItem_revN{t i:av}{a:List au}{tk:Tok}{Q:au->az->Prop}(g:ES s.heap t a.toArray)(q:s.heap.IsSliceOf i .none .none (.int (-1) tk))(hz:a.length<=sizeLine)
  (h:Q (.ref s.heap.objs.size) {s with heap:=s.heap.push {cls:=.type "tuple",data:=.seq a.reverse.toArray}}):dj (model prog w) A (getItem (.ref t) (.ref i)) Q E s:=by
 obtain⟨os,b,l,f⟩:=id q;have j:s.TypeIs (.ref i) "slice":=⟨os,b,l⟩;unfold getItem
 try (with_reducible refine kr ?_)
 first | (refine ai (bg ?_)) | skip
 refine ai (Bs g.typeIs (by decide) (ai (jc (name:=ve "__getitem__") g.typeIs iD (ky iD g.typeIs BH ?_ (BW _ _)))));show dj _ _ (yn (.ref t) >>= λ _=>_) _ _ s;refine ai (DM g (ai (yw j ?_)));rw[if_pos (by decide)]
 have o:ki ((a.length:Int)-1) (-1) (-1)=a.length:=by
  unfold ki;rw[if_neg (by decide)];by_cases c:(a.length:Int)-1 > -1
  ·rw[if_pos c]
   simp only[Int.neg_neg,GB];omega
  ·rw[if_neg c]
   omega
 have p:∀{R:Int×Int×Nat->az->Prop},R ((a.length:Int)-1,-1,a.length) s->dj (model prog w) A.in1 (ug (.ref i) (pure ((a.toArray.size:Nat):Int))) R E s:=λ{R} n=>by
  unfold ug Bl;refine ai (ai (iQ b f (x:=.none) rfl (ai (iQ b f (x:=.none) rfl (ai (iQ b f (x:=.int (-1) tk) rfl (bg ?_)))))));refine ai (slicePart_int ?_);show dj _ _ (if(((-1:Int)) == 0)=true then _ else _) _ _ s;rw[if_neg (by decide)];refine ai (BV (ai (BV (ai (bg ?_)))));refine bg ?_;show R ((((a.toArray.size:Nat):Int)-1),-1,ki (((a.toArray.size:Nat):Int)-1) (-1) (-1)) s;rw[eY,o];exact n
 refine ai (p ?_);have d:sizeOk (.seq a.reverse.toArray):=by show a.reverse.toArray.size<=sizeLine;simpa using hz
 have key:((cf a.length).filterMap λ(k:Nat)=>a.toArray[(((a.length:Int)-1)+(k:Int)*(-1)).toNat]?).toArray=a.reverse.toArray:=by
  have:=kLB a;simp only[List.getElem?_toArray];rw[this]
 show dj _ _ (if((((a.length:Int)-1) == 0 && (-1:Int) == 1 && a.length == a.toArray.size)=true) then _ else _) _ _ s;rw[if_neg (by simp)]
 first
  | (rw[key];exact ai (m:=ji _) (iO (bg ⟨_,rfl,bg h⟩) d))
  | (rw[key];exact ai (m:=ji _) (iO (ai (bg (bg ⟨_,rfl,bg h⟩))) d))
  | (rw[key];exact ai (ai (m:=ji _) (iO (bg (bg ⟨_,rfl,bg h⟩)) d)))
  | (rw[key];exact ai (ai (m:=ji _) (iO (bg ⟨_,rfl,bg h⟩) d)))
  | skip
end
end HT
namespace L2
open PySem PySem.Spec PyProof.Rows
def kUB(H H':Hp):Prop:=∀ b o,H b=some o->H' b=some o
section
variable {X:Cx}
def kBF{H:Hp}{p:av}(h:H p=none)(o:HO):kUB H (upd H p o):=λ b u q=>by rw[kL (kP q h)];exact q
inductive kUQ(K:be)(x:V)(lo:Option Int)(hi:Option Int)(H:Hp)(Q:VK):Prop
 | mk:∀ a xs,(x=.ref a)->(H a=some (.tup xs))->(∀ p H',kUB H H'->H' p=some (.tup (yD xs lo hi))->Q (.ref p) H')->kUQ K x lo hi H Q
def zU:SlR X (kUQ X.K):=by
 intro d s o H x v j r lo g u Q I m l n i h;obtain⟨a,b,rfl,f,q⟩:=h;refine kOH d s o H _ v j r lo g u Q I m l n i ?_;by_cases c:HT.sIx b.length 0 lo=0/\HT.sIx b.length b.length g=b.length
 ·refine .inr ⟨a,b,rfl,SqT.of f,c,q a H (λ _ _ e=>e) ?_⟩
  rw[f];unfold yD;rw[c.1,c.2];simp
 ·exact .inl ⟨a,b,rfl,SqT.of f,c,λ p y=>q p _ (kBF y _) kA⟩
inductive kRA(K:be)(x:V)(y:V)(H:Hp)(Q:VK):Prop
 | mk:∀ a b xs ys,(x=.ref a)->(y=.ref b)->(H a=some (.tup xs))->(H b=some (.tup ys))->(xs.length+ys.length<=sizeLine)->(∀ p H',kUB H H'->H' p=some (.tup (xs++ys))->Q (.ref p) H')->kRA K x y H Q
def fQ:OpR X (binaryOp .Add) (kRA X.K):=by
 intro d s A H x y v u Q I l m h;obtain⟨a,b,i,C,rfl,rfl,g,f,r,q⟩:=h;by_cases c:i=[]
 ·subst c
  cases l
  cases m
  obtain⟨o,n,p1,_⟩:=I.tuple (SqT.of (K:=X.K) g);obtain⟨j,D,p2,_⟩:=I.tuple (SqT.of (K:=X.K) f);cases n
  exact HT.cat_tup0 p1 p2 ⟨.ref b,H,I,rfl,q b H (λ _ _ e=>e) (by simpa using f)⟩
 ·refine kPF d s A H _ _ v u Q I l m ⟨a,b,i,C,rfl,rfl,SqT.of g,SqT.of f,c,r,λ e=>q a H (λ _ _ z=>z) (by rw[e,iq];exact g),λ _ p B=>q p _ (kBF B _) kA⟩
inductive kJU(Q:VK)(x:V)(o:Option Int)(H2:Hp):Prop
 | mk:∀ a xs,(x=.ref a)->(o=some (-1))->(H2 a=some (.tup xs))->(∀ p,H2 p=none->Q (.ref p) (upd H2 p (.tup xs.reverse)))->kJU Q x o H2
def kQQ(K:be)(b:TE)(ts:TO):TE:=λ a H Q=>b a H λ x c=>ts a c λ o d=>kJU Q x o d
def kOZ{e st:iW}{n:TE}{ts:TO}{p2 j:Pos}(T:PE X e n)(L:PO X (some st) ts):PE X (.Subscript e (.Slice none none (some st) p2) j) (kQQ X.K n ts):=by
 intro c s f H Q I h;refine DW (thn (T c s f H _ I h) λ v N ⟨x,u,J,C,G⟩=>?_);refine wpAny_Slice ?_;rw[DN];refine bg ?_;refine bg (thn (L c N f u _ J G) λ Y d ⟨o,O,p,y,B⟩=>?_);obtain⟨a,D,rfl,rfl,M,q⟩:=B;cases C
 cases y with
 | int i tk =>
  have g:Inv X c f O {d with heap:=d.heap.push {cls:=.type "slice",data:=.fields #[.none,.none,.int (-1) tk]}}:=p.kept (t':=d.toks) λ b S q=>ar _ q
  obtain⟨l,r,m,Z⟩:=g.tuple (SqT.of (K:=X.K) M);have U:=r.length;show dj (model X.prog X.w) X.A (subscriptTail e (.Slice none none (some st) p2) (.ref a) (.ref d.heap.objs.size)) (EP X c f Q) X.xe {d with heap:=d.heap.push {cls:=.type "slice",data:=.fields #[.none,.none,.int (-1) tk]}}
  refine tail_any (ops:=[.ref a,.ref d.heap.objs.size]) m.typeIs iD.lookup ?_ (by with_unfolding_all rfl);refine HT.getItem_revN m (DX ..) (by omega) ?_;refine⟨.ref _,_,g.laid (t':=d.toks) (o:=.tup D.reverse) (λ b S q=>ar _ q) (bf _) ?_,rfl,q _ (g.hok.fresh (bf _))⟩;exact⟨by rw[wz];omega,l.reverse,r.reverse,IsTupN.new _ _⟩
end
def kHA{k:Bool}{K:be}{a:av}{xs:List V}{g:TG}{b:TB}{j:St->Hp->Prop}{c:St}{H:Hp}(Pv:Nat->St->Hp->Prop)(h0:Pv 0 c H)(l:∀ i c H,i<=xs.length->Pv i c H->SqX K k H a xs)
  (v:∀ i x T c H,xs[i]?=some x->H T=none->Pv i c H->g (.ref T) c (upd H T (.tup [.int i,x])) λ σ2 H2=>b (Pv (i+1)) σ2 H2) (o:∀ c H,Pv xs.length c H->j c H):zT (Ite k K a) g b j c H:=by
 refine⟨λ i m c H=>m=xs.length-i/\i<=xs.length/\Pv i c H,⟨xs.length,by simp,iH _,h0⟩,?_⟩;rintro i m c H ⟨rfl,d,p⟩;have f:=l i c H d p;rcases iY i xs.length with h | h
 ·refine .inr ⟨⟨xs,xs[i],f,by simp[h]⟩,Pv (i+1),λ u r q=>⟨xs.length-(i+1),by omega,rfl,by omega,q⟩,λ x r y=>?_⟩
  obtain⟨T,n,A,rfl,s,rfl⟩:=y;exact v i n T c H (s xs f) A p
 ·obtain rfl:i=xs.length:=by omega
  exact .inl ⟨⟨xs,f,rfl⟩,o c H p⟩
section
variable {X:Cx}
end
end L2
namespace SetI
open PySem L2 PyProof.Rows PySem.Spec
section
variable {prog:eX} {w:iN} {A:fk} {E:au->az->Prop} {s:az}
end
end SetI
namespace L2
open PySem PySem.Spec PyProof.Rows
section
variable {X:Cx}
end
end L2
namespace HT
open PySem PySem.Spec PyProof.Rows
section
variable {prog:eX} {w:iN} {A:fk} {E:au->az->Prop} {s:az}
end
end HT
namespace L2
open PySem PySem.Spec PyProof.Rows
section
variable {X:Cx}
end
end L2
namespace Tri
open Cyc Rnd
def Mir(W M:Rows):Prop:=M.length=W.length/\∀(p:Nat)(r:List Nat),W[p]?=some r->∃ a,M[p]?=some a/\Ro r.reverse a/\Can a
def lZ{W M:Rows}(h:Mir W M)(a b:Nat):E M a b↔E W a b:=by
 constructor
 ·rintro⟨r,e,m⟩
  have d:=(ak.mp e).1;rw[h.1]at d;obtain⟨g,c,f,_⟩:=h.2 a _ (ae d);rw[e]at c
  cases c
  exact⟨_,ae d,ou.mp ((f.mem b).mpr m)⟩
 ·rintro⟨r,e,m⟩
  obtain⟨g,c,f,_⟩:=h.2 a r e;exact⟨g,c,(f.mem b).mp (ou.mpr m)⟩
def kFS{W M:Rows}(h:Mir W M){p:Nat}{r':List Nat}(e:M[p]?=some r'):∃ r,W[p]?=some r/\Ro r.reverse r'/\Can r':=by
 have a:=(ak.mp e).1;rw[h.1]at a;obtain⟨f,b,d,c⟩:=h.2 p _ (ae a);rw[e]at b;cases b
 exact⟨_,ae a,d,c⟩
def kLY{W M:Rows}(S:Nb W)(h:Mir W M):Nb M:=by
 refine⟨λ p r e=>?_,λ p r a e m=>?_,λ a b z=>(lZ h b a).mpr (S.sym a b ((lZ h a b).mp z))⟩
 ·obtain⟨f,d,c,_⟩:=kFS h e
  exact c.nd.mp ((AW _).nodup_iff.mpr (S.nd p f d))
 ·obtain⟨f,d,c,_⟩:=kFS h e
  rw[h.1];exact S.rng p f a d (ou.mp ((c.mem a).mpr m))
end Tri
namespace HT
open PySem PySem.Spec PyProof.Rows
section
variable {prog:eX} {w:iN} {A:fk} {E:au->az->Prop} {s:az}
end
end HT
namespace L2
open PySem PySem.Spec PyProof.Rows
section
variable {X:Cx}
def vT(n:Nat):List V:=(cf n).map λ(i:Nat)=>V.int (i:Int)
def kJK{n:Nat}{a:Array au}(h:ItemsOf (λ i v=>∃ t,v=.int ((0:Int)+i*1) t) a n):Vals (vT n) a.toList:=by
 obtain⟨h1,d⟩:=h
 have:∀(m:Nat)(l:List au)(k:Nat),l.length=m->(∀(j:Nat)(v:au),l[j]?=some v->∃ t,v=ur (((k+j:Nat):Int)) t)->Vals ((AJ k m).map λ(i:Nat)=>V.int (i:Int)) l:=λ m=>by
  induction m with
  | zero=>intro l k b _;rw[pe.mp b];exact .nil
  | succ m ih =>
   intro l k b c
   match l,b with
   | x::l,b =>
    rw[wx,eZ];refine .cons ?_ (ih l (k+1) (by simpa using b) λ j v e=>?_)
    ·obtain⟨t,rfl⟩:=c 0 x rfl
     exact⟨t,by simp⟩
    ·obtain⟨t,rfl⟩:=c (j+1) v (by simpa using e)
     exact⟨t,by congr 1;omega⟩
 unfold vT;rw[List.range_eq_range'];refine this n a.toList 0 (by simpa using h1) λ j v e=>?_;obtain⟨t,rfl⟩:=d j v (by simpa using e);exact⟨t,by simp⟩
inductive kQP(tp:Bool)(Q:VK)(vs:List V)(H1:Hp):Prop
 | mk:∀(n:Nat),(vs=[.int (n:Int)])->(n<=1000)->(∀ l,H1 l=none->Q (.ref l) (upd H1 l (if tp then .tup (vT n) else .lst (vT n))))->kQP tp Q vs H1
def kVZ(a:Bool)(d:TA):TE:=λ c H Q=>d c H λ f b=>kQP a Q f b
def kFL{a:iW}{A:TA}{p p2 i c:Pos}(S:X.calm=true)(T:Gl X "list")(G:X.mg "list" = none)(m:Gl X "range")(r:X.mg "range" = none)(O:PA X [a] A)(N:starEach [a] X.env=[(false,eval a X.env)]:=by rfl)
  (j:starEach [.Call (.Name "range" p2) [a] [] c] X.env=[(false,eval (.Call (.Name "range" p2) [a] [] c) X.env)]:=by rfl):PE X (.Call (.Name "list" p) [.Call (.Name "range" p2) [a] [] c] [] i) (kVZ false A):=by
 intro d s x H Q I h;refine Fv (wH I T G boot_list (iu ?_ j rfl));refine GE (Fv (wH I m r Ej (iu (thn (O c d s x H _ I h) λ us g ⟨vs,B,v,J,M⟩=>?_) N rfl)));obtain⟨n,rfl,D,q⟩:=M;obtain⟨u,rfl,t,rfl⟩:=uX J;refine call_range_1 ?_;refine GK ?_;have y:Inv X d x B {g with heap:=g.heap.push {cls:=.type "range",data:=.fields #[.int 0 g.toks,.int n t,.int 1 (g.toks+1)]},toks:=g.toks+1+1}:=v.kept λ b o e=>ar _ e
 refine call_list_range (n:=n) (v.ok.hd S) (GT ..) (small_one (by omega) (by omega) (by omega) (by omega)) (by rw[rangeSize_one];split<;>omega) (by omega) λ Y tk l Z U L f=>?_;have C:=y.laid (t':=tk) (o:=.lst (vT n)) U (bf _) (show ObjOk X.prog X.w _ _ _ (.lst (vT n)) from⟨by unfold vT;rw[aj,fu];exact jt D (by decide),l.toList,_,kJK f,by simpa using L⟩);exact⟨.ref _,_,C,rfl,q _ (y.hok.fresh (bf _))⟩
end
end L2
namespace Tri
open Cyc
end Tri
namespace Fc
open Cyc Tri Rnd
def kMY{α:Type}(l:List α)(p:α->Bool):(l.filter p).length+(l.filter λ x=>!p x).length=l.length:=by
 induction l with
 | nil=>rfl
 | cons x l ih =>
  rw[vy,vy,iJ]
  cases p x<;>simp<;>omega
section
variable {W:Rows}
def kLT(S:Nb W){t:Nat×Nat}(h:t∈kM W):nxt W t≠t:=λ e=>by
 have a:=S.e (mem_steps.mp (show(t.1,t.2)∈kM W from h));have:(nxt W t).1=t.2:=rfl;rw[e]at this;exact a.2.2 this.symm
def kSU(S:Nb W):(stepsS W).Nodup:=(sortP_perm _).nodup_iff.mpr (dH S.nd)
def kJP(S:Nb W):2*(tiesS W).length=(kM W).length:=by
 have nd:=kSU S;have l:(stepsS W).length=(kM W).length:=(sortP_perm _).length_eq;have c:=kMY (stepsS W) λ t=>decide (t.1<t.2)
 have perm:(((stepsS W).filter λ t=>!decide (t.1<t.2)).map λ t=>(t.2,t.1)).Perm ((stepsS W).filter λ t=>decide (t.1<t.2)):=by
  refine(qj ?_ (nd.filter _)).mpr λ t=>?_
  ·exact me.mpr ((nd.filter _).imp λ{a b} h e=>h (by
    injection e with e1 e2
    exact qv e2 e1))
  ·constructor
   ·intro h
    obtain⟨u,d,rfl⟩:=fe.mp h;obtain⟨a,b⟩:=ip.mp d;have e:=mem_stepsS.mp a;have f:=(S.e e).2.2;refine ip.mpr ⟨mem_stepsS.mpr (S.sym _ _ e),?_⟩;have b:¬ u.1<u.2:=by simpa using b
    exact decide_eq_true (show u.2<u.1 by omega)
   ·intro h
    obtain⟨a,b⟩:=ip.mp h;have b:=of_decide_eq_true b;refine fe.mpr ⟨(t.2,t.1),ip.mpr ⟨mem_stepsS.mpr (S.sym _ _ (mem_stepsS.mp a)),?_⟩,rfl⟩;have:¬ t.2<t.1:=by omega
    simpa using this
 have e:=perm.length_eq;rw[aj]at e;unfold tiesS;omega
def kBX(S:Nb W):(fgo W (stepsS W)).2.Perm (kM W):=by
 have a:=fgo_ok S (stepsS W) λ t h=>(sortP_perm _).mem_iff.mp h;exact(qj a.nd (dH S.nd)).mpr λ t=>⟨a.sub t,λ h=>a.cov t ((sortP_perm _).mem_iff.mpr h)⟩
def kIW(S:Nb W):((uN W).map jb).sum=(kM W).length:=by
 have b:=fgo_ok S (stepsS W) λ t h=>(sortP_perm _).mem_iff.mp h;obtain⟨R,_,a,r3⟩:=b.reps;have e:=(kBX S).length_eq;unfold uN;rw[a,<-e,r3,wk,sh]
 congr 1
 refine um λ r _=>?_;show((rnd W r).map _).length=_;rw[aj]
def kTQ(S:Nb W):(∀ f∈facesS W,f.length=3)↔∀ t∈kM W,(nxt W (nxt W t)).2=t.1:=by
 have y:=fgo_ok S (stepsS W) λ t h=>(sortP_perm _).mem_iff.mp h;obtain⟨R,s,v,r3⟩:=y.reps
 have d:∀ f,f∈facesS W↔∃ r∈R,f=(rnd W r).map (·.1):=λ f=>by
  unfold facesS;rw[(vE _).mem_iff];unfold uN;rw[v,fe];exact⟨λ⟨r,a,b⟩=>⟨r,a,b.symm⟩,λ⟨r,a,b⟩=>⟨r,a,b.symm⟩⟩
 have m:∀ r∈R,r∈kM W:=λ r g=>(sortP_perm _).mem_iff.mp (s r g);constructor
 ·intro h t u
  have o:=(kBX S).mem_iff.mpr u;rw[r3,vh]at o;obtain⟨r,g,n⟩:=o;have p:=h _ ((d _).mpr ⟨r,g,rfl⟩);rw[aj,rnd_len]at p;obtain⟨j,rfl⟩:=(bL S (m r g)).mp n;have back:=(rL S (m r g)).2.2.1;rw[p]at back
  have e:nxt W (nxt W (nxt W (it (nxt W) j r)))=it (nxt W) j r:=by
   show it (nxt W) 3 (it (nxt W) j r)=_;rw[<-aM,AN,aM,back]
  have l:(nxt W (nxt W (nxt W (it (nxt W) j r)))).1=(nxt W (nxt W (it (nxt W) j r))).2:=rfl;rw[e]at l;exact l.symm
 ·intro h f x
  obtain⟨r,g,rfl⟩:=(d f).mp x;have i:=m r g;rw[aj,rnd_len];have to:=(lV S).to
  have c:it (nxt W) 3 r=r:=by
   show nxt W (nxt W (nxt W r))=r;have a:=h r i;have b:=h _ (to r i);have l:(nxt W (nxt W (nxt W r))).1=r.1:=a;have q:(nxt W (nxt W (nxt W r))).2=r.2:=b;exact qv l q
  refine per_is (by decide) c λ j A B=>?_;have:j=1\/j=2:=by omega
  rcases this with rfl | rfl
  ·exact kLT S i
  ·intro e
   have e:nxt W (nxt W r)=r:=e;have c:nxt W (nxt W (nxt W r))=r:=c;rw[e]at c;exact kLT S i c
def three_cornered(S:Nb W):(W.length+(facesS W).length=(tiesS W).length+2/\∀ f∈facesS W,f.length=3)↔((∀ t∈kM W,(nxt W (nxt W t)).2=t.1)/\(kM W).length+12=6*W.length):=by
 rw[<-kTQ S];have l:=kJP S;have fs:=kIW S;have d:(facesS W).length=(uN W).length:=(vE _).length_eq
 have key:(∀ f∈facesS W,f.length=3)->3*(facesS W).length=(kM W).length:=λ h=>by
  have c:∀ f∈uN W,f.length=3:=λ f j=>h f ((vE _).mem_iff.mpr j);rw[d,<-fs];generalize uN W=F at c;clear h fs d
  induction F with
  | nil=>rfl
  | cons f F ih =>
   rw[eZ,Ap,iJ,<-ih λ g i=>c g (du _ i),c f (eP ..)];omega
 constructor
 ·rintro⟨a,b⟩
  have:=key b;exact⟨b,by omega⟩
 ·rintro⟨b,a⟩
  have:=key b;exact⟨by omega,b⟩
end
end Fc
namespace Tri
open Cyc Rnd
section
variable {L L2:Rows} {Os Ps:List (List Nat)} {A M C:List Nat} {f l:Nat}
end
def stF(W:Rows)(top b:List Nat)(a:Nat):Option (List Nat) :=
 let below:=b.filter λ q=>decide (q∈W.getD a [])
 let st:=top.filter λ q=>decide (q∈below)
 if st.length<2\/st.length≠below.length then none
 else if(top.drop (top.idxOf (st.headD 0))).take st.length≠st then none
 else if(st.zip st.tail).all (λ t=>decide ((nxt W t).2=a))=true then some st else none
def poF(top st:List Nat)(a:Nat):List Nat:=top.take (top.idxOf (st.headD 0)+1)++a::top.drop (top.idxOf (st.getLastD 0))
def goF(W:Rows)(a:List Nat):Nat->Option (List (List Nat)×List (List Nat))
 | 0=>some ([],[a.take 2])
 | i+1=>match goF W a i with
  | none=>none
  | some (found,tops)=>match stF W (tops.getLastD []) (a.take (i+2)) (a.getD (i+2) 0) with
   | none=>none
   | some st=>some (found++[st],tops++[poF (tops.getLastD []) st (a.getD (i+2) 0)])
theorem uP:∀{l:List Nat}{a b:Nat},(a,b)∈l.zip l.tail->Adj l a b
 | [],_,_,h=>by simp at h
 | [x],_,_,h=>by simp at h
 | x::y::l,a,b,h=>by
  rw[FA,Bf]at h;rcases eA.mp h with e | e
  ·injection e with e1 e2
   exact(cH x y l a b).mpr (.inl ⟨e1,e2⟩)
  ·exact(cH x y l a b).mpr (.inr (uP (l:=y::l) e))
theorem kFX{m:Nat->Nat}:∀{B:List Nat}{x:Nat}{C:List Nat},(∀ b∈B,m b≠m x)->((B++x::C).map m).idxOf (m x)=B.length
 | [],x,C,_=>by simp
 | b::B,x,C,h=>by
  have:=kFX (B:=B) (x:=x) (C:=C) λ b a=>h b (du _ a);rw[mj,eZ,List.idxOf_cons,this,iJ];have:(m b == m x)=false:=beq_eq_false_iff_ne.mpr (h b (eP ..));rw[this]
  rfl
def kLS{W:Rows}(nd:∀(p:Nat)(row:List Nat),W[p]?=some row->row.Nodup){x y v:Nat}(h:R W y v x):(nxt W (x,y)).2=v:=by
 obtain⟨row,e,n⟩:=h;unfold nxt;show(xI (W.getD y []) x).getD 0=v;rw[ao,e];show(xI row x).getD 0=v;rw[rH (nd y row e) n]
 rfl
section
variable {W:Rows} {ms:List Nat} {n:Nat}
end
def jC{W:Rows}(G:Good W):(∀ t∈kM W,(nxt W (nxt W t)).2=t.1)/\(kM W).length+12=6*W.length:=by
 have S:=(Wb.of G).toNb;refine⟨λ t b=>?_,by rw[jX];exact G.tot⟩;obtain⟨x,y⟩:=t;obtain⟨z,r,a,_⟩:=xK S (mem_steps.mp b);rw[a];exact kLS G.nd (G.tri _ _ _ r)
def kEK{W:Rows}{top b st:List Nat}{c:Nat}(h:stF W top b c=some st) :
  ∃ B f M l C,st=f::M++[l]/\top=B++(f::M++[l])++C/\(∀ q∈st,q∈b/\q∈W.getD c [])/\∀ t∈st.zip st.tail,(nxt W t).2=c:=by
 unfold stF at h;dsimp only at h;by_cases j:(top.filter λ q=>decide (q∈b.filter λ q=>decide (q∈W.getD c []))).length<2\/(top.filter λ q=>decide (q∈b.filter λ q=>decide (q∈W.getD c []))).length≠(b.filter λ q=>decide (q∈W.getD c [])).length
 ·rw[if_pos j]at h
  cases h
 rw[if_neg j]at h
 split at h
 ·cases h
 rename_i d
 split at h
 ·rename_i c3
  have h:=bh h;have d:=Decidable.not_not.mp d;rw[h]at j d c3
  have mem:∀ q∈st,q∈b/\q∈W.getD c []:=λ q m=>by
   rw[<-h]at m;have:=of_decide_eq_true (ip.mp m).2;exact⟨(ip.mp this).1,of_decide_eq_true (ip.mp this).2⟩
  have len:2<=st.length:=by omega
  obtain⟨f,r,i⟩ : ∃ a r,st=a::r:=by
   match st,len with
   | a::r,_=>exact⟨a,r,rfl⟩
  have g:r≠[]:=λ z=>by rw[i,z]at len;simp at len
  refine⟨top.take (top.idxOf (st.headD 0)),f,r.dropLast,r.getLast g,(top.drop (top.idxOf (st.headD 0))).drop st.length,?_,?_,mem,λ t n=>of_decide_eq_true (vg.mp c3 t n)⟩
  ·rw[i,mj,eK g]
  ·rw[mj,eK g,<-i]
   have o:top.drop (top.idxOf (st.headD 0))=st++(top.drop (top.idxOf (st.headD 0))).drop st.length:=by
    conv=>lhs;rw[<-fv st.length (top.drop (top.idxOf (st.headD 0))),d]
   rw[di,<-o,fv]
 ·cases h
def kDN{B:List Nat}{x:Nat}{C:List Nat}(h:x∉B):(B++x::C).idxOf x=B.length:=by
 have:=kFX (m:=id) (B:=B) (x:=x) (C:=C) λ b a e=>h (by rw[<-(show b=x from e)];exact a);simpa using this
def zW{top B M C:List Nat}{f l b:Nat}(e:top=B++(f::M++[l])++C)(nd:top.Nodup):poF top (f::M++[l]) b=B++[f,b,l]++C:=by
 subst e;have j:=cy.mp nd;have a:=cy.mp j.1;have d3:=cy.mp a.2.1;have o:f∉B:=λ h=>a.2.2 f h f (by simp) rfl
 have n:l∉B++(f::M):=λ h=>by
  rcases bz.mp h with z | z
  ·exact a.2.2 l z l (by simp) rfl
  ·exact d3.2.2 l z l (by simp) rfl
 have d:B++(f::M++[l])++C=B++f::(M++[l]++C):=by simp
 have c:B++(f::M++[l])++C=(B++f::M)++l::C:=by simp
 have g:(B++(f::M++[l])++C).idxOf f=B.length:=by rw[d];exact kDN o
 have p:(B++(f::M++[l])++C).idxOf l=(B++f::M).length:=by rw[c];exact kDN n
 unfold poF;have q:(f::M++[l]).getLastD 0=l:=by rw[iS,kh];rfl
 rw[show(f::M++[l]).headD 0=f from rfl,q,g,p]
 have m:(B++(f::M++[l])++C).take (B.length+1)=B++[f]:=by
  rw[d,show B++f::(M++[l]++C)=(B++[f])++(M++[l]++C) by simp,yq (by simp)]
 have i:(B++(f::M++[l])++C).drop (B++f::M).length=l::C:=by rw[c,Cm rfl]
 rw[m,i];simp
structure Top(W:Rows)(some top:List Nat):Prop where
 nd:top.Nodup
 sub:∀ x∈top,x∈some
 path:∀ x y,Adj top x y->E W x y
def Top.step{W:Rows}{c top st:List Nat}{i:Nat}(T:Top W c top)(sym:∀ a b,E W a b->E W b a)(A:i∉c)(h:stF W top c i=some st) :
  Top W (c++[i]) (poF top st i)/\(∀ x∈st,x∈top)/\st≠[]/\∀ t∈st.zip st.tail,E W t.1 t.2:=by
 obtain⟨B,f,M,l,C,rfl,o,mem,nx⟩:=kEK h;have nd:=T.nd;rw[zW o nd];have d:=T.path;have sub:=T.sub;rw[o]at nd d sub
 have p:∀ q,q∈f::M++[l]->E W i q:=λ q r=>by
  have:=(mem q r).2;rw[ao]at this
  cases e:W[i]? with
  | none=>rw[e]at this;cases this
  | some row=>rw[e]at this;exact⟨row,e,this⟩
 have m:=cy.mp nd;have n:=cy.mp m.1;have d3:=cy.mp n.2.1;have all:∀ x∈B++(f::M++[l])++C,x≠i:=λ x g e=>A (by rw[<-e];exact sub x g);refine⟨⟨?_,λ x g=>?_,λ x y ad=>?_⟩,λ x g=>by rw[o];exact df _ (dc _ g),by simp,λ t u=>?_⟩
 ·have s:f≠l:=d3.2.2 f (by simp) l (by simp)
  have h1:B.Nodup:=n.1;have v:C.Nodup:=m.2.1;refine cy.mpr ⟨cy.mpr ⟨h1,?_,λ x g y j=>?_⟩,v,λ x g y j=>?_⟩
  ·have a:=all f (by simp)
   have b:=all l (by simp);simp[a,s,b.symm]
  ·simp only[eA,ml,or_false]at j
   rcases j with rfl | rfl | rfl
   ·exact n.2.2 x g _ (by simp)
   ·exact all x (by simp[g])
   ·exact n.2.2 x g _ (by simp)
  ·rcases bz.mp g with z | z
   ·exact m.2.2 x (df _ z) y j
   ·simp only[eA,ml,or_false]at z
    rcases z with rfl | rfl | rfl
    ·exact m.2.2 _ (by simp) y j
    ·exact λ e=>all y (by simp[j]) e.symm
    ·exact m.2.2 _ (by simp) y j
 ·rcases bz.mp g with z | z
  ·rcases bz.mp z with z | z
   ·exact df _ (sub x (by simp[z]))
   ·simp only[eA,ml,or_false]at z
    rcases z with rfl | rfl | rfl
    ·exact df _ (sub _ (by simp))
    ·simp
    ·exact df _ (sub _ (by simp))
  ·exact df _ (sub x (by simp[z]))
 ·have D:B++[f,i,l]++C=B++f::(i::(l::C)):=by simp
  have p1:B++(f::M++[l])++C=B++f::(M++l::C):=by simp
  have p2:B++(f::M++[l])++C=(B++f::M)++l::C:=by simp
  rw[D,qY]at ad;rcases ad with z | z
  ·exact d x y (by rw[p1,qY];exact .inl z)
  ·rw[cH]at z
   rcases z with⟨rfl,rfl⟩ | z
   ·exact sym _ _ (p _ (by simp))
   ·rw[cH]at z
    rcases z with⟨rfl,rfl⟩ | z
    ·exact p _ (by simp)
    ·exact d x y (by rw[p2,qY];exact .inr z)
 ·obtain⟨a,b⟩:=t
  have ad:=uP u;have e:f::M++[l]++C=(f::M)++l::C:=by simp
  have this:Adj (f::(M++l::C)) a b:=by
   have:Adj ((f::M)++l::C) a b:=by
    rw[qY];exact .inl ad
   exact this
  refine d a b ?_;rw[show B++(f::M++[l])++C=B++f::(M++l::C) by simp,qY];exact .inr this
theorem bU{W:Rows}{a:List Nat}{i:Nat}(h:goF W a i=none):∀ j,goF W a (i+j)=none
 | 0=>h
 | j+1=>by
  have:=bU h j;show goF W a (i+j+1)=none;unfold goF;rw[this]
def jR(W:Rows)(a b c:Nat)(d:List Nat):Option (List (List Nat)×List (List Nat)) :=
 if d[0]?=some a/\d[1]?=some b/\d.getLast?=some c then goF W d (d.length-2) else none
def mI{W:Rows}{a:List Nat}{i:Nat}{fs ts:List (List Nat)}(h:goF W a i=some (fs,ts))(z:stF W (ts.getLastD []) (a.take (i+2)) (a.getD (i+2) 0)=none):goF W a (i+1)=none:=by
 unfold goF;rw[h];dsimp only;rw[z]
def aN{W:Rows}{a:List Nat}{i:Nat}{fs ts:List (List Nat)}{st:List Nat}(h:goF W a i=some (fs,ts))(z:stF W (ts.getLastD []) (a.take (i+2)) (a.getD (i+2) 0)=some st):goF W a (i+1)=some (fs++[st],ts++[poF (ts.getLastD []) st (a.getD (i+2) 0)]):=by
 unfold goF;rw[h];dsimp only;rw[z]
def bP{α:Type}(l:List (List α))(x:List α):(l++[x]).getLastD []=x:=by
 rw[iS,kh]
 rfl
def Top.len{W:Rows}{some top:List Nat}(T:Top W some top):top.length<=some.length:=eV T.nd T.sub
def wL{W:Rows}{top a st:List Nat}{b:Nat}(nd:top.Nodup)(h:stF W top a b=some st) :
  ∃ B f M l C,st=f::M++[l]/\top=B++(f::M++[l])++C/\(∀ q,q∈st↔q∈a/\q∈W.getD b [])/\∀ t∈st.zip st.tail,(nxt W t).2=b:=by
 obtain⟨B,f,M,l,C,j,i,mem,nx⟩:=kEK h;refine⟨B,f,M,l,C,j,i,λ q=>⟨mem q,λ g=>?_⟩,nx⟩
 have snd:st.Nodup:=by
  rw[i]at nd;rw[j];exact(cy.mp (cy.mp nd).1).2.1
 have len:st.length=(a.filter λ q=>decide (q∈W.getD b [])).length:=by
  unfold stF at h;dsimp only at h;by_cases d:(top.filter λ q=>decide (q∈a.filter λ q=>decide (q∈W.getD b []))).length<2\/(top.filter λ q=>decide (q∈a.filter λ q=>decide (q∈W.getD b []))).length≠(a.filter λ q=>decide (q∈W.getD b [])).length
  ·rw[if_pos d]at h
   cases h
  rw[if_neg d]at h
  split at h
  ·cases h
  split at h
  ·have h:=bh h
   rw[h]at d;omega
  ·cases h
 by_cases c:q∈st
 ·exact c
 ·exfalso
  have:=eV (gh.mpr ⟨c,snd⟩) (l₂:=a.filter λ q=>decide (q∈W.getD b [])) λ x m=>by
   rcases eA.mp m with rfl | z
   ·exact ip.mpr ⟨g.1,decide_eq_true g.2⟩
   ·exact ip.mpr ⟨(mem x z).1,decide_eq_true (mem x z).2⟩
  rw[iJ]at this;omega
def aV{W:Rows}{top a B M C:List Nat}{f l b:Nat}(nd:top.Nodup)(d:a.Nodup)(e:top=B++(f::M++[l])++C)(sub:∀ q∈top,q∈a)(mem:∀ q,q∈f::M++[l]↔q∈a/\q∈W.getD b [])(nx:∀ t∈(f::M++[l]).zip (f::M++[l]).tail,(nxt W t).2=b) :
  stF W top a b=some (f::M++[l]):=by
 have c:=nd;rw[e]at c;have n:=cy.mp c;have j:=cy.mp n.1
 have g:∀ q,q∈(a.filter λ q=>decide (q∈W.getD b []))↔q∈f::M++[l]:=λ q=>by
  rw[ip,decide_eq_true_iff,mem]
 have x:(a.filter λ q=>decide (q∈W.getD b [])).Perm (f::M++[l]):=(qj (d.filter _) j.2.1).mpr g
 have r:(top.filter λ q=>decide (q∈a.filter λ q=>decide (q∈W.getD b [])))=f::M++[l]:=by
  have u:(λ q=>decide (q∈a.filter λ q=>decide (q∈W.getD b [])))=λ q=>decide (q∈f::M++[l]):=by
   funext q
   rw[iX,decide_eq_true_iff,decide_eq_true_iff,g]
  rw[u,e,ud,ud];have m:B.filter (λ q=>decide (q∈f::M++[l]))=[]:=AY.mpr λ q i h=>j.2.2 q i q (of_decide_eq_true h) rfl;have p:C.filter (λ q=>decide (q∈f::M++[l]))=[]:=AY.mpr λ q i h=>n.2.2 q (dc _ (of_decide_eq_true h)) q i rfl;rw[m,p,DI.mpr λ q i=>decide_eq_true i];simp
 have s:(f::M++[l]).length=M.length+2:=by simp
 have m:f∉B:=λ h=>j.2.2 f h f (by simp) rfl
 have o:top.idxOf f=B.length:=by
  rw[e,show B++(f::M++[l])++C=B++f::(M++[l]++C) by simp];exact kDN m
 unfold stF;dsimp only;rw[r,x.length_eq,if_neg (by rw[s];omega),if_neg,if_pos]
 ·exact vg.mpr λ t v=>decide_eq_true (nx t v)
 ·intro h
  refine h ?_;rw[show(f::M++[l]).headD 0=f from rfl,o,e,di,Cm rfl,yq rfl]
theorem sY:∀{l:List Nat}{a b:Nat},Adj l a b->(a,b)∈l.zip l.tail
 | [],_,_,h=>absurd h id
 | [x],_,_,h=>absurd h id
 | x::y::l,a,b,h=>by
  rw[FA,Bf];rcases(cH x y l a b).mp h with⟨rfl,rfl⟩ | z
  ·exact eP ..
  ·exact du _ (sY (l:=y::l) z)
section
variable {W:Rows} {T ahead su sv:List Nat} {u v:Nat}
end
theorem mH{W:Rows}{b a:List Nat}:∀{i:Nat},b.take (i+2)=a.take (i+2)->goF W b i=goF W a i
 | 0,h=>by
  unfold goF;rw[show b.take 2=a.take 2 from h]
 | i+1,h=>by
  have h1:b.take (i+2)=a.take (i+2):=by
   have:=congrArg (Fy (i+2)) h;rwa[Bb,Bb,ni (by omega)]at this
  have c:b[i+2]?=a[i+2]?:=by
   have:=congrArg (λ l:List Nat=>l[i+2]?) h;simpa[sd (show i+2<i+1+2 by omega)] using this
  unfold goF;rw[mH h1,h1,ao,ao,c]
theorem vK{W:Rows}{c:List Nat}(d:c.Nodup)(sym:∀ a b,E W a b->E W b a)(h0:Top W (c.take 2) (c.take 2)):∀{i:Nat}{fs ts:List (List Nat)},i+2<=c.length->goF W c i=some (fs,ts)->Top W (c.take (i+2)) (ts.getLastD [])
 | 0,fs,ts,_,h=>by
  unfold goF at h;have h:=bh h;injection h with h1 h2
  rw[<-h2];exact h0
 | i+1,fs,ts,hl,h=>by
  cases e:goF W c i with
  | none =>
   have:=bU e 1;rw[show i+1=i+1 from rfl,this]at h;cases h
  | some x =>
   obtain⟨f,t⟩:=x;have m:=vK d sym h0 (by omega) e
   cases s:stF W (t.getLastD []) (c.take (i+2)) (c.getD (i+2) 0) with
   | none=>rw[mI e s]at h;cases h
   | some st =>
    rw[aN e s]at h;have h:=bh h;injection h with h1 h2
    have l:c.getD (i+2) 0∉c.take (i+2):=by
     rw[ao,ae (by omega)];intro z;obtain⟨j,g,e⟩:=eO.mp z;rw[dq]at g;rw[AU]at e;have:=(AH d).mp e;omega
    have tk:c.take (i+1+2)=c.take (i+2)++[c.getD (i+2) 0]:=by
     rw[show i+1+2=i+2+1 by omega,jd,ao,ae (show i+2<c.length by omega)]
     rfl
    rw[<-h2,bP,tk];exact(m.step sym l s).1
def wD{W:Rows}{a:List Nat}{i j:Nat}{b c:List (List Nat)}(h:goF W a (i+j)=some (b,c)):∃ fs ts,goF W a i=some (fs,ts):=by
 cases e:goF W a i with
 | none=>rw[bU e j]at h;cases h
 | some x=>exact⟨x.1,x.2,rfl⟩
def yX{W:Rows}{a:List Nat}{i:Nat}{fs ts b c:List (List Nat)}(h:goF W a i=some (fs,ts))(h':goF W a (i+1)=some (b,c)):∃ st,stF W (ts.getLastD []) (a.take (i+2)) (a.getD (i+2) 0)=some st/\b=fs++[st]/\c=ts++[poF (ts.getLastD []) st (a.getD (i+2) 0)]:=by
 cases s:stF W (ts.getLastD []) (a.take (i+2)) (a.getD (i+2) 0) with
 | none=>rw[mI h s]at h';cases h'
 | some st =>
  rw[aN h s]at h';have h':=bh h';injection h' with h1 h2
  exact⟨st,rfl,h1.symm,h2.symm⟩
def xD{W:Rows}{c:List Nat}:∀{i:Nat}{fs ts:List (List Nat)},goF W c i=some (fs,ts)->fs.length=i/\ts.length=i+1:=by
 intro i
 induction i with
 | zero =>
  intro fs ts h;unfold goF at h;have h:=bh h;injection h with h1 h2
  rw[<-h1,<-h2];exact⟨rfl,rfl⟩
 | succ i ih =>
  intro fs ts h;obtain⟨f,t,e⟩:=wD (i:=i) (j:=1) h;obtain⟨st,_,b,a⟩:=yX e h;obtain⟨p,q⟩:=ih e;rw[b,a,bu,bu,p,q];exact⟨rfl,rfl⟩
def yO{a:List Nat}(b:a.Nodup){k j:Nat}(h:k<=j)(c:j<a.length):a.getD j 0∉a.take k:=by
 rw[ao,ae c];intro z;obtain⟨m,d,e⟩:=eO.mp z;rw[dq]at d;rw[AU]at e;have:=(AH b).mp e;omega
section
variable {ms:List Nat} {k:Nat}
variable {W:Rows} {a b c:Nat} {Fs Ts:List (List Nat)}
end
section
variable {W W':Rows} {g:Nat->Nat} {n:Nat}
def oP{l:List Nat}(nd:l.Nodup)(inj:∀ x∈l,∀ y∈l,g x=g y->x=y):(l.map g).Nodup :=
 me.mpr (nd.imp_of_mem λ{x y} b c a e=>a (inj x b y c e))
def kOD(inj:∀ x y,x<n->y<n->g x=g y->x=y)(mem:∀ x y,x<n->y<n->(g y∈W'.getD (g x) []↔y∈W.getD x []))(nx:∀ x y,E W x y->(nxt W' (g x,g y)).2=g (nxt W (x,y)).2)(sym:∀ a b,E W a b->E W b a){top c st:List Nat}{i:Nat}(TT:Top W c top)(v:c.Nodup)(r:∀ x∈c,x<n)(D:i<n)(O:i∉c)(h:stF W top c i=some st) :
  stF W' (top.map g) (c.map g) (g i)=some (st.map g)/\poF (top.map g) (st.map g) (g i)=(poF top st i).map g:=by
 obtain⟨_,_,_,L⟩:=TT.step sym O h;obtain⟨B,f,M,l,C,rfl,G,H,N⟩:=wL TT.nd h;have J:∀ x∈top,x<n:=λ x d=>r x (TT.sub x d);have j:(top.map g).Nodup:=oP TT.nd λ x d y u e=>inj x y (J x d) (J y u) e;have o:(c.map g).Nodup:=oP v λ x d y u e=>inj x y (r x d) (r y u) e;have em:(f::M++[l]).map g=g f::M.map g++[g l]:=by simp
 have p:top.map g=B.map g++(g f::M.map g++[g l])++C.map g:=by rw[G,cu,cu,em]
 rw[em];refine⟨aV j o p (λ q s=>?_) (λ q=>?_) (λ t I=>?_),?_⟩
 ·obtain⟨x,d,rfl⟩:=fe.mp s
  exact fe.mpr ⟨x,TT.sub x d,rfl⟩
 ·rw[<-em]
  constructor
  ·intro s
   obtain⟨x,d,rfl⟩:=fe.mp s;obtain⟨h1,A⟩:=(H x).mp d;exact⟨fe.mpr ⟨x,h1,rfl⟩,(mem i x D (r x h1)).mpr A⟩
  ·rintro⟨h1,A⟩
   obtain⟨x,d,rfl⟩:=fe.mp h1;exact fe.mpr ⟨x,(H x).mpr ⟨d,(mem i x D (r x d)).mp A⟩,rfl⟩
 ·rw[<-em,<-Fk,List.zip_map]at I
  obtain⟨⟨x,y⟩,m,rfl⟩:=fe.mp I;show(nxt W' (g x,g y)).2=g i;rw[nx x y (L _ m),N _ m]
 ·rw[zW p j,zW G TT.nd]
  simp
def kQC(inj:∀ x y,x<n->y<n->g x=g y->x=y)(mem:∀ x y,x<n->y<n->(g y∈W'.getD (g x) []↔y∈W.getD x []))(nx:∀ x y,E W x y->(nxt W' (g x,g y)).2=g (nxt W (x,y)).2)(sym:∀ a b,E W a b->E W b a){c:List Nat}(d:c.Nodup)(p:∀ x∈c,x<n)(h0:Top W (c.take 2) (c.take 2)) :
  ∀{i:Nat}{fs ts:List (List Nat)},i+2<=c.length->goF W c i=some (fs,ts)->goF W' (c.map g) i=some (fs.map (·.map g),ts.map (·.map g)):=by
 intro i
 induction i with
 | zero =>
  intro fs ts _ h;unfold goF at h ⊢;have h:=bh h;injection h with h1 h2
  rw[<-h1,<-h2,Do,eZ,Do,xb]
 | succ i ih =>
  intro fs ts D h;obtain⟨G,l,e⟩:=wD (i:=i) (j:=1) h;obtain⟨st,z,v,u⟩:=yX e h;have TT:=vK d sym h0 (by omega) e;have o:c[i+2]?=some (c.getD (i+2) 0):=by rw[ao,ae (by omega)];rfl
  have r:c.getD (i+2) 0∉c.take (i+2):=yO d (by omega) (by omega);have s:=λ x (q:x∈c.take (i+2))=>p x (uz q);obtain⟨C,A⟩:=kOD inj mem nx sym TT (d.sublist (xm _ _)) s (p _ (dh o)) r z;have f:=ih (by omega) e
  have lt:(l.map (·.map g)).getLastD []=(l.getLastD []).map g:=by
   rw[iS,iS,Bw];cases l.getLast?<;>rfl
  have m:(c.map g).getD (i+2) 0=g (c.getD (i+2) 0):=by
   rw[ao,bb,o]
   rfl
  have B:=aN f (st:=st.map g) (by rw[lt,m,<-xb];exact C);rw[B,lt,m,A,v,u,cu,cu]
  rfl
theorem mU:∀{l:List Nat}{p q:Nat},Adj l.reverse p q->Adj l q p
 | [],_,_,h=>h.elim
 | [x],_,_,h=>h.elim
 | x::y::r,p,q,h=>by
  rw[vf,vf,di]at h;rcases(qY _ y [x] p q).mp h with h | h
  ·refine .inr (mU (l:=y::r) ?_)
   rw[vf];exact h
  ·rcases h with⟨rfl,rfl⟩ | h
   ·exact .inl ⟨rfl,rfl⟩
   ·exact h.elim
def kNX{l:List Nat}{p q:Nat}(h:(p,q)∈l.reverse.zip l.reverse.tail):(q,p)∈l.zip l.tail:=sY (mU (uP h))
def kOE(mem:∀ x y,y∈W'.getD x []↔y∈W.getD x [])(nx:∀ x y,E W x y->(nxt W' (y,x)).2=(nxt W (x,y)).2)(sym:∀ a b,E W a b->E W b a){top c d st:List Nat}{g:Nat}(TT:Top W c top)(m:c.Nodup)(n:c.Perm d)(D:g∉c)(h:stF W top c g=some st) :
  stF W' top.reverse d g=some st.reverse/\poF top.reverse st.reverse g=(poF top st g).reverse:=by
 obtain⟨_,_,_,s⟩:=TT.step sym D h;obtain⟨B,f,M,l,C,rfl,o,v,A⟩:=wL TT.nd h;have i:top.reverse.Nodup:=(AW top).nodup_iff.mpr TT.nd;have em:(f::M++[l]).reverse=l::M.reverse++[f]:=by simp
 have j:top.reverse=C.reverse++(l::M.reverse++[f])++B.reverse:=by rw[o];simp
 refine⟨?_,?_⟩
 ·rw[em]
  refine aV i (n.nodup_iff.mp m) j (λ q u=>n.mem_iff.mp (TT.sub q (ou.mp u))) (λ q=>?_) (λ t p=>?_)
  ·rw[<-em,ou,v q,mem,n.mem_iff]
  ·rw[<-em]at p
   obtain⟨x,y⟩:=t;have r:=kNX p;show(nxt W' (x,y)).2=g;rw[nx y x (s _ r)];exact A _ r
 ·rw[em,zW j i,zW o TT.nd]
  simp
def kQD(mem:∀ x y,y∈W'.getD x []↔y∈W.getD x [])(nx:∀ x y,E W x y->(nxt W' (y,x)).2=(nxt W (x,y)).2)(sym:∀ a b,E W a b->E W b a){a b:Nat}{r:List Nat}(c:(a::b::r).Nodup)(h0:Top W [a,b] [a,b]) :
  ∀{i:Nat}{fs ts:List (List Nat)},i<=r.length->goF W (a::b::r) i=some (fs,ts)->goF W' (b::a::r) i=some (fs.map fc,ts.map fc):=by
 intro i
 induction i with
 | zero =>
  intro fs ts _ h;unfold goF at h ⊢;have h:=bh h;injection h with h1 h2
  rw[<-h1,<-h2]
  rfl
 | succ i ih =>
  intro fs ts u h;obtain⟨v,f,e⟩:=wD (i:=i) (j:=1) h;obtain⟨st,z,n,m⟩:=yX e h;have TT:=vK c sym h0 (by simp;omega) e;have l:(a::b::r).getD (i+2) 0∉(a::b::r).take (i+2):=yO c (by omega) (by simp;omega)
  have s:((a::b::r).take (i+2)).Perm ((b::a::r).take (i+2)):=by
   rw[zh,zh,zh,zh];exact DB b a _
  obtain⟨q,o⟩:=kOE mem nx sym TT (c.sublist (xm _ _)) s l z;have d:=ih (by omega) e
  have lt:(f.map fc).getLastD []=(f.getLastD []).reverse:=by
   rw[iS,iS,Bw];cases f.getLast?<;>rfl
  have g:(b::a::r).getD (i+2) 0=(a::b::r).getD (i+2) 0:=rfl;have p:=aN d (st:=st.reverse) (by rw[lt,g];exact q);rw[p,lt,g,o,n,m,cu,cu]
  rfl
end
end Tri
namespace Fc
open Cyc Rnd Tri
def mgN(a b x:Nat):Nat:=if x=b then a else x
def goL(m:List Nat)(a:List (Nat×Nat)):List Nat:=a.foldl (λ m l=>m.map (mgN (m.getD l.1 0) (m.getD l.2 0))) m
def bS(m:List Nat)(l:Nat×Nat)(a:List (Nat×Nat)):goL m (l::a)=goL (m.map (mgN (m.getD l.1 0) (m.getD l.2 0))) a:=rfl
theorem kFZ:∀(a:List (Nat×Nat))(m:List Nat),(goL m a).length=m.length
 | [],_=>rfl
 | l::a,m=>by rw[bS,kFZ a,aj]
theorem oY:∀(a:List (Nat×Nat))(m:List Nat)(c:Nat),(∀ x∈goL m a,x=c)->∃ V:List Nat,V.length<=a.length+1/\∀ x∈m,x∈V
 | [],m,c,h=>⟨[c],by simp,λ x b=>by rw[h x b];simp⟩
 | l::a,m,c,h=>by
  rw[bS]at h;obtain⟨V,h1,d⟩:=oY a _ c h;refine⟨m.getD l.2 0::V,by simp;omega,λ x b=>?_⟩;have:=d _ (fe.mpr ⟨x,b,rfl⟩);unfold mgN at this
  split at this
  ·rename_i e
   rw[e];exact eP ..
  ·exact du _ this
def bM{m:List Nat}{f:Nat->Nat}{i:Nat}(h:i<m.length):(m.map f).getD i 0=f (m.getD i 0):=by
 rw[ao,ao,bb,ae h]
 rfl
theorem kBG:∀(a:List (Nat×Nat))(m:List Nat)(i j:Nat),i<m.length->j<m.length->m.getD i 0=m.getD j 0->(goL m a).getD i 0=(goL m a).getD j 0
 | [],_,_,_,_,_,h=>h
 | l::a,m,i,j,hi,hj,h=>by
  rw[bS];refine kBG a _ i j (by rw[aj];exact hi) (by rw[aj];exact hj) ?_;rw[bM hi,bM hj,h]
theorem kBH:∀(a:List (Nat×Nat))(m:List Nat)(i j:Nat),i<m.length->j<m.length->(i,j)∈a->(goL m a).getD i 0=(goL m a).getD j 0
 | l::a,m,i,j,hi,hj,h=>by
  rw[bS];have b:i<(m.map (mgN (m.getD l.1 0) (m.getD l.2 0))).length:=by rw[aj];exact hi
  have c:j<(m.map (mgN (m.getD l.1 0) (m.getD l.2 0))).length:=by rw[aj];exact hj
  rcases eA.mp h with e | h
  ·refine kBG a _ i j b c ?_
   rw[<-e,bM hi,bM hj];unfold mgN;simp only
   split<;>simp
  ·exact kBH a _ i j b c h
def kDL{F:Nat}{b:List (Nat×Nat)}(d:∀ l∈b,l.1<F/\l.2<F)(all:∀ m:List Nat,m.length=F->(∀ l∈b,m.getD l.1 0=m.getD l.2 0)->∀ i,i<F->m.getD i 0=m.getD 0 0):F<=b.length+1:=by
 have f:=kFZ b (cf F);rw[fu]at f;have a:=all (goL (cf F) b) f λ l c=>kBH b _ l.1 l.2 (by rw[fu];exact(d l c).1) (by rw[fu];exact(d l c).2) c
 obtain⟨V,h1,h⟩:=oY b (cf F) ((goL (cf F) b).getD 0 0) λ x g=>by
  obtain⟨i,j,rfl⟩:=eO.mp g;rw[<-a i (by omega),ao,ae j]
  rfl
 have:=eV qk h;rw[fu]at this;omega
def kMC{p:Nat->Prop}(h:∃ k,p k):∃ k,p k/\∀ j,j<k->¬ p j:=by
 obtain⟨k,b⟩:=h
 induction k using BG with
 | _ k ih =>
  by_cases c:∃ j,j<k/\p j
  ·obtain⟨j,a,hp⟩:=c
   exact ih j a hp
  ·exact⟨k,b,λ j a hp=>c ⟨j,a,hp⟩⟩
def rot_to{row:List Nat}(nd:row.Nodup){P:Nat->Prop}{y q:Nat}(r:y∈row)(h0:q∈row)(p0:P q)(st:∀ w v,w∈row->w≠y->xI row w=some v->P w->P v):P y:=by
 obtain⟨d,s,rfl⟩:=eO.mp r;obtain⟨l,u,rfl⟩:=eO.mp h0;have g:∀ i (h:i<row.length),row.idxOf row[i]=i:=λ i h=>(AH nd).mp (AF (fq (iR h)));have o:∀ i (h:i<row.length),i≠d->row[i]≠row[d]:=λ i h n z=>n ((AH nd).mp z)
 have step:∀ i (h:i+1<row.length),i+1≠d->P row[i+1]->P row[i]:=λ i h n p=>by
  refine st _ _ (iR h) (o _ h n) ?_ p;unfold xI;rw[g _ h,if_neg (by omega),show i+1-1=i by omega,ae (by omega)]
 have j:∀(h:0<row.length),0≠d->P row[0]->P (row[row.length-1]'(by omega)):=λ h n p=>by
  refine st _ _ (iR h) (o _ h n) ?_ p;unfold xI;rw[g _ h,if_pos rfl,uq,ae (by omega)]
 have f:∀ k i (h:i+k<row.length),(∀ t,i<t->t<=i+k->t≠d)->P row[i+k]->P (row[i]'(by omega)):=λ k=>by
  induction k with
  | zero=>exact λ i h _ p=>p
  | succ k ih =>
   intro i h n p;exact ih i (by omega) (λ t h1 m=>n t h1 (by omega)) (step (i+k) (by omega) (n _ (by omega) (by omega)) p)
 rcases iY l d with c | c
 ·have a:=f l 0 (by omega) (λ t h1 m=>by omega) (by simpa using p0)
  have b:=j (by omega) (by omega) a;have:=f (row.length-1-d) d (by omega) (λ t h1 m=>by omega) (by simpa[show d+(row.length-1-d)=row.length-1 by omega] using b);exact this
 ·have:=f (l-d) d (by omega) (λ t h1 m=>by omega) (by simpa[show d+(l-d)=l by omega] using p0)
  exact this
section
variable {W:Rows} {par dist:Nat->Nat}
theorem kGM(a:Nat->Nat):∀ n:Nat,∃ N,∀ v,v<n->a v<=N
 | 0=>⟨0,λ v h=>by omega⟩
 | n+1=>by
  obtain⟨N,h⟩:=kGM a n;refine⟨max N (a n),λ v b=>?_⟩;rcases iY v n with c | c
  ·have:=h v c
   omega
  ·rw[show v=n by omega]
   omega
def kOP(S:Nb W):∃ R:List (Nat×Nat),R.length=(facesS W).length/\(∀ r∈R,r∈kM W)/\(∀ t∈kM W,∃ i,∃(h:i<R.length),t∈rnd W R[i])/\∀ t i j (hi:i<R.length) (b:j<R.length),t∈rnd W R[i]->t∈rnd W R[j]->i=j:=by
 have sub:∀ t∈stepsS W,t∈kM W:=λ t d=>(sortP_perm _).mem_iff.mp d;have I:=fgo_ok S (stepsS W) sub;obtain⟨R,n,m,r3⟩:=I.reps
 have l:(facesS W).length=R.length:=by
  rw[show(facesS W).length=(uN W).length from(vE _).length_eq];show(fgo W (stepsS W)).1.length=_;rw[m,aj]
 have nd:=I.nd;rw[r3]at nd;have f:=(Ct.mp nd).2;refine⟨R,l.symm,λ r a=>sub r (n r a),λ t d=>?_,λ t i j hi b h1 g=>?_⟩
 ·have:=I.cov t ((sortP_perm _).mem_iff.mpr d)
  rw[r3]at this;obtain⟨r,a,h⟩:=vh.mp this;obtain⟨i,hi,rfl⟩:=eO.mp a;exact⟨i,hi,h⟩
 ·rcases yg i j with c | c | c
  ·exact absurd rfl (qb.mp f i j hi b c t h1 t g)
  ·exact c
  ·exact absurd rfl (qb.mp f j i b hi c t g t h1)
end
section
variable {W W':Rows}
end
section
variable {W W' L:Rows}
def kOQ{a:List Nat}(S:Nb L)(c:Nb W)(b:Ren L W a){x y:Nat}(e:E L x y):nxt W (a.getD x 0,a.getD y 0)=(a.getD (nxt L (x,y)).1 0,a.getD (nxt L (x,y)).2 0):=by
 obtain⟨z,f,d,_⟩:=xK S e;rw[d];exact aL c.nd (b.r_to f)
theorem ren_it{a:List Nat}(S:Nb L)(c:Nb W)(b:Ren L W a){t:Nat×Nat}(d:t∈kM L):∀ j,it (nxt W) j (a.getD t.1 0,a.getD t.2 0)=(a.getD (it (nxt L) j t).1 0,a.getD (it (nxt L) j t).2 0)
 | 0=>rfl
 | j+1=>by
  show nxt W (it (nxt W) j _)=_;rw[ren_it S c b d j];exact kOQ S c b (mem_steps.mp ((lV S).it j d))
end
section
variable {W W':Rows}
end
def RC(W:Rows)(C:List Nat):Nat->Nat->Prop
 | 0,v=>v∈C
 | k+1,v=>∃ u,RC W C k u/\E W u v
def kUO{W:Rows}{C:List Nat}{c v:Nat}(a:c∈C)(h:Reach W c v):∃ k,RC W C k v:=by
 induction h with
 | here=>exact⟨0,a⟩
 | more _ e ih =>
  obtain⟨k,b⟩:=ih;exact⟨k+1,_,b,e⟩
structure CTree(W:Rows)(C:List Nat)(par dist:Nat->Nat):Prop where
 e:∀ v,v<W.length->v∉C->E W (par v) v
 d:∀ v,v<W.length->v∉C->dist (par v)+1=dist v
def kNM{W:Rows}{C:List Nat}(f:∀ v,v<W.length->∃ c∈C,Reach W c v):∃ par dist,CTree W C par dist:=by
 have h1:∀ v,∃ k,v<W.length->RC W C k v/\∀ j,j<k->¬ RC W C j v:=λ v=>by
  by_cases c:v<W.length
  ·obtain⟨c0,l,r⟩:=f v c
   obtain⟨k,D⟩:=kMC (kUO l r);exact⟨k,λ _=>D⟩
  ·exact⟨0,λ z=>absurd z c⟩
 have d:=λ v=>rg (h1 v);generalize s:(λ v=>xa (h1 v))=dist at *
 have d:∀ v,v<W.length->RC W C (dist v) v/\∀ j,j<dist v->¬ RC W C j v:=λ v x=>by
  rw[<-s];exact d v x
 have i:∀ v,∃ u,v<W.length->v∉C->E W u v/\dist u+1=dist v:=λ v=>by
  by_cases c:v<W.length/\v∉C
  ·obtain⟨a,b⟩:=d v c.1
   cases e:dist v with
   | zero =>
    rw[e]at a;exact absurd a c.2
   | succ k =>
    rw[e]at a b;obtain⟨u,A,g⟩:=a
    have o:u<W.length:=by
     obtain⟨row,m,_⟩:=g;exact(ak.mp m).1
    obtain⟨q,p⟩:=d u o;refine⟨u,λ _ _=>⟨g,?_⟩⟩;have H:¬ k<dist u:=λ z=>p k z A;have G:¬ dist u+1<k+1:=λ z=>b _ z ⟨u,q,g⟩;omega
  ·exact⟨0,λ y B=>absurd ⟨y,B⟩ c⟩
 exact⟨λ v=>xa (i v),dist,λ v h n=>(rg (i v) h n).1,λ v h n=>(rg (i v) h n).2⟩
section
variable {W:Rows} {C:List Nat} {par dist:Nat->Nat} {lab:Nat->Nat->Nat}
def row_at(S:Nb W){z:Nat}(hz:z<W.length):∃ r,W[z]?=some r/\r.Nodup/\(∀ w,w∈r↔E W z w)/\∀ w v,xI r w=some v->nxt W (w,z)=(z,v):=by
 refine⟨W[z],ae hz,S.nd z _ (ae hz),λ w=>⟨λ m=>⟨_,ae hz,m⟩,λ⟨r,a,m⟩=>?_⟩,λ w v h=>?_⟩
 ·rw[ae hz]at a
  cases a
  exact m
 ·show(z,(xI (W.getD z []) w).getD 0)=(z,v)
  rw[ao,ae hz];show(z,(xI W[z] w).getD 0)=(z,v);rw[h]
  rfl
def Fit(W:Rows)(lab:Nat->Nat->Nat):Prop:=∀ x y v,E W x y->nxt W (x,y)=(y,v)->lab y v=lab x y
def kPV(S:Nb W)(T:CTree W C par dist)(n:Fit W lab)
  (l:∀ x y,E W x y->¬ ((y∉C/\par y=x)\/(x∉C/\par x=y)\/Nx C x y\/Nx C y x)->lab x y=lab y x):∀ x y,E W x y->¬ Nx C x y->¬ Nx C y x->lab x y=lab y x:=by
 obtain⟨N,I⟩:=kGM dist W.length
 have a:∀ k z,z<W.length->z∉C->N-dist z=k->lab (par z) z=lab z (par z):=λ k=>by
  induction k using BG with
  | _ k ih =>
   intro z m g Q;obtain⟨r,M,nd,mem,nx⟩:=row_at S m;have j:=T.e z m g;obtain⟨v,O,s,p⟩:=xK S j;refine(rot_to nd (P:=λ w=>lab z w=lab (par z) z) ((mem _).mpr (S.sym _ _ j)) ((mem v).mpr p) (n _ _ _ j s) λ w u H G L B=>?_).symm;have i:=(mem w).mp H
   have back:lab z w=lab w z:=by
    by_cases t:(w∉C/\par w=z)\/(z∉C/\par z=w)\/Nx C z w\/Nx C w z
    ·rcases t with⟨f,c⟩ | ⟨_,D⟩ | h | h
     ·have b:=(S.e i).2.1
      have o:=T.d w b f;rw[c]at o;have:=I w b;have q:=ih (N-dist w) (by omega) w b f rfl;rwa[c]at q
     ·exact absurd D.symm G
     ·exact absurd (kT h).1 g
     ·exact absurd (kT h).2 g
    ·exact l z w i t
   rw[n w z u (S.sym _ _ i) (nx w u L),<-back,B]
 intro x y e J A;by_cases t:(y∉C/\par y=x)\/(x∉C/\par x=y)\/Nx C x y\/Nx C y x
 ·rcases t with⟨h,rfl⟩ | ⟨h,rfl⟩ | h | h
  ·exact a _ y (S.e e).2.1 h rfl
  ·exact(a _ x (S.e e).1 h rfl).symm
  ·exact absurd h J
  ·exact absurd h A
 ·exact l x y e t
def rZ(S:Nb W)(i:Fit W lab)(f:∀ x y,E W x y->¬ Nx C x y->¬ Nx C y x->lab x y=lab y x){z w a:Nat}(hz:z∉C)(e:E W z w)(g:E W z a):lab z w=lab z a:=by
 obtain⟨r,j,nd,mem,nx⟩:=row_at S (S.e e).1;refine rot_to nd (P:=λ u=>lab z u=lab z a) ((mem w).mpr e) ((mem a).mpr g) rfl λ u v d _ c p=>?_;have b:=(mem u).mp d;rw[i u z v (S.sym _ _ b) (nx u v c),<-f z u b (λ h=>hz (kT h).1) (λ h=>hz (kT h).2)];exact p
def fR(S:Nb W)(nd:C.Nodup)(l:Fit W lab)(d:∀ p q,Nx C p q->E W p q)(s:∀ x y,E W x y->¬ Nx C x y->¬ Nx C y x->lab x y=lab y x){p c n:Nat}(h1:Nx C p c)(g:Nx C c n):lab c n=lab p c:=by
 have j:=d _ _ h1;have b:=d _ _ g;obtain⟨r,G,a,mem,nx⟩:=row_at S (S.e b).1;obtain⟨v,H,A,o⟩:=xK S j;refine rot_to a (P:=λ u=>lab c u=lab p c) ((mem n).mpr b) ((mem v).mpr o) (l _ _ _ j A) λ u v D m B q=>?_;have f:=(mem u).mp D;rw[l u c v (S.sym _ _ f) (nx u v B)];by_cases i:u=p
 ·rw[i]
 ·rw[<-s c u f (λ h=>m (jV nd h g)) (λ h=>i (yJ nd h h1))]
  exact q
def kPU(S:Nb W)(nd:C.Nodup)(l:Fit W lab)(i:∀ p q,Nx C p q->E W p q)(g:∀ x y,E W x y->¬ Nx C x y->¬ Nx C y x->lab x y=lab y x){p c n w:Nat}(h1:Nx C p c)(a:Nx C c n)(e:E W c w):lab c w=lab p c\/lab c w=lab n c:=by
 have f:=i _ _ a;obtain⟨r,A,b,mem,nx⟩:=row_at S (S.e f).1;refine rot_to b (P:=λ u=>lab c u=lab p c\/lab c u=lab n c) ((mem w).mpr e) ((mem n).mpr f) (.inl (fR S nd l i g h1 a)) λ u v o s m q=>?_;have j:=(mem u).mp o;rw[l u c v (S.sym _ _ j) (nx u v m)];by_cases un:u=n
 ·exact .inr (by rw[un])
 ·by_cases d:u=p
  ·exact .inl (by rw[d])
  ·rw[<-g c u j (λ h=>un (jV nd h a)) (λ h=>d (yJ nd h h1))]
   exact q
def kPW(S:Nb W)(T:CTree W C par dist)(nd:C.Nodup)(r:Fit W lab)(m:∀ p q,Nx C p q->E W p q)(j:∀ x y,E W x y->¬ Nx C x y->¬ Nx C y x->lab x y=lab y x){p q:Nat}(h:Nx C p q)(B:lab p q=lab q p) :
  ∀ x y,E W x y->lab x y=lab p q:=by
 have one:∀ c n,Nx C c n->lab c n=lab p q->lab n c=lab p q->∀ w,E W c w->lab c w=lab p q:=λ c n i a b w e=>by
  obtain⟨v,f⟩:=vF (kT i).1;have f:=zI nd (kT i).1 f;rcases kPU S nd r m j f i e with z | z
  ·rw[z,<-fR S nd r m j f i,a]
  ·rw[z,b]
 have s:∀ y∈C,∀ w,E W y w->lab y w=lab p q:=λ y A=>by
  refine rot_to nd (P:=λ c=>∀ w,E W c w->lab c w=lab p q) A (kT h).1 (one p q h rfl B.symm) λ c v g _ f z=>?_;have f:=zI nd g f;obtain⟨n,i⟩:=cW g;refine one v c f ?_ (z v (S.sym _ _ (m _ _ f)));rw[<-fR S nd r m j f i];exact z n (m _ _ i)
 have l:∀ k z,z<W.length->dist z=k->∀ w,E W z w->lab z w=lab p q:=λ k=>by
  induction k using BG with
  | _ k ih =>
   intro z u G w e;by_cases g:z∈C
   ·exact s z g w e
   ·have o:=T.e z u g
    have D:=T.d z u g;rw[rZ S r j g e (S.sym _ _ o),<-j _ _ o (λ h=>g (kT h).2) (λ h=>g (kT h).1)];exact ih _ (by omega) _ (S.e o).1 rfl _ o
 exact λ x y e=>l _ x (S.e e).1 rfl y e
def tN(v u:Nat):Nat×Nat:=if v<u then(v,u) else(u,v)
def kJQ{v u w x:Nat}(h:tN v u=tN w x):(v=w/\u=x)\/(v=x/\u=w):=by
 unfold tN at h
 split at h<;>split at h<;>injection h with h1 h2<;>omega
def kSR{v w:Nat}(nd:C.Nodup)(h1:Nx C v w)(c:Nx C w v):C.length<=2:=by
 have all:∀ x∈C,x=v\/x=w:=λ x b=>by
  refine rot_to nd (P:=λ x=>x=v\/x=w) b (kT h1).1 (.inl rfl) λ y u d _ a p=>?_;have a:=zI nd d a;rcases p with rfl | rfl
  ·exact .inr (yJ nd a c)
  ·exact .inl (yJ nd a h1)
 have:=eV nd (l₂:=[v,w]) λ x b=>by
  rcases all x b with rfl | rfl<;>simp
 simpa using this
def CtP(C:List Nat)(a:Nat->Nat)(t:Nat×Nat):Prop:=(t.2∉C/\a t.2=t.1)\/(t.1∉C/\a t.1=t.2)\/Nx C t.1 t.2\/Nx C t.2 t.1
open Classical in
def kBU(S:Nb W)(T:CTree W C par dist)(nd:C.Nodup)(N:3<=C.length)(B:∀ p q,Nx C p q->E W p q):W.length<=((tiesS W).filter λ t=>decide (CtP C par t)).length:=by
 have A:∀ v,∃ u,v<W.length->(v∈C/\Nx C v u)\/(v∉C/\u=par v):=λ v=>by
  by_cases c:v∈C
  ·obtain⟨u,L⟩:=cW c
   exact⟨u,λ _=>.inl ⟨c,L⟩⟩
  ·exact⟨par v,λ _=>.inr ⟨c,rfl⟩⟩
 have g:=λ v=>rg (A v);generalize J:(λ v=>xa (A v))=f at *
 have g:∀ v,v<W.length->(v∈C/\Nx C v (f v))\/(v∉C/\f v=par v):=λ v j=>by
  rw[<-J];exact g v j
 have s:((cf W.length).map λ v=>tN v (f v)).Nodup:=by
  refine me.mpr (Cc.imp_of_mem λ{a b} m l I e=>?_);have m:=iP.mp m;have l:=iP.mp l;rcases kJQ e with⟨z,_⟩ | ⟨x,y⟩
  ·omega
  ·rcases g a m with⟨o,h⟩ | ⟨o,h⟩<;>rcases g b l with⟨r,i⟩ | ⟨r,i⟩
   ·rw[y]at h
    rw[<-x]at i;have:=kSR nd h i;omega
   ·rw[y]at h
    exact r (kT h).2
   ·rw[<-x]at i
    exact o (kT i).2
   ·have H:=T.d a m o
    have D:=T.d b l r;rw[<-h,y]at H;rw[<-i,<-x]at D;omega
 have:=eV s (l₂:=(tiesS W).filter λ t=>decide (CtP C par t)) λ t G=>by
  obtain⟨v,j,rfl⟩:=fe.mp G;have j:=iP.mp j
  have two:E W v (f v)/\CtP C par (v,f v)/\CtP C par (f v,v):=by
   rcases g v j with⟨c,n⟩ | ⟨c,n⟩
   ·exact⟨B _ _ n,.inr (.inr (.inl n)),.inr (.inr (.inr n))⟩
   ·rw[n]
    exact⟨S.sym _ _ (T.e v j c),.inr (.inl ⟨c,rfl⟩),.inl ⟨c,rfl⟩⟩
  obtain⟨e,p1,p2⟩:=two;have M:=(S.e e).2.2;unfold tN tiesS;rw[ip,ip,mem_stepsS]
  split
  ·rename_i c
   exact⟨⟨e,decide_eq_true c⟩,decide_eq_true p1⟩
  ·rename_i c
   exact⟨⟨S.sym _ _ e,decide_eq_true (by show f v<v;omega)⟩,decide_eq_true p2⟩
 rw[aj,fu]at this;exact this
open Classical in
def kTE(S:Nb W)(g:∀ v,v<W.length->Reach W 0 v)(fl:W.length+(facesS W).length=(tiesS W).length+2)(nd:C.Nodup)(l3:3<=C.length)(G:∀ p q,Nx C p q->E W p q) :
  ∃ lab:Nat->Nat->Nat,Fit W lab/\(∀ x y,E W x y->¬ Nx C x y->¬ Nx C y x->lab x y=lab y x)/\∀ p q,Nx C p q->lab p q≠lab q p:=by
 refine eR λ no=>?_
 obtain⟨c0,o⟩ : ∃ c,c∈C:=by
  cases C with
  | nil=>simp at l3
  | cons c C=>exact⟨c,eP⟩
 obtain⟨c1,B⟩:=cW o;have M:=G _ _ B;have lc:=(S.e M).1;obtain⟨b,Y,T⟩:=kNM (C:=C) λ v hv=>⟨c0,o,(Reach.symm S.sym (g c0 lc)).trans (g v hv)⟩;obtain⟨R,lR,u,O,r⟩:=kOP S
 have j:∀ t,∃ i,t∈kM W->∃(h:i<R.length),t∈rnd W R[i]:=λ t=>by
  by_cases c:t∈kM W
  ·obtain⟨i,h,m⟩:=O t c
   exact⟨i,λ _=>⟨h,m⟩⟩
  ·exact⟨0,λ z=>absurd z c⟩
 have d:=λ t=>rg (j t);generalize hF:(λ t=>xa (j t))=a at *
 have d:∀ t,t∈kM W->∃(h:a t<R.length),t∈rnd W R[a t]:=λ t f=>by
  subst hF;exact d t f
 have H:∀ t,t∈kM W->a (nxt W t)=a t:=λ t f=>by
  obtain⟨h1,m1⟩:=d t f;have U:=kAG S (u _ (iR h1)) m1;have hs:=rnd_sub S (u _ (iR h1)) U;obtain⟨N,J⟩:=d _ hs;exact r _ _ _ N h1 J U
 have D:∀ i (h:i<R.length),a R[i]=i:=λ i h=>by
  have Q:=u _ (iR h);obtain⟨N,J⟩:=d _ Q;exact r _ _ _ N h J (rnd_self S Q)
 have st:∀ x y,E W x y->(x,y)∈kM W:=λ x y e=>mem_steps.mpr e
 have ls:R.length<=(((tiesS W).filter λ t=>!decide (CtP C b t)).map λ t=>(a t,a (t.2,t.1))).length+1:=by
  refine kDL (λ l s=>?_) λ m lm s i A=>?_
  ·obtain⟨t,f,rfl⟩:=fe.mp s
   have f:=(ip.mp f).1;unfold tiesS at f;have e:=mem_stepsS.mp (ip.mp f).1;exact⟨(d t (st _ _ e)).1,(d (t.2,t.1) (st _ _ (S.sym _ _ e))).1⟩
  ·have L:Fit W (λ x y=>m.getD (a (x,y)) 0):=λ x y v e n=>by
    have:=H _ (st x y e);rw[n]at this;show m.getD (a (y,v)) 0=_;rw[this]
   have X:=kPV (lab:=λ x y=>m.getD (a (x,y)) 0) S T L λ x y e Z=>by
    show m.getD (a (x,y)) 0=m.getD (a (y,x)) 0;have ne:=(S.e e).2.2;rcases iY x y with c | c
    ·exact s (a (x,y),a (y,x)) (fe.mpr ⟨(x,y),ip.mpr ⟨ip.mpr ⟨mem_stepsS.mpr e,decide_eq_true c⟩,by rw[decide_eq_false (show ¬ CtP C b (x,y) from Z)];rfl⟩,rfl⟩)
    ·have I:¬ CtP C b (y,x):=λ z=>Z (by
      rcases z with z | z | z | z
      ·exact .inr (.inl z)
      ·exact .inl z
      ·exact .inr (.inr (.inr z))
      ·exact .inr (.inr (.inl z)))
     exact(s (a (y,x),a (x,y)) (fe.mpr ⟨(y,x),ip.mpr ⟨ip.mpr ⟨mem_stepsS.mpr (S.sym _ _ e),decide_eq_true (by show y<x;omega)⟩,by rw[decide_eq_false I];rfl⟩,rfl⟩)).symm
   have ex:∃ p q,Nx C p q/\m.getD (a (p,q)) 0=m.getD (a (q,p)) 0:=eR λ z=>no ⟨_,L,X,λ p q h e=>z ⟨p,q,h,e⟩⟩;obtain⟨p,q,h,e⟩:=ex;have all:=kPW S T nd L G X h e
   have key:∀ i,i<R.length->m.getD i 0=m.getD (a (p,q)) 0:=λ i A=>by
    have e:E W R[i].1 R[i].2:=mem_steps.mp (u _ (iR A));have:=all _ _ e;rw[show(R[i].1,R[i].2)=R[i] from rfl,D i A]at this;exact this
   rw[key i A,key 0 (by omega)]
 have tc:=kBU S T nd l3 G
 have sum:((tiesS W).filter λ t=>decide (CtP C b t)).length+((tiesS W).filter λ t=>!decide (CtP C b t)).length=(tiesS W).length:=by
  have:∀ l:List (Nat×Nat),(l.filter λ t=>decide (CtP C b t)).length+(l.filter λ t=>!decide (CtP C b t)).length=l.length:=λ l=>by
   induction l with
   | nil=>rfl
   | cons t l ih =>
    rw[vy,vy]
    cases decide (CtP C b t)<;>simp<;>omega
  exact this _
 rw[aj]at ls;omega
end
section
variable {W:Rows} {C:List Nat} {lab:Nat->Nat->Nat}
def nx_mid(A:List Nat)(x y:Nat)(B:List Nat):Nx (A++x::y::B) x y:=by
 show Adj ((A++x::y::B)++(A++x::y::B).head?.toList) x y;rw[di];exact(qY A x _ x y).mpr (.inr (.inl ⟨rfl,rfl⟩))
theorem kGQ:∀{l:List Nat}{p q:Nat},Adj l.reverse p q->Adj l q p
 | [],_,_,h=>h.elim
 | [x],_,_,h=>h.elim
 | x::y::r,p,q,h=>by
  rw[vf,vf,di]at h;rcases(qY _ y [x] p q).mp h with h | h
  ·refine .inr (kGQ (l:=y::r) ?_)
   rw[vf];exact h
  ·rcases h with⟨rfl,rfl⟩ | h
   ·exact .inl ⟨rfl,rfl⟩
   ·exact h.elim
def kSY(S:Nb W)(l:Fit W lab){k t:Nat}{row A B:List Nat}(h:W[k]?=some row):∀(seg:List Nat),Ro row (A++seg++t::B)->(∀ z∈seg.tail,lab k z=lab z k)->∀ z∈seg,lab k z=lab t k:=by
 have one:∀(u v:Nat)(A B:List Nat),Ro row (A++u::v::B)->lab k u=lab v k:=λ u v A B c=>by
  have r:R W k u v:=⟨row,h,(c.nx u v).mpr (nx_mid A u v B)⟩;exact l v k u (S.sym _ _ (zF r).2) (aL S.nd r)
 suffices H:∀(n:Nat)(seg A B:List Nat)(t:Nat),seg.length=n->Ro row (A++seg++t::B)->(∀ z∈seg.tail,lab k z=lab z k)->∀ z∈seg,lab k z=lab t k from λ seg=>H _ seg A B t rfl
 intro n
 induction n with
 | zero =>
  intro seg A B t b _ _ z a;rw[pe.mp b]at a;cases a
 | succ n ih =>
  intro seg A B t b c g z a;have d:seg≠[]:=λ e=>by rw[e]at b;cases b
  obtain⟨I,u,rfl⟩ : ∃ I u,seg=I++[u]:=⟨seg.dropLast,seg.getLast d,(eK d).symm⟩;have f:lab k u=lab t k:=one u t (A++I) B (by simpa using c);rcases bz.mp a with m | m
  ·have j:I.length=n:=by simpa using b
   have q:=ih I A (t::B) u j (by simpa using c) (λ z a=>by
    cases I with
    | nil=>cases a
    | cons i I=>exact g z (by simp at a ⊢;exact .inl a)) z m
   rw[q,<-f]
   cases I with
   | nil=>cases m
   | cons i I=>exact(g u (by simp)).symm
  ·rw[cg.mp m]
   exact f
theorem kMH(S:Nb W)(d:Fit W lab){k:Nat}{row:List Nat}(c:W[k]?=some row):∀(seg A B:List Nat)(t:Nat),Ro row (A++t::(seg++B))->(∀ z∈seg,lab k z=lab z k)->∀ z∈seg,lab k z=lab k t
 | [],_,_,_,_,_,z,a=>by cases a
 | u::seg,A,B,t,ro,sy,z,a=>by
  have r:R W k t u:=⟨row,c,(ro.nx t u).mpr (nx_mid A t u _)⟩;have f:lab k t=lab u k:=d u k t (S.sym _ _ (zF r).2) (aL S.nd r);have b:lab k u=lab k t:=by rw[sy u (by simp),f]
  rcases eA.mp a with rfl | m
  ·exact b
  ·rw[<-b]
   exact kMH S d c seg (A++[t]) B u (by simpa using ro) (λ z a=>sy z (du _ a)) z m
theorem dA(S:Nb W)(o:Fit W lab)(i:∀ x y,E W x y->¬ Nx C x y->¬ Nx C y x->lab x y=lab y x){β:Nat}:∀(D:List Nat)(c:Nat),(∀ p q,Adj (c::D) p q->E W p q)->(∀ d∈D,d∉C)->(∀ d1,D.head?=some d1->lab c d1=β)->∀ d∈D,∀ w,E W d w->lab d w=β
 | [],_,_,_,_,d,f,_,_=>by cases f
 | d1::D,c,ad,nc,h1,d,f,w,e=>by
  have j:=ad c d1 (.inl ⟨rfl,rfl⟩);have g:=nc d1 (by simp);have a:=h1 d1 rfl;have b:lab d1 c=β:=by rw[<-i c d1 j (λ h=>g (kT h).2) (λ h=>g (kT h).1)];exact a
  have all:∀ w,E W d1 w->lab d1 w=β:=λ w e=>by rw[rZ S o i g e (S.sym _ _ j)];exact b
  rcases eA.mp f with rfl | m
  ·exact all w e
  ·exact dA S o i D d1 (λ p q h=>ad p q (.inr h)) (λ d f=>nc d (du _ f)) (λ n l=>by
    cases D with
    | nil=>cases l
    | cons d3 D =>
     cases l
     exact all n (ad d1 n (.inr (.inl ⟨rfl,rfl⟩)))) d m w e
def kQF(S:Nb W)(nd:C.Nodup)(o:Fit W lab)(l:∀ p q,Nx C p q->E W p q)(j:∀ x y,E W x y->¬ Nx C x y->¬ Nx C y x->lab x y=lab y x){p q b d:Nat}(h:Nx C p q)(h':Nx C b d):lab p q=lab b d:=by
 have:=rot_to nd (P:=λ c=>∀ n,Nx C c n->lab c n=lab b d) (kT h).1 (kT h').1 (λ n f=>by rw[jV nd f h']) (λ c v i _ a z n f=>by
  have a:=zI nd i a;have:=jV nd f a;subst this;obtain⟨m,g⟩:=cW i;rw[<-fR S nd o l j a g];exact z m g)
 exact this q h
end
section
variable {W:Rows} {T off:List Nat} {a b:Nat}
def kIS{W:Rows}(G:Good W):W.length+(facesS W).length=(tiesS W).length+2:=((three_cornered (Wb.of G).toNb).mpr (jC G)).1
def last_split{l:List Nat}{x:Nat}(h:l.getLast?=some x):∃ I,l=I++[x]:=by
 have a:l≠[]:=λ z=>by rw[z]at h;cases h
 rw[eo a]at h;exact⟨l.dropLast,by rw[<-bh h];exact(eK a).symm⟩
def head_split{l:List Nat}{x:Nat}(h:l.head?=some x):∃ I,l=x::I:=by
 cases l with
 | nil=>cases h
 | cons y l=>cases h;exact⟨l,rfl⟩
end
end Fc
namespace Tri
open Cyc Rnd
def kID{r:List Nat}{a b:Nat}(h:Nx r b a):Nx r.reverse a b:=by
 cases r with
 | nil=>exact h
 | cons x s =>
  rw[vf];refine(jF s.reverse [x] a b).mpr ?_;show Adj (x::s.reverse++[x]) a b;have e:x::s.reverse++[x]=(x::s++[x]).reverse:=by simp
  rw[e];refine mU ?_;rw[Ax];exact h
section
variable {W M:Rows}
def rY(S:Nb W)(a:∀ t∈kM W,(nxt W (nxt W t)).2=t.1)(h:Mir W M){x y:Nat}(e:E W x y):(nxt M (y,x)).2=(nxt W (x,y)).2:=by
 have r:=kLY S h;obtain⟨z,p,i,j⟩:=xK S e;have g:=a (x,y) (mem_steps.mpr e);have b:=a (y,z) (mem_steps.mpr j);rw[i]at g;have f:nxt W (y,z)=(z,x):=qv rfl g;rw[f]at b;obtain⟨u,G,D,_⟩:=xK S (zF p).2;obtain⟨v,r3,d,o⟩:=xK S j;rw[f]at d;have n:v=x:=(congrArg qh d).symm;subst n;obtain⟨w,s,A,_⟩:=xK S o
 have C:w=y:=by
  rw[A]at b;exact b
 subst C;obtain⟨row,l,nx⟩:=s;obtain⟨q,c,m,_⟩:=h.2 _ _ l;have B:R M v z w:=⟨q,c,(m.nx z w).mp (kID nx)⟩;rw[aL r.nd B,i]
def kPO(h:Mir W M):(kM M).length=(kM W).length:=by
 rw[jX,jX]
 congr 1
 refine AV λ i=>?_;rw[bb,bb];rcases iY i W.length with c | c
 ·obtain⟨a,d,b,_⟩:=h.2 i _ (ae c)
  rw[d,ae c];show some a.length=some W[i].length;rw[<-b.perm.length_eq,wz]
 ·rw[jr (by rw[h.1];exact c),jr c]
def kIF(S:Nb W)(a:∀ t∈kM W,(nxt W (nxt W t)).2=t.1)(h:Mir W M):∀ t∈kM M,(nxt M (nxt M t)).2=t.1:=λ t n=>by
 obtain⟨p,q⟩:=t;have e:E W q p:=S.sym _ _ ((lZ h p q).mp (mem_steps.mp n));have f:=rY S a h e;obtain⟨z,s,i,c⟩:=xK S e;rw[i]at f;have m:nxt M (p,q)=(q,z):=qv rfl f;rw[m];have g:=a (q,p) (mem_steps.mpr e);rw[i]at g;have b:nxt W (p,z)=(z,q):=qv rfl g
 have o:E W z q:=by
  obtain⟨v,_,j,r⟩:=xK S c;rw[b]at j;have:=congrArg qh j;simp only at this;rw[this];exact r
 have l:=rY S a h o;rw[l];have d:=a (p,z) (mem_steps.mpr c);rw[b]at d;exact d
def kPN(h:Mir W M)(x y:Nat):y∈M.getD x []↔y∈W.getD x []:=by
 have g:∀{L:Rows},y∈L.getD x []↔E L x y:=λ{L}=>by
  rw[ao];constructor
  ·intro m
   cases e:L[x]? with
   | none=>rw[e]at m;cases m
   | some row=>rw[e]at m;exact⟨row,e,m⟩
  ·rintro⟨row,e,m⟩
   rw[e];exact m
 rw[g,g,lZ h]
end
section
variable {W V:Rows} {ns:List Nat}
def kLD(S:Nb W)(a:Nb V)(h:Ren W V ns){x y:Nat}(e:E W x y):(nxt V (ns.getD x 0,ns.getD y 0)).2=ns.getD (nxt W (x,y)).2 0:=by
 have:=Fc.ren_it S a h (mem_steps.mpr e) 1;exact congrArg qh this
def kOR(S:Nb W)(h:Ren W V ns)(x y:Nat)(d:x<W.length)(l:y<W.length):ns.getD y 0∈V.getD (ns.getD x 0) []↔y∈W.getD x []:=by
 have g:∀{L:Rows}{a b:Nat},b∈L.getD a []↔E L a b:=λ{L a b}=>by
  rw[ao];constructor
  ·intro m
   cases e:L[a]? with
   | none=>rw[e]at m;cases m
   | some row=>rw[e]at m;exact⟨row,e,m⟩
  ·rintro⟨row,e,m⟩
   rw[e];exact m
 rw[g,g];constructor
 ·intro e
  obtain⟨a,b,r,j,i⟩:=h.e_of e;have c:=(S.e r).1;have f:=(S.e r).2.1;rw[h.inj d c j,h.inj l f i];exact r
 ·exact λ e=>h.e_to e
end
section
variable {W W':Rows}
def vD{a b:Nat}(S:Nb W)(e:E W a b):Top W [a,b] [a,b]:=by
 refine⟨?_,λ x c=>c,λ x y ad=>?_⟩
 ·have:=(S.e e).2.2
  simp[this.symm]
 ·rcases ad with⟨rfl,rfl⟩ | z
  ·exact e
  ·exact absurd z id
def uT{a b c:Nat}{d:List Nat}{j l:List (List Nat)}(o:3<=d.length)(h:jR W a b c d=some (j,l)):∃ r,d=a::b::r/\r.getLast?=some c/\goF W d r.length=some (j,l):=by
 unfold jR at h
 split at h
 ·rename_i q
  obtain⟨g,i,f⟩:=q
  match d,o,g,i,f,h with
  | x::y::z::r,_,g,i,f,h =>
   have m:x=a:=bh g;have n:y=b:=bh i;subst m;subst n;refine⟨z::r,rfl,?_,h⟩;rw[ig,ig]at f;exact f
 ·cases h
def kFU{a b c:Nat}{r:List Nat}(h:r.getLast?=some c):jR W a b c (a::b::r)=goF W (a::b::r) r.length:=by
 unfold jR;refine if_pos ⟨rfl,rfl,?_⟩
 match r,h with
 | z::r,h=>rw[ig,ig];exact h
def kMG{a b c:Nat}{f:List Nat}{i j:List (List Nat)}(S:Nb W)(d:∀ t∈kM W,(nxt W (nxt W t)).2=t.1)(l:Mir W W')(e:E W a b)(g:f.Nodup)(n:3<=f.length)(h:jR W a b c f=some (i,j)) :
  ∃ r,f=a::b::r/\jR W' b a c (b::a::r)=some (i.map fc,j.map fc):=by
 obtain⟨r,rfl,m,h⟩:=uT n h;refine⟨r,rfl,?_⟩;rw[kFU m];exact kQD (kPN l) (λ x y z=>rY S d l z) S.sym g (vD S e) (bf _) h
def kMF{a b c:Nat}{f d:List Nat}{p q:List (List Nat)}(S:Nb W)(u:Nb W')(j:Ren W W' d)(e:E W a b)(o:f.Perm (cf W.length))(B:3<=W.length)(h:jR W a b c f=some (p,q)) :
  jR W' (d.getD a 0) (d.getD b 0) (d.getD c 0) (f.map λ x=>d.getD x 0)=some (p.map (·.map λ x=>d.getD x 0),q.map (·.map λ x=>d.getD x 0)):=by
 have l:f.Nodup:=o.nodup_iff.mpr qk;have A:f.length=W.length:=by rw[o.length_eq,fu]
 have v:∀ x∈f,x<W.length:=λ x i=>iP.mp (o.mem_iff.mp i);obtain⟨r,rfl,s,h⟩:=uT (by omega) h;have:=kQC (g:=λ x=>d.getD x 0) (n:=W.length) (λ x y i m z=>j.inj i m z) (λ x y i m=>kOR S j x y i m) (λ x y z=>kLD S u j z) S.sym l v (vD S e) (by simp) h;rw[eZ,eZ,kFU (by rw[Bw,s];rfl),aj];exact this
end
end Tri
namespace Fc
open Tri Cyc Rnd
section
variable {W:Rows}
def mem_row{x y:Nat}(h:E W x y):y∈W.getD x []:=by
 obtain⟨row,e,m⟩:=h;rw[ao,e];exact m
end
end Fc
namespace Tri
open Cyc Rnd
def mvS(S:List (Nat×Int×Int))(G:List Nat)(a:Int):List (Nat×Int×Int):=S.map λ s=>if s.1∈G then(s.1,s.2.1+a,s.2.2) else s
def ovr(l r:Int×Int):Int×Int:=(l.1+(r.1-l.1+r.2-l.2) / 2,l.2+(r.1-l.1+r.2-l.2) / 2)
def atS(S:List (Nat×Int×Int))(p:Nat):Int×Int:=((S.find? λ s=>s.1 == p).map (·.2)).getD (0,0)
def gst(S:List (Nat×Int×Int))(U:Nat->List Nat)(v:Nat)(F T:List Nat):List (Nat×Int×Int)×(Nat->List Nat) :=
 let S2:=mvS (mvS S (F.tail.dropLast.flatMap U) 1) ((T.drop (T.idxOf (F.getLastD 0))).flatMap U) 2
 let q:=ovr (atS S2 (F.headD 0)) (atS S2 (F.getLastD 0))
 (S2++[(v,q.1,q.2)],λ p=>if p=v then v::F.tail.dropLast.flatMap U else U p)
def gF(a:List Nat)(b c:List (List Nat)):Nat->List (Nat×Int×Int)×(Nat->List Nat)
 | 0=>((a.take 2).map λ p=>(p,0,0),λ p=>[p])
 | i+1=>gst (gF a b c i).1 (gF a b c i).2 (a.getD (i+2) 0) (b.getD i []) (c.getD i [])
def qC(S:List (Nat×Int×Int))(G:List Nat)(b:Int):(mvS S G b).map (·.1)=S.map (·.1):=by
 unfold mvS;rw[sh];refine um λ s _=>?_;show(if s.1∈G then _ else _:Nat×Int×Int).1=s.1
 split<;>rfl
def kFR(S:List (Nat×Int×Int))(G:List Nat)(b:Int):(mvS S G b).length=S.length:=by unfold mvS;rw[aj]
def sX{S:List (Nat×Int×Int)}{p:Nat}(h:p∈S.map (·.1)):(p,atS S p)∈S:=by
 unfold atS
 cases e:S.find? λ s=>s.1 == p with
 | none =>
  obtain⟨s,b,rfl⟩:=fe.mp h;have:=Bg.mp e s b;simp at this
 | some s =>
  have h1:=List.mem_of_find?_eq_some e;have a:=List.find?_some e;have a:s.1=p:=by simpa using a
  rw[<-a];exact h1
section
variable {W:Rows}
def bV(sym:∀ a b,E W a b->E W b a){n:List Nat}(q:n.Nodup)(h0:Top W (n.take 2) (n.take 2)) :
  ∀{i:Nat}{fs ts:List (List Nat)},i+2<=n.length->goF W n i=some (fs,ts)->∀(k:Nat)(F T o:List Nat),fs[k]?=some F->ts[k]?=some T->ts[k+1]?=some o->Top W (n.take (k+2)) T/\∃ B f M l C,F=f::M++[l]/\T=B++(f::M++[l])++C/\o=B++[f,n.getD (k+2) 0,l]++C:=by
 intro i
 induction i with
 | zero =>
  intro fs ts _ h k F T o e;unfold goF at h;have h:=bh h;injection h with h1 h2
  rw[<-h1]at e;simp at e
 | succ i ih =>
  intro fs ts D h k F T o g d m;obtain⟨y,p,e⟩:=wD (i:=i) (j:=1) h;obtain⟨st,z,A,x⟩:=yX e h;have TT:=vK q sym h0 (by omega) e;obtain⟨G,lt⟩:=xD e;obtain⟨B,f,M,l,C,s,r,mem,H⟩:=wL TT.nd z;rw[A]at g;rw[x]at d m;rcases iY k i with c | c
  ·rw[bq (by omega)]at g d m
   exact ih (by omega) e k F T o g d m
  ·have v:k=i:=by
    have:=(ak.mp g).1;rw[bu,fj]at this;omega
   subst v
   have u:p[k]?=some (p.getLastD []):=by
    rw[iS,uq,show p.length-1=k by omega,ae (by omega)]
    rfl
   rw[cq (by omega),show k-y.length=0 by omega]at g;rw[bq (by omega),u]at d;rw[cq (by omega),show k+1-p.length=0 by omega]at m;have g:=bh g;have d:=bh d;have m:=bh m;refine⟨by rw[<-d];exact TT,B,f,M,l,C,by rw[<-g,s],by rw[<-d,r],?_⟩;rw[<-m,s];exact zW r TT.nd
structure GI(ms:List Nat)(Ts:List (List Nat))(i:Nat)(S:List (Nat×Int×Int))(U:Nat->List Nat):Prop where
 fst:S.map (·.1)=ms.take (i+2)
 nd:((Ts.getD i []).flatMap U).Nodup
 sub:∀ x∈(Ts.getD i []).flatMap U,x∈ms.take (i+2)
 few:∀ p∈ms.take (i+2),(U p).length<=i+2
def kDO(S:Nb W)(N:∀ t∈kM W,(nxt W (nxt W t)).2=t.1){d:List Nat}{a b n:Nat}{s g:List (List Nat)}(y:d.Nodup)(e2:d.take 2=[a,b])(A:E W a b)(hn:n+2<=d.length)(J:goF W d n=some (s,g)):∀ i,i<=n->GI d g i (gF d s g i).1 (gF d s g i).2:=by
 have h0:Top W (d.take 2) (d.take 2):=by rw[e2];exact vD S A
 obtain⟨lf,lt⟩:=xD J
 have t0:g[0]?=some [a,b]:=by
  have:∀{i:Nat}{fs G:List (List Nat)},goF W d i=some (fs,G)->G[0]?=some (d.take 2):=by
   intro i
   induction i with
   | zero =>
    intro fs G q;unfold goF at q;have q:=bh q;injection q with q1 u
    rw[<-u]
    rfl
   | succ i ih =>
    intro fs G q;obtain⟨f2,t2,u⟩:=wD (i:=i) (j:=1) q;obtain⟨a0,z2,q3,q4⟩:=yX u q;have:=(xD u).2;rw[q4,bq (by omega)];exact ih u
  rw[this J,e2]
 have ab:a≠b:=λ q=>(S.e A).2.2 q.symm;intro i
 induction i with
 | zero =>
  intro _;have T:g.getD 0 []=[a,b]:=by rw[ao,t0];rfl
  refine⟨?_,?_,?_,λ p _=>?_⟩
  ·show((d.take 2).map λ p=>(p,(0:Int),(0:Int))).map (·.1)=d.take 2
   rw[sh];exact GZ _
  ·rw[T]
   show([a,b].flatMap λ p=>[p]).Nodup;simp[ab]
  ·rw[T,e2]
   show ∀ x∈[a,b].flatMap λ p=>[p],_;simp
  ·show[p].length<=2
   simp
 | succ i ih =>
  intro hi;have I:=ih (by omega);have get:∀(L:List (List Nat))(j:Nat),j<L.length->L[j]?=some (L.getD j []):=λ L j h=>by rw[ao,ae h];rfl
  obtain⟨H,B,f,M,l,C,eF,Q,O⟩:=bV S.sym y h0 hn J i _ _ _ (get s i (by omega)) (get g i (by omega)) (get g (i+1) (by omega));have ga:d[i+2]?=some (d.getD (i+2) 0):=by rw[ao,ae (by omega)];rfl
  have tk:d.take (i+1+2)=d.take (i+2)++[d.getD (i+2) 0]:=by rw[jd,ga];rfl
  have Y:d.getD (i+2) 0∉d.take (i+2):=yO y (by omega) (by omega);have m:∀ x∈g.getD i [],x≠d.getD (i+2) 0:=λ x o q=>Y (q ▸ H.sub x o);have Z:(d.take (i+2)).length=i+2:=by rw[dq];omega
  generalize X:d.getD (i+2) 0=v at *;generalize hU:(gF d s g i).2=U at *;have fM:(s.getD i []).tail.dropLast=M:=by rw[eF];simp
  have gU:(gF d s g (i+1)).2=λ p=>if p=v then v::M.flatMap U else U p:=by
   show(gst _ _ _ _ _).2=_;unfold gst;rw[hU,X,fM]
  have same:∀ L:List Nat,(∀ x∈L,x≠v)->(L.flatMap λ p=>if p=v then v::M.flatMap U else U p)=L.flatMap U:=λ L h=>by
   show(L.map _).flatten=(L.map _).flatten
   congr 1
   refine um λ x o=>?_;rw[if_neg (h x o)]
  have inT:∀ x,(x∈B\/x=f\/x∈M\/x=l\/x∈C)->x∈g.getD i []:=λ x o=>by
   rw[Q];simp only[bz,eA,ml,or_false];rcases o with h | h | h | h | h
   ·exact .inl (.inl h)
   ·exact .inl (.inr (.inl (.inl h)))
   ·exact .inl (.inr (.inl (.inr h)))
   ·exact .inl (.inr (.inr h))
   ·exact .inr h
  have D:(g.getD i []).flatMap U=B.flatMap U++(U f++(M.flatMap U++(U l++C.flatMap U))):=by
   rw[Q];simp[qi,AZ,di]
  have r:((g.getD (i+1) []).flatMap λ p=>if p=v then v::M.flatMap U else U p)=B.flatMap U++(U f++(v::(M.flatMap U++(U l++C.flatMap U)))):=by
   rw[O,qi,qi,same B λ x o=>m x (inT x (.inl o)),same C λ x o=>m x (inT x (.inr (.inr (.inr (.inr o)))))];rw[AZ,AZ,AZ,List.flatMap_nil,if_neg (m f (inT f (.inr (.inl rfl)))),if_pos rfl,if_neg (m l (inT l (.inr (.inr (.inr (.inl rfl))))))];simp[di]
  have perm:(B.flatMap U++(U f++(v::(M.flatMap U++(U l++C.flatMap U))))).Perm (v::(g.getD i []).flatMap U):=by
   rw[D,<-di,<-di (B.flatMap U)];exact CL
  have vn:v∉(g.getD i []).flatMap U:=λ h=>Y (I.sub v h);rw[gU];refine⟨?_,?_,λ x o=>?_,λ p hp=>?_⟩
  ·show((gst _ _ _ _ _).1).map (·.1)=_
   unfold gst;rw[cu,qC,qC,I.fst,tk,X]
   rfl
  ·rw[r]
   exact perm.nodup_iff.mpr (gh.mpr ⟨vn,I.nd⟩)
  ·rw[r]at o
   rw[tk];rcases eA.mp (perm.mem_iff.mp o) with rfl | h
   ·exact dc _ (cg.mpr rfl)
   ·exact df _ (I.sub x h)
  ·show(if p=v then v::M.flatMap U else U p).length<=_
   split
   ·have h1:=eV I.nd λ x o=>I.sub x o
    rw[Z,D]at h1;simp only[bu]at h1;rw[iJ];omega
   ·rename_i c
    rw[tk]at hp;rcases bz.mp hp with h | h
    ·have:=I.few p h
     omega
    ·exact absurd (cg.mp h) c
end
theorem cI:∀{l:List Nat}{x:Nat},x∈l.tail->∃ y,Adj l y x
 | [],_,h=>by cases h
 | [_],_,h=>by cases h
 | a::b::r,x,h=>by
  rcases eA.mp h with rfl | h
  ·exact⟨a,.inl ⟨rfl,rfl⟩⟩
  ·obtain⟨y,c⟩:=cI (l:=b::r) (x:=x) h
   exact⟨y,.inr c⟩
section
variable {W:Rows}
def qT(S:Nb W)(a:∀ t∈kM W,(nxt W (nxt W t)).2=t.1){x y:Nat}(h:E W x y):∃ z,nxt W (x,y)=(y,z)/\nxt W (y,z)=(z,x)/\nxt W (z,x)=(x,y)/\E W y z/\E W z x:=by
 obtain⟨z,l,i,c⟩:=xK S h;have g:=a _ (mem_steps.mpr h);have f:=a (y,z) (mem_steps.mpr c);rw[i]at g;have b:nxt W (y,z)=(z,x):=qv rfl g;rw[b]at f;obtain⟨q,_,d,j⟩:=xK S c;rw[b]at d;have:x=q:=congrArg qh d;subst this;exact⟨z,i,b,qv rfl f,c,j⟩
structure Bd(W:Rows)(A T:List Nat)(a b:Nat):Prop where
 up:∀ x y,Adj T x y->(nxt W (x,y)).2∉A
 all:∀ x y,x∈A->y∈A->E W x y->(nxt W (x,y)).2∉A->Adj T x y\/(x=b/\y=a)
def Bd.start(S:Nb W)(c:∀ t∈kM W,(nxt W (nxt W t)).2=t.1){a b:Nat}(e:E W a b):Bd W [a,b] [a,b] a b:=by
 refine⟨λ x y ad=>?_,λ x y f g h _=>?_⟩
 ·rcases ad with⟨rfl,rfl⟩ | z
  ·obtain⟨z,n,p,o,i,m⟩:=qT S c e
   rw[n];have l:=(S.e i).2.2;have j:=(S.e m).2.2;simp only[eA,ml,or_false];rintro(q | q)
   ·exact j q.symm
   ·exact l q
  ·exact z.elim
 ·have d:=(S.e h).2.2
  simp only[eA,ml,or_false]at f g;rcases f with rfl | rfl<;>rcases g with rfl | rfl
  ·exact absurd rfl d
  ·exact .inl (.inl ⟨rfl,rfl⟩)
  ·exact .inr ⟨rfl,rfl⟩
  ·exact absurd rfl d
def Bd.step(S:Nb W)(d:∀ t∈kM W,(nxt W (nxt W t)).2=t.1){A T B M C:List Nat}{a b c f l v:Nat}(h:Bd W A T a b)(a1:T.Nodup)(sub:∀ x∈T,x∈A)(g:∀ x y,Adj T x y->E W x y)(bc:(nxt W (b,a)).2=c)(vc:v≠c)(vA:v∉A)
  (eT:T=B++(f::M++[l])++C) (mem:∀ q,q∈f::M++[l]↔q∈A/\E W v q) (nz:∀ x y,Adj (f::M++[l]) x y->(nxt W (x,y)).2=v):Bd W (A++[v]) (B++[f,v,l]++C) a b:=by
 have I:∀ x y,Adj T x y↔Adj (B++[f]) x y\/Adj (f::M++[l]) x y\/Adj (l::C) x y:=λ x y=>by
  have i:T=B++f::(M++l::C):=by rw[eT];simp
  rw[i,qY B f (M++l::C) x y,show f::(M++l::C)=(f::M)++l::C from rfl,qY (f::M) l C x y]
 have o:∀ x y,Adj (B++[f,v,l]++C) x y↔Adj (B++[f]) x y\/(x=f/\y=v)\/(x=v/\y=l)\/Adj (l::C) x y:=λ x y=>by
  have i:B++[f,v,l]++C=B++f::(v::l::C):=by simp
  rw[i,qY B f (v::l::C) x y];exact BL
 have d0:=a1;rw[eT]at d0;have d1:=cy.mp d0;have d2:=cy.mp d1.1
 have hB:∀ x,x∈B++[f]->x∈f::M++[l]->x=f:=λ x h1 h2=>by
  rcases bz.mp h1 with h1 | h1
  ·exact absurd rfl (d2.2.2 x h1 x h2)
  ·exact cg.mp h1
 have hC:∀ x,x∈l::C->x∈f::M++[l]->x=l:=λ x h1 h2=>by
  rcases eA.mp h1 with h1 | h1
  ·exact h1
  ·exact absurd rfl (d1.2.2 x (dc _ h2) x h1)
 have fF:f∈f::M++[l]:=by simp
 have lF:l∈f::M++[l]:=by simp
 have new:∀ x y,Adj T x y->x∉(f::M++[l])\/y∉(f::M++[l])->(nxt W (x,y)).2≠v:=λ x y ad G q=>by
  have U:=g x y ad;obtain⟨z,H,Q,O,i,m⟩:=qT S d U;rw[H]at q;have q:z=v:=q;subst q;have Z:=sub x (qI ad).1;have N:=sub y (ql (qI ad).2);rcases G with G | G
  ·exact G ((mem x).mpr ⟨Z,m⟩)
  ·exact G ((mem y).mpr ⟨N,S.sym _ _ i⟩)
 have sv:∀{x y},x∈A->y∈A->x≠v/\y≠v:=λ Z N=>⟨λ q=>vA (q ▸ Z),λ q=>vA (q ▸ N)⟩;refine⟨λ x y ad=>?_,λ x y Z N U ht=>?_⟩
 ·have X:Adj T x y->(x∉(f::M++[l])\/y∉(f::M++[l]))->(nxt W (x,y)).2∉A++[v]:=λ ad G z=>by
   rcases bz.mp z with z | z
   ·exact h.up x y ad z
   ·exact new x y ad G (cg.mp z)
  rcases(o x y).mp ad with q | ⟨rfl,rfl⟩ | ⟨rfl,rfl⟩ | q
  ·have n:=(I x y).mpr (.inl q)
   refine X n ?_;by_cases Y:x∈f::M++[l]
   ·right
    intro c2;have i:=hB x (qI q).1 Y;have m:=hB y (ql (qI q).2) c2;exact(S.e (g x y n)).2.2 (m.trans i.symm)
   ·exact .inl Y
  ·obtain⟨a5,a3⟩:=(mem x).mp fF
   obtain⟨u,H,Q,O,i,m⟩:=qT S d (S.sym _ _ a3);rw[H];intro z;rcases bz.mp z with z | z
   ·have uF:=(mem u).mpr ⟨z,i⟩
    have L:(nxt W (u,x)).2=y:=by rw[O]
    rcases h.all u x z a5 m (by rw[L];exact vA) with q | ⟨rfl,rfl⟩
    ·have D:=(S.e m).2.2
     rcases(I u x).mp q with q | q | q
     ·exact D (hB u (qI q).1 uF).symm
     ·exact(gh.mp d2.2.1).1 (qI q).2
     ·have:x∈C:=(qI q).2
      exact d1.2.2 x (dc _ fF) x this rfl
    ·rw[bc]at L
     exact vc L.symm
   ·have:=cg.mp z
    exact(S.e i).2.2 this
  ·obtain⟨a4,a2⟩:=(mem y).mp lF
   obtain⟨u,H,Q,O,i,m⟩:=qT S d a2;rw[H];intro z;rcases bz.mp z with z | z
   ·have uF:=(mem u).mpr ⟨z,S.sym _ _ m⟩
    have L:(nxt W (y,u)).2=x:=by rw[Q]
    rcases h.all y u a4 z i (by rw[L];exact vA) with q | ⟨rfl,rfl⟩
    ·have D:=(S.e i).2.2
     rcases(I y u).mp q with q | q | q
     ·have:=hB y (qI q).1 lF
      have hu:=hB u (ql (qI q).2) uF;exact D (hu.trans this.symm)
     ·have:∀{p q:Nat},Adj (f::M++[y]) p q->p≠y:=λ G=>yA (R:=f::M) (λ w=>by
       have:=cy.mp d2.2.1;exact this.2.2 y w y (cg.mpr rfl) rfl) G
      exact this q rfl
     ·have:=hC u (du _ (qI q).2) uF
      exact D this
    ·rw[bc]at L
     exact vc L.symm
   ·have:=cg.mp z
    exact(S.e m).2.2 this.symm
  ·have n:=(I x y).mpr (.inr (.inr q))
   refine X n ?_;by_cases Y:x∈f::M++[l]
   ·right
    intro c2;have i:=hC x (qI q).1 Y;have m:=hC y (du _ (qI q).2) c2;exact(S.e (g x y n)).2.2 (m.trans i.symm)
   ·exact .inl Y
 ·have r:(nxt W (x,y)).2∉A:=λ z=>ht (df _ z)
  have a0:(nxt W (x,y)).2≠v:=λ z=>ht (dc _ (cg.mpr z));have xy:=(S.e U).2.2;rcases bz.mp Z with s | s
  ·rcases bz.mp N with j | j
   ·rcases h.all x y s j U r with q | q
    ·rcases(I x y).mp q with q | q | q
     ·exact .inl ((o x y).mpr (.inl q))
     ·exact absurd (nz x y q) a0
     ·exact .inl ((o x y).mpr (.inr (.inr (.inr q))))
    ·exact .inr q
   ·have yv:=cg.mp j
    subst yv;have xF:=(mem x).mpr ⟨s,S.sym _ _ U⟩;by_cases xf:x=f
    ·exact .inl ((o x y).mpr (.inr (.inl ⟨xf,rfl⟩)))
    ·have:x∈(f::M++[l]).tail:=by
      rcases eA.mp xF with q | q
      ·exact absurd q xf
      ·exact q
     obtain⟨p,J⟩:=cI this;obtain⟨z,H,Q,O,i,m⟩:=qT S d (g p x ((I p x).mpr (.inr (.inl J))))
     have zv:z=y:=by
      have:=nz p x J;rw[H]at this;exact this
     subst zv;rw[Q]at r;exact absurd ((mem p).mp (qI J).1).1 r
  ·have xv:=cg.mp s
   subst xv;rcases bz.mp N with j | j
   ·have yF:=(mem y).mpr ⟨j,U⟩
    by_cases yl:y=l
    ·exact .inl ((o x y).mpr (.inr (.inr (.inl ⟨rfl,yl⟩))))
    ·have yP:y∈f::M:=by
      rcases bz.mp yF with q | q
      ·exact q
      ·exact absurd (cg.mp q) yl
     obtain⟨p,J⟩:=kBY (l:=l) yP;obtain⟨z,H,Q,O,i,m⟩:=qT S d (g y p ((I y p).mpr (.inr (.inl J))))
     have zv:z=x:=by
      have:=nz y p J;rw[H]at this;exact this
     subst zv;rw[O]at r;exact absurd ((mem p).mp (ql (qI J).2)).1 r
   ·exact absurd (cg.mp j) xy
end
end Tri
namespace Fc
open Cyc Rnd Tri
theorem mV:∀{l:List Nat}{p q:Nat}(s:List Nat),Adj l p q->Adj (l++s) p q
 | [],_,_,_,h=>h.elim
 | [_],_,_,_,h=>h.elim
 | i::j::l,p,q,s,h=>by
  rcases h with h | h
  ·exact .inl h
  ·exact .inr (mV (l:=j::l) s h)
def adj_nx{l:List Nat}{p q:Nat}(r:List Nat)(h:Adj l p q):Nx (l++r) p q:=by
 show Adj (l++r++_) p q;rw[di];exact mV _ h
section
variable {W:Rows} {T off:List Nat} {a b:Nat}
end
end Fc
namespace Tri
open Cyc Rnd
section
variable {W:Rows}
def kTK(S:Nb W)(g:∀ t∈kM W,(nxt W (nxt W t)).2=t.1){d:List Nat}{a b c:Nat}(o:d.Nodup)(e2:d.take 2=[a,b])(p:E W a b)(A:(nxt W (b,a)).2=c)(J:c∉d) :
  ∀{i:Nat}{fs ts:List (List Nat)},i+2<=d.length->goF W d i=some (fs,ts)->Bd W (d.take (i+2)) (ts.getLastD []) a b:=by
 have h0:Top W (d.take 2) (d.take 2):=by rw[e2];exact vD S p
 intro i
 induction i with
 | zero =>
  intro fs ts _ h;unfold goF at h;have h:=bh h;injection h with h1 h2
  rw[<-h2];show Bd W (d.take 2) (d.take 2) a b;rw[e2];exact Bd.start S g p
 | succ i ih =>
  intro fs ts L h;obtain⟨N,O,e⟩:=wD (i:=i) (j:=1) h;obtain⟨st,z,Q,G⟩:=yX e h;have TT:=vK o S.sym h0 (by omega) e;have I:d.getD (i+2) 0∉d.take (i+2):=yO o (by omega) (by omega);have v:d[i+2]?=some (d.getD (i+2) 0):=by rw[ao,ae (by omega)];rfl
  have tk:d.take (i+1+2)=d.take (i+2)++[d.getD (i+2) 0]:=by rw[jd,v];rfl
  have D:d.getD (i+2) 0≠c:=λ q=>J (q ▸ dh v);obtain⟨B,f,M,l,C,s,u,mem,H⟩:=wL TT.nd z
  have n:ts.getLastD []=B++[f,d.getD (i+2) 0,l]++C:=by
   rw[G,bP,s];exact zW u TT.nd
  rw[n,tk];refine Bd.step (c:=c) S g (ih (by omega) e) TT.nd TT.sub TT.path A D I u (λ q=>?_) (λ x y ad=>?_)
  ·rw[<-s,mem q]
   constructor
   ·rintro⟨r,m⟩
    refine⟨r,?_⟩;rw[ao]at m
    cases w:W[d.getD (i+2) 0]? with
    | none=>rw[w]at m;cases m
    | some row=>rw[w]at m;exact⟨row,w,m⟩
   ·rintro⟨r,m⟩
    exact⟨r,Fc.mem_row m⟩
  ·exact H (x,y) (by rw[s];exact sY ad)
theorem dF:∀{T:List Nat}{x y:Nat},Adj T x y->∃ B C,T=B++x::y::C
 | [],_,_,h=>h.elim
 | [_],_,_,h=>h.elim
 | p::q::r,x,y,h=>by
  rcases h with⟨rfl,rfl⟩ | h
  ·exact⟨[],r,rfl⟩
  ·obtain⟨B,C,e⟩:=dF (T:=q::r) h
   exact⟨p::B,C,by rw[e];rfl⟩
theorem seg{T:List Nat}(nd:T.Nodup):∀{R:List Nat}{x y:Nat},(∀ p q,Adj (x::y::R) p q->Adj T p q)->∃ B C,T=B++(x::y::R)++C
 | [],x,y,h=>by
  obtain⟨B,C,e⟩:=dF (h x y (.inl ⟨rfl,rfl⟩));exact⟨B,C,by rw[e];simp⟩
 | z::R,x,y,h=>by
  obtain⟨B,C,e⟩:=seg nd (R:=R) (x:=y) (y:=z) λ p q a=>h p q (.inr a);obtain⟨b,i,j⟩:=dF (h x y (.inl ⟨rfl,rfl⟩));have c:T=B++y::(z::R++C):=by rw[e];simp
  have d:T=(b++[x])++y::i:=by rw[j];simp
  have:B=b++[x]:=by
   have m:y∉B:=λ q=>by
    rw[c]at nd;exact(cy.mp nd).2.2 y q y (eP ..) rfl
   have g:y∉b++[x]:=λ q=>by
    rw[d]at nd;exact(cy.mp nd).2.2 y q y (eP ..) rfl
   have f:T.idxOf y=B.length:=by rw[c,yh,if_neg m];simp
   have n:T.idxOf y=(b++[x]).length:=by rw[d,yh,if_neg g];simp
   have l:B.length=(b++[x]).length:=f.symm.trans n;have:=congrArg (Fy B.length) (c.symm.trans d);rw[yq rfl,yq l.symm]at this;exact this
  exact⟨b,C,by rw[e,this];simp⟩
def kSA(S:Nb W)(g:∀ t∈kM W,(nxt W (nxt W t)).2=t.1){A T R Q row:List Nat}{a b c v:Nat}(h:Bd W A T a b)(TT:Top W A T)(n:A.Nodup)(I:(nxt W (b,a)).2=c)(U:v≠c)(H:v∉A)
  (j:W[v]?=some row) (d:Ro row (R++Q)) (i:∀ x∈R,x∈A) (X:∀ x∈Q,x∉A) (two:2<=R.length):stF W T A v=some R:=by
 have step:∀ x y,Adj R x y->(nxt W (x,y)).2=v/\E W x y:=λ x y ad=>by
  have nx:Nx row x y:=(d.nx x y).mpr (Fc.adj_nx Q ad);have n1:=aL S.nd ⟨row,j,nx⟩;have L:E W y v:=S.sym _ _ ⟨row,j,d.perm.mem_iff.mpr (df _ (ql (qI ad).2))⟩;obtain⟨z,s,m2,Y,e1,J⟩:=qT S g L;rw[n1]at s;have:x=z:=congrArg qh s;subst this;exact⟨by rw[Y],J⟩
 have f:∀ x y,Adj R x y->Adj T x y:=λ x y ad=>by
  obtain⟨o,Z⟩:=step x y ad;rcases h.all x y (i x (qI ad).1) (i y (ql (qI ad).2)) Z (by rw[o];exact H) with q | ⟨rfl,rfl⟩
  ·exact q
  ·rw[I]at o
   exact absurd o.symm U
 match R,two,d,i,step,f with
 | x::y::m,_,d,i,step,f =>
  obtain⟨B,C,u⟩:=seg TT.nd f
  obtain⟨M,l,O⟩ : ∃ M l,x::y::m=x::M++[l]:=by
   have G:y::m≠[]:=λ z=>by cases z
   exact⟨(y::m).dropLast,(y::m).getLast G,by rw[mj,eK]⟩
  rw[O]at u d i step ⊢;refine aV TT.nd n u TT.sub (λ q=>?_) (λ t N=>?_)
  ·constructor
   ·intro r
    refine⟨i q r,?_⟩;rw[ao,j];exact d.perm.mem_iff.mpr (df _ r)
   ·rintro⟨h1,D⟩
    rw[ao,j]at D;rcases bz.mp (d.perm.mem_iff.mp D) with p | p
    ·exact p
    ·exact absurd h1 (X q p)
  ·exact(step t.1 t.2 (uP (a:=t.1) (b:=t.2) N)).1
end
end Tri
namespace L2
open PySem PySem.Spec PyProof.Rows
def mW(a b c:au):checkTypeCall "zip" ⟨[a,b,c],[]⟩=pure ():=by kernel_rfl
def rX(a b c:au):checkBuiltinCall "zip.__new__" ⟨[.type "zip",a,b,c],[]⟩=pure ():=by kernel_rfl
def kEA(o a b c:au):argsOk "object.__init__" ⟨[o,a,b,c],[]⟩:=by first | kernel_rfl | decide +kernel | rfl
abbrev jQ(h:iV)(T:av)(a b c:au):Prop:=h.get? T=some {cls:=.type "tuple",data:=.seq #[a,b,c]}
section
variable {prog:eX} {w:iN} {A:fk} {E:au->az->Prop} {s:az}
def zO{T:av}{a b c x:au}{k:Nat}{Q:Unit->az->Prop}(d:jQ s.heap T a b c)
  (h:∀ h',h'.get? T=some {cls:=.type "tuple",data:=.seq ((#[a,b,c]:Array au).setIfInBounds k x)}->iz T s.heap h'->Q () {s with heap:=h'}) :
  dj (model prog w) A (updateSeq T (·.setIfInBounds k x)) Q E s:=by
 refine wpAny_updateSeq d rfl (h _ ?_ (jv ..));rw[qz _ d rfl];simp[uh]
end
structure ZAp3(z TI TO i1 i2 i3:av)(fp1 fp2 fp3:List av):Prop where
 zTI:z≠TI
 zTO:z≠TO
 zi1:z≠i1
 zi2:z≠i2
 zi3:z≠i3
 TOi1:TO≠i1
 TOi2:TO≠i2
 TOi3:TO≠i3
 TITO:TI≠TO
 TIi1:TI≠i1
 TIi2:TI≠i2
 TIi3:TI≠i3
 z1:z∉fp1
 z2:z∉fp2
 z3:z∉fp3
 t1:TO∉fp1
 t2:TO∉fp2
 t3:TO∉fp3
 i2f1:i2∉fp1
 i3f1:i3∉fp1
 i1f2:i1∉fp2
 i3f2:i3∉fp2
 i1f3:i1∉fp3
 i2f3:i2∉fp3
section
variable {prog:eX} {w:iN} {A:fk} {E:au->az->Prop} {s:az} {z TI TO i1 i2 i3:av} {fp1 fp2 fp3:List av} {n1 n2 n3 j:Nat} {P1 P2 P3:Nat->au->Prop} {S1 S2 S3:Nat->iV->Prop} {a b c:au}
def kCB{Q:au->az->Prop}(D1:EU prog w A i1 fp1 n1 P1 S1)(D2:EU prog w A i2 fp2 n2 P2 S2)(D3:EU prog w A i3 fp3 n3 P3 S3)(d:ZAp3 z TI TO i1 i2 i3 fp1 fp2 fp3)
  (hz:xh s.heap z TI TO .none) (a1:jQ s.heap TI (.ref i1) (.ref i2) (.ref i3)) (a6:jQ s.heap TO a b c) (h1:S1 j s.heap) (h2:S2 j s.heap) (h3:S3 j s.heap) (l1:j<n1) (l2:j<n2) (l3:j<n3)
  (hQ:∀ x y v h' tk,P1 j x->P2 j y->P3 j v->xh h' z TI TO (rawInt s.heap.objs.size)->jQ h' TO x y v->S1 (j+1) h'->S2 (j+1) h'->S3 (j+1) h'->jQ h' s.heap.objs.size x y v ->
   (∀ c o,c≠z->c≠TO->c≠i1->c≠i2->c≠i3->s.heap.get? c=some o->h'.get? c=some o)->Q (.ref s.heap.objs.size) {s with heap:=h',toks:=tk}) :
  dj (model prog w) A (AA.«zip.__next__» ⟨[.ref z],[]⟩) (λ fin s'=>∃ v,fin=.done (.ret v)/\Q v s') E s:=by
 have m:∀{i:Nat}{h h':iV}{c:av},S1 i h->iz c h h'->c∉fp1->S1 i h':=λ st T Y=>D1.frame _ _ _ st λ b n o e=>T.extBut b o (λ q=>Y (q ▸ n)) e;have l:∀{i:Nat}{h h':iV}{c:av},S2 i h->iz c h h'->c∉fp2->S2 i h':=λ st T Y=>D2.frame _ _ _ st λ b n o e=>T.extBut b o (λ q=>Y (q ▸ n)) e;have g:∀{i:Nat}{h h':iV}{c:av},S3 i h->iz c h h'->c∉fp3->S3 i h':=λ st T Y=>D3.frame _ _ _ st λ b n o e=>T.extBut b o (λ q=>Y (q ▸ n)) e;show dj _ _ (field (.ref z) 2 >>= _) _ _ _;refine ai (iQ hz rfl (x:=.bool false) rfl ?_);show dj _ _ (field (.ref z) 3 >>= _) _ _ _;refine ai (iQ hz rfl (x:=.ref TI) rfl ?_);refine ai (jz a1 rfl ?_);show dj _ _ (iA (.ref z) >>= _) _ _ _;refine ai ?_;unfold iA;refine ai (iQ hz rfl (x:=.none) rfl (bg ?_));simp only[if_true];refine ai (xp ?_);refine ai (iQ hz rfl (x:=.ref TO) rfl ?_);refine ai (km hz (by simp) λ g1 X H=>?_)
 replace X:xh g1 z TI TO .ellipsis:=X
 refine ai ?_
 simp only[yy,BC,zy,BX]
 refine ai (ai (wj ?_));show dj _ _ (gv (.ref i1) >>= _) _ _ _;refine ai (D1.item j _ _ _ l1 (m h1 H d.z1) λ x g2 a9 px a4 G=>bg ?_);have o2:jQ g2 TO a b c:=G.extBut _ _ d.TOi1 (H.extBut _ _ d.zTO.symm a6);refine ai (jz o2 rfl ?_);refine ai (zO o2 λ g3 o3 B=>?_)
 replace o3:jQ g3 TO x b c:=o3
 refine ai (Au (bg ?_))
 refine ai (ai (wj ?_));show dj _ _ (gv (.ref i2) >>= _) _ _ _;refine ai (D2.item j _ _ _ l2 (l (l (l h2 H d.z2) G d.i1f2) B d.t2) λ y g4 a7 py a0 J=>bg ?_);have o4:jQ g4 TO x b c:=J.extBut _ _ d.TOi2 o3;refine ai (jz o4 rfl ?_);refine ai (zO o4 λ g5 o5 C=>?_)
 replace o5:jQ g5 TO x y c:=o5
 refine ai (Au (bg ?_))
 refine ai (ai (wj ?_));show dj _ _ (gv (.ref i3) >>= _) _ _ _;refine ai (D3.item j _ _ _ l3 (g (g (g (g (g h3 H d.z3) G d.i1f3) B d.t3) J d.i2f3) C d.t3) λ v g6 a8 a2 a5 I=>bg ?_);have o6:jQ g6 TO x y c:=I.extBut _ _ d.TOi3 o5;refine ai (jz o6 rfl ?_);refine ai (zO o6 λ f o7 D=>?_)
 replace o7:jQ f TO x y v:=o7
 refine ai (Au (bg (bg ?_)))
 refine ai (jz o7 rfl ?_);refine ai (Cy ?_);have sz:f.objs.size=s.heap.objs.size:=by rw[D.1,I.1,C.1,J.1,B.1,G.1,H.1]
 have z7:xh f z TI TO .ellipsis:=D.extBut _ _ d.zTO (I.extBut _ _ d.zi3 (C.extBut _ _ d.zTO (J.extBut _ _ d.zi2 (B.extBut _ _ d.zTO (G.extBut _ _ d.zi1 X)))))
 have k7:∀ c o,c≠z->c≠TO->c≠i1->c≠i2->c≠i3->s.heap.get? c=some o->f.get? c=some o:=λ c o u S c3 c4 c5 e =>
  D.extBut _ _ S (I.extBut _ _ c5 (C.extBut _ _ S (J.extBut _ _ c4 (B.extBut _ _ S (G.extBut _ _ c3 (H.extBut _ _ u e))))))
 have a3:S1 (j+1) f:=m (m (m (m (m a4 B d.t1) J d.i2f1) C d.t1) I d.i3f1) D d.t1;have O:S2 (j+1) f:=l (l (l a0 C d.t2) I d.i3f2) D d.t2;have L:S3 (j+1) f:=g a5 D d.t3;have M:z<f.objs.size:=cj z7;show dj _ _ (om (.ref z) (.ref f.objs.size) >>= _) _ _ _;refine ai ?_;unfold om;have z8:xh (f.push {cls:=.type "tuple",data:=.seq #[x,y,v]}) z TI TO .ellipsis:=ar _ z7;refine ai (km z8 (by simp) λ g9 z9 s9=>?_)
 replace z9:xh g9 z TI TO (rawInt f.objs.size):=z9
 refine km z9 (by simp) λ p r N=>?_
 replace r:xh p z TI TO (rawInt f.objs.size):=r
 have U:∀ c o,c≠z->f.get? c=some o->p.get? c=some o:=λ c o u e=>N.extBut _ _ u (s9.extBut _ _ u (ar _ e));have Z:jQ p f.objs.size x y v:=N.extBut _ _ (ja M) (s9.extBut _ _ (ja M) (ck _ rfl));rw[sz]at r Z;refine bg ⟨_,rfl,?_⟩;show Q (.ref f.objs.size) _;rw[sz];exact hQ x y v p _ px py a2 r (U _ _ d.zTO.symm o7) (D1.frame _ _ _ a3 λ b n o e=>U b o (λ q=>d.z1 (q ▸ n)) e) (D2.frame _ _ _ O λ b n o e=>U b o (λ q=>d.z2 (q ▸ n)) e) (D3.frame _ _ _ L λ b n o e=>U b o (λ q=>d.z3 (q ▸ n)) e) Z λ c o u S c3 c4 c5 e=>U c o u (k7 c o u S c3 c4 c5 e)
def kGX{Q:ux->az->Prop}(p:EU prog w A i1 fp1 n1 P1 S1)(j:ZAp3 z TI TO i1 i2 i3 fp1 fp2 fp3)
  (hz:xh s.heap z TI TO .none) (h:jQ s.heap TI (.ref i1) (.ref i2) (.ref i3)) (J:jQ s.heap TO a b c) (h1:S1 n1 s.heap)
  (B:∀ h' e,(∀ c o,c≠z->c≠TO->c≠i1->c≠i2->c≠i3->s.heap.get? c=some o->h'.get? c=some o)->(∃ o,h'.get? e=some o/\o.cls=.type "StopIteration")->E (.ref e) {s with heap:=h'}) :
  dj (model prog w) A (AA.«zip.__next__» ⟨[.ref z],[]⟩) Q E s:=by
 show dj _ _ (field (.ref z) 2 >>= _) _ _ _;refine ai (iQ hz rfl (x:=.bool false) rfl ?_);show dj _ _ (field (.ref z) 3 >>= _) _ _ _;refine ai (iQ hz rfl (x:=.ref TI) rfl ?_);refine ai (jz h rfl ?_);show dj _ _ (iA (.ref z) >>= _) _ _ _;refine ai ?_;unfold iA;refine ai (iQ hz rfl (x:=.none) rfl (bg ?_));simp only[if_true];refine ai (xp ?_);refine ai (iQ hz rfl (x:=.ref TO) rfl ?_);refine ai (km hz (by simp) λ D g n=>?_)
 replace g:xh D z TI TO .ellipsis:=g
 refine ai ?_;simp only[yy,BC,zy,BX];refine ai (ai (wj ?_));show dj _ _ (gv (.ref i1) >>= _) _ _ _;refine ai (p.done _ _ _ (p.frame _ _ _ h1 λ b y o e=>n.extBut b o (λ q=>j.z1 (q ▸ y)) e) λ C e l I=>?_);obtain⟨H,d,f⟩:=I;have r:xh C z TI TO .ellipsis:=l _ _ j.zi1 g;have u:e≠z:=λ q=>by subst q;rw[r]at d;cases d;simp at f
 exact km r (by simp) λ v _ i=>B v e (λ c o m _ G _ _ q=>i.extBut _ _ m (l _ _ G (n.extBut _ _ m q))) ⟨H,i.extBut _ _ u d,f⟩
end
def sZ(b i B:Bool)(a c f:av)(xs ys zs:Array au) :
  Meets (AA.«zip.__new__» ⟨[.type "zip",.ref a,.ref c,.ref f],[]⟩) (λ _ R s=>SqOf b s.heap a xs/\SqOf i s.heap c ys/\SqOf B s.heap f zs /\
   ∀(r p l v j D:iV),r=s.heap.push {cls:=.type (zE b),data:=.fields #[.ref a,.int 0 0]}->p=r.push {cls:=.type (zE i),data:=.fields #[.ref c,.int 0 0]}->l=p.push {cls:=.type (zE B),data:=.fields #[.ref f,.int 0 0]} ->
    v=l.push {cls:=.type "tuple",data:=.seq #[.ref s.heap.objs.size,.ref r.objs.size,.ref p.objs.size]}->j=v.push {cls:=.type "tuple",data:=.seq #[.none,.none,.none]} ->
    D=j.push {cls:=.type "zip",data:=.fields #[.none,.bool false,.bool false,.ref l.objs.size,.ref v.objs.size]}->R (.ok (.ret (.ref j.objs.size))) {s with heap:=D}) :=
 .of_wp λ G w A R s h=>by
  obtain⟨hp,g,d,tk,os⟩:=s;obtain⟨m,n,q,h⟩:=h;have C:=sub_zip;have x:SqOf b (Ar ⟨hp,g,d,tk,os⟩) a xs:=m;have u:SqOf i (Ar ⟨hp.push {cls:=.type (zE b),data:=.fields #[.ref a,.int 0 0]},g,d,tk,os⟩) c ys:=n.at λ o e=>ar _ e;have y:SqOf B (Ar ⟨(hp.push {cls:=.type (zE b),data:=.fields #[.ref a,.int 0 0]}).push {cls:=.type (zE i),data:=.fields #[.ref c,.int 0 0]},g,d,tk,os⟩) f zs:=q.at λ o e=>ar _ (ar _ e);have h:=h _ _ _ _ _ _ rfl rfl rfl rfl rfl rfl
  wp_walk using bQ x,bQ u,bQ y
  exact⟨_,rfl,h⟩
section
variable {prog:eX} {w:iN} {A:fk} {E:au->az->Prop} {s:az}
def sU{m q r:Bool}{i g j:av}{xs ys zs:Array au}{Q:au->az->Prop}(h1:SqOf m s.heap i xs)(h2:SqOf q s.heap g ys)(h3:SqOf r s.heap j zs)
  (h:∀ h',xh h' (s.heap.objs.size+5) (s.heap.objs.size+3) (s.heap.objs.size+4) .none->jQ h' (s.heap.objs.size+3) (.ref s.heap.objs.size) (.ref (s.heap.objs.size+1)) (.ref (s.heap.objs.size+2)) ->
   jQ h' (s.heap.objs.size+4) .none .none .none->ItOf m h' s.heap.objs.size i 0->ItOf q h' (s.heap.objs.size+1) g 0->ItOf r h' (s.heap.objs.size+2) j 0->(∀ c o,s.heap.get? c=some o->h'.get? c=some o)->Q (.ref (s.heap.objs.size+5)) {s with heap:=h'}) :
  dj (model prog w) A (call (.type "zip") [.ref i,.ref g,.ref j]) Q E s:=by
 refine Dr GD (by decide) (mW _ _ _) (rX _ _ _) (λ obj=>kEA obj _ _ _) EZ (sZ m q r i g j xs ys zs) ⟨h1,h2,h3,?_⟩;intro d b f p u a I y H B N T;have J:d.objs.size=s.heap.objs.size+1:=by rw[I];exact ir ..
 have L:b.objs.size=s.heap.objs.size+2:=by rw[y,ir,J]
 have M:f.objs.size=s.heap.objs.size+3:=by rw[H,ir,L]
 have G:p.objs.size=s.heap.objs.size+4:=by rw[B,ir,M]
 have X:u.objs.size=s.heap.objs.size+5:=by rw[N,ir,G]
 have u1:∀ c o,s.heap.get? c=some o->d.get? c=some o:=λ c o e=>by rw[I];exact ar _ e
 have Z:∀ c o,d.get? c=some o->b.get? c=some o:=λ c o e=>by rw[y];exact ar _ e
 have D:∀ c o,b.get? c=some o->f.get? c=some o:=λ c o e=>by rw[H];exact ar _ e
 have v:∀ c o,f.get? c=some o->p.get? c=some o:=λ c o e=>by rw[B];exact ar _ e
 have n:∀ c o,p.get? c=some o->u.get? c=some o:=λ c o e=>by rw[N];exact ar _ e
 have l:∀ c o,u.get? c=some o->a.get? c=some o:=λ c o e=>by rw[T];exact ar _ e
 have C:xh a u.objs.size f.objs.size p.objs.size .none:=by rw[T];exact ck _ rfl
 have O:jQ a p.objs.size .none .none .none:=l _ _ (by rw[N];exact ck _ rfl);have Y:jQ a f.objs.size (.ref s.heap.objs.size) (.ref d.objs.size) (.ref b.objs.size):=l _ _ (n _ _ (by rw[B];exact ck _ rfl));have i1:ItOf m a s.heap.objs.size i 0:=ItOf.at (h:=d) (by rw[I];exact ItOf.new m s.heap i) λ o e=>l _ _ (n _ _ (v _ _ (D _ _ (Z _ _ e))));have S:ItOf q a d.objs.size g 0:=ItOf.at (h:=b) (by rw[y];exact ItOf.new q d g) λ o e=>l _ _ (n _ _ (v _ _ (D _ _ e)));have U:ItOf r a b.objs.size j 0:=ItOf.at (h:=f) (by rw[H];exact ItOf.new r b j) λ o e=>l _ _ (n _ _ (v _ _ e));show _/\_;rw[M,G,X]at C;rw[J,L,M]at Y;rw[G]at O;rw[J]at S;rw[L]at U;rw[X];exact⟨⟨_,C,rfl⟩,h _ C Y O i1 S U λ c o x=>l _ _ (n _ _ (v _ _ (D _ _ (Z _ _ (u1 _ _ x)))))⟩
end
def Inv.handed3{X:Cx}{a:List (av×Obj)}{f:St}{H:Hp}{s:az}{h':iV}{t':Nat}{ch:List av}{x y z:V}{u v r:au}(I:Inv X a f H s)(i:RelV x u)(p:RelV y v)(A:RelV z r)
  (B:h'.get? s.heap.objs.size=some {cls:=.type "tuple",data:=.seq #[u,v,r]}) (k:∀ b o,b∉ch->s.heap.get? b=some o->h'.get? b=some o) (h:∀ b∈ch,zG X a H b) (d:∀ b∈ch,b<s.heap.objs.size) :
  Inv X a f (upd H s.heap.objs.size (.tup [x,y,z])) {s with heap:=h',toks:=t'}/\(∀ b∈ch,upd H s.heap.objs.size (.tup [x,y,z]) b=none):=by
 have g:∀ b∈ch,upd H s.heap.objs.size (.tup [x,y,z]) b=none:=λ b c=>by rw[kL (dw (d b c))];exact(h b c).1
 have q:Inv X a f (upd H s.heap.objs.size (.tup [x,y,z])) {s with heap:=s.heap.push {cls:=.type "tuple",data:=.seq #[u,v,r]},toks:=s.toks} :=
  I.laid (λ b o e=>ar _ e) (bf _) ⟨by simp only[iJ,yo];rw[Br];decide,[u,v,r],.cons i (.cons p (.cons A .nil)),⟨_,ck _ rfl,rfl,0,rfl,rfl⟩⟩
 have n:=Inv.turnedL (h':=h') (t':=t') (ch:=ch) q (λ b o c e=>by
  rcases Cw e with⟨rfl,rfl⟩ | e
  ·exact B
  ·exact k b o c e) (λ b c=>by
  obtain⟨G,m,D,l,C,j⟩:=h b c;exact⟨g b c,m,D,l,C,j⟩)
 exact⟨n,g⟩
def kNW(h j l : Bool)(K : be)(a b c : av) : It :=
  ⟨λ i H => ∃ d g f x y z, SqX K h H a d /\ SqX K j H b g /\ SqX K l H c f /\ d[i]? = some x /\ g[i]? = some y /\ f[i]? = some z,
   λ i H v m => ∃ T x y z, H T = none /\ v = .ref T /\ (∀ d, SqX K h H a d -> d[i]? = some x) /\ (∀ g, SqX K j H b g -> g[i]? = some y) /\ (∀ f, SqX K l H c f -> f[i]? = some z) /\ m = upd H T (.tup [x, y, z]),
   λ i H => ∃ d, SqX K h H a d /\ d.length = i⟩
def kHD{P:eX}{w:iN}{K:be}{S:List iW} {x1} {ag:Pos} (k1 k2 k3:Bool) (a b c z TI TO m B G:av) (n:ZAp3 z TI TO m B G [m,a] [B,b] [G,c]) :
  Turn P w K (.Tuple S x1 ag) (kNW k1 k2 k3 K a b c) [z,TO,m,B,G,TI] z
   (λ i h=>xh h z TI TO .none/\jQ h TI (.ref m) (.ref B) (.ref G)/\(∃ u v r,jQ h TO u v r)/\ItOf k1 h m a i/\ItOf k2 h B b i/\ItOf k3 h G c i) where
 mem:=by simp
 obj:=λ i h st e he=>by
  obtain⟨L,f,⟨u,v,r,j⟩,h1,N,M⟩:=st;simp only[eA,ml,or_false]at he;rcases he with rfl | rfl | rfl | rfl | rfl | rfl
  ·exact⟨_,L,λ v q=>by cases q⟩
  ·exact⟨_,j,λ v q=>by cases q⟩
  ·exact h1.live
  ·exact N.live
  ·exact M.live
  ·exact⟨_,f,λ v q=>by cases q⟩
 keep:=λ i h h' st O=>by
  obtain⟨L,f,⟨u,v,r,j⟩,h1,N,M⟩:=st;exact⟨O z (by simp) _ L,O TI (by simp) _ f,⟨u,v,r,O TO (by simp) _ j⟩,h1.at λ o q=>O m (by simp) o q,N.at λ o q=>O B (by simp) o q,M.at λ o q=>O G (by simp) o q⟩
 item:=by
  intro X hP hw hK hc i a0 s σ H E I hf st hg;subst hP hw hK;obtain⟨L,f,⟨u0,v0,r0,j⟩,h1,N,M⟩:=st;obtain⟨xs,ys,zs,x,y,zz,U,a4,Q,hx,hy,a3⟩:=hg;obtain⟨C,a8,p1⟩:=I.sq U;obtain⟨D,aw,p2⟩:=I.sq a4;obtain⟨J,a9,p3⟩:=I.sq Q;obtain⟨u,hu,ru⟩:=a8.get hx;obtain⟨v,hv,rv⟩:=aw.get hy;obtain⟨r,hr,rr⟩:=a9.get a3;have D1:=xU (prog:=X.prog) (w:=X.w) (A:=X.A.in1) (I.ok.hd hc) k1 m a (uY p1 h1) C.toArray;have D2:=xU (prog:=X.prog) (w:=X.w) (A:=X.A.in1) (I.ok.hd hc) k2 B b (uY p2 N) D.toArray;have D3:=xU (prog:=X.prog) (w:=X.w) (A:=X.A.in1) (I.ok.hd hc) k3 G c (uY p3 M) J.toArray;have a2:i<C.toArray.size:=by simpa using(ak.mp hu).1
  have a5:i<D.toArray.size:=by simpa using(ak.mp hv).1
  have Z:i<J.toArray.size:=by simpa using(ak.mp hr).1
  have hT:s.TypeIs (.ref z) "zip":=⟨_,L,rfl⟩;unfold pyNext
  refine ai (zr (jc (name:=ve "__next__") hT tw (ky tw hT Ak
   (kCB D1 D2 D3 n L f j ⟨h1,p1⟩ ⟨N,p2⟩ ⟨M,p3⟩ a2 a5 Z λ u' v' r' h' tk aq am as z' o' a7 ah ac t' hk=>bg ?_) (AX _))))
  have eu:u'=u:=by
   have q:C[i]?=some u':=by simpa using aq
   rw[hu]at q;exact(bh q).symm
  have ev:v'=v:=by
   have q:D[i]?=some v':=by simpa using am
   rw[hv]at q;exact(bh q).symm
  have er:r'=r:=by
   have q:J[i]?=some r':=by simpa using as
   rw[hr]at q;exact(bh q).symm
  subst eu ev er;refine⟨_,rfl,Bm z' λ g ab l=>?_⟩;have aa:z<s.heap.objs.size:=cj L;have ay:TO<s.heap.objs.size:=cj j;have b0:m<s.heap.objs.size:=let ⟨_,e,_⟩:=h1.live;cj e;have b2:B<s.heap.objs.size:=let ⟨_,e,_⟩:=N.live;cj e;have b1:G<s.heap.objs.size:=let ⟨_,e,_⟩:=M.live;cj e;have Y:TI<s.heap.objs.size:=cj f;have an:g.get? s.heap.objs.size=some {cls:=.type "tuple",data:=.seq #[u',v',r']}:=l.extBut _ _ (ja aa) t'
  obtain⟨I2,n2⟩:=I.handed3 (t':=tk) (ch:=[z,TO,m,B,G]) ru rv rr an (λ c o d q=>l.extBut c o (λ e=>d (by simp[e])) (hk c o (λ e=>d (by simp[e])) (λ e=>d (by simp[e])) (λ e=>d (by simp[e])) (λ e=>d (by simp[e])) (λ e=>d (by simp[e])) q))
   (λ c d=>hf c (by simp at d ⊢;rcases d with e | e | e | e | e<;>simp[e]))
   (λ c d=>by simp at d;rcases d with rfl | rfl | rfl | rfl | rfl<;>assumption)
  refine⟨.ref s.heap.objs.size,_,I2,rfl,⟨_,x,y,zz,I.hok.fresh (bf _),rfl,(λ b3 a6=>by rw[I.sq_inj a6 U];exact hx),(λ b5 af=>by rw[I.sq_inj af a4];exact hy),(λ b4 ax=>by rw[I.sq_inj ax Q];exact a3),rfl⟩,?_,λ c d=>?_⟩
  ·exact⟨ab,l.extBut _ _ n.zTI.symm (hk _ _ n.zTI.symm n.TITO n.TIi1 n.TIi2 n.TIi3 f),⟨_,_,_,l.extBut _ _ n.zTO.symm o'⟩,a7.1.at λ o q=>l.extBut m o n.zi1.symm q,ah.1.at λ o q=>l.extBut B o n.zi2.symm q,ac.1.at λ o q=>l.extBut G o n.zi3.symm q⟩
  ·by_cases e:c=TI
   ·subst e
    rw[kL (dw Y)];exact(hf c (by simp)).1
   ·exact n2 c (by simp at d ⊢;rcases d with q | q | q | q | q | q<;>simp_all)
 done:=by
  intro X hP hw hK hc i a0 s σ H E I hf st hg;subst hP hw hK;obtain⟨L,f,⟨u0,v0,r0,j⟩,h1,N,M⟩:=st;obtain⟨xs,hq,hx⟩:=hg;obtain⟨a1,rv,p⟩:=I.sq hq;have D1:=xU (prog:=X.prog) (w:=X.w) (A:=X.A.in1) (I.ok.hd hc) k1 m a (uY p h1) a1.toArray;have hl:a1.toArray.size=i:=by rw[<-hx,rv.length];simp
  have hT:s.TypeIs (.ref z) "zip":=⟨_,L,rfl⟩;unfold pyNext
  refine ai (zr (jc (name:=ve "__next__") hT tw (ky tw hT Ak
   (kGX D1 n L f j ⟨hl ▸ h1,p⟩ λ h' e hk he=>?_) (AX _))))
  obtain⟨o,ho,al⟩:=he;refine ai (CO (T:="StopIteration") (b:=true) ⟨o,ho,al⟩ Ez ?_)
  refine bg ⟨rfl,I.turnedL (t':=s.toks) (ch:=[z,TO,m,B,G]) (λ c o d q=>hk c o (λ e=>d (by simp[e])) (λ e=>d (by simp[e])) (λ e=>d (by simp[e])) (λ e=>d (by simp[e])) (λ e=>d (by simp[e])) q)
   (λ c d=>hf c (by simp at d ⊢;rcases d with e | e | e | e | e<;>simp[e]))⟩
 self:=λ _ _ _ _ _ st h=>Al st.1 h
def kVW(n a b c:Nat)(g:a<n)(i:b<n)(h:c<n):ZAp3 (n+5) (n+3) (n+4) n (n+1) (n+2) [n,a] [n+1,b] [n+2,c]:=by
 have q:∀{x y u:Nat},x≠y->x≠u->¬ x∈[y,u]:=λ h1 f d=>by
  rcases eA.mp d with e | e
  ·exact h1 e
  ·exact f (cg.mp e)
 constructor<;>first | (intro e;have e:(_:Nat)=_:=e;omega) | exact q (λ e=>by have e:(_:Nat)=_:=e;omega) (λ e=>by have e:(_:Nat)=_:=e;omega)
section
variable {X:Cx}
inductive kMK(k1:Bool)(k2:Bool)(k3:Bool)(K:be)(R:It->Hp->Prop)(vs:List V)(H1:Hp):Prop
 | mk:∀ a b c,(vs=[.ref a,.ref b,.ref c])->((∃ xs,SqX K k1 H1 a xs))->((∃ ys,SqX K k2 H1 b ys))->((∃ zs,SqX K k3 H1 c zs))->(R (kNW k1 k2 k3 K a b c) H1)->kMK k1 k2 k3 K R vs H1
def kVD(c g h:Bool)(K:be)(d:TA):TI:=λ b H R=>d b H λ f a=>kMK c g h K R f a
def kOX(N Z k3:Bool){a b c:iW}{Y:TA}{p j l:Pos}{o:List iW} {x1} (hg:Gl X "zip") (hm:X.mg "zip" = none) (ha:PA X [a,b,c] Y) (hs:starEach [a,b,c] X.env=[(false,eval a X.env),(false,eval b X.env),(false,eval c X.env)]:=by rfl) (m:starEach [b,c] X.env=[(false,eval b X.env),(false,eval c X.env)]:=by rfl) :
  PI X (.Tuple o x1 l) (.Call (.Name "zip" p) [a,b,c] [] j) (kVD N Z k3 X.K Y):=by
 intro g s σ H R I h;refine Fv (wH I hg hm boot_zip (iu (thn (ha j g s σ H _ I h) λ us d ⟨vs,M,i,y,q1⟩=>?_) (by rw[hs,m]) (by rw[m];rfl)));obtain⟨l1,l2,l3,rfl,⟨xs,u⟩,⟨ys,D⟩,⟨zs,J⟩,q⟩:=q1
 cases y with
 | cons r y =>
 obtain⟨v,v',rfl,r',G⟩:=kEF y;cases r
 cases r'
 cases G
 obtain⟨O,a0,p1⟩:=i.sq u;obtain⟨Q,a1,p2⟩:=i.sq D;obtain⟨T,a2,U⟩:=i.sq J;have A:=p1.lt;have L:=p2.lt;have B:=U.lt;refine sU p1 p2 U λ h' S C x h1 h2 h3 hk=>?_;refine Al (s:={d with heap:=h'}) S ?_
 have f:∀ c,d.heap.objs.size<=c->zG X g M c:=λ c n=>i.fpOk n (i.hok.fresh n)
 refine⟨_,[d.heap.objs.size+5,d.heap.objs.size+4,d.heap.objs.size,d.heap.objs.size+1,d.heap.objs.size+2,d.heap.objs.size+3],_,_,M,rfl,i.kept (t':=d.toks) hk,
  kHD N Z k3 l1 l2 l3 _ _ _ _ _ _ (kVW _ _ _ _ A L B),⟨S,C,⟨_,_,_,x⟩,h1,h2,h3⟩,λ c n=>?_,q⟩
 simp at n;rcases n with rfl | rfl | rfl | rfl | rfl | rfl<;>exact f _ (by omega)
end
def kMU{f h j:Bool}{K:be}{a b c:av}{xs ys zs:List V}{g:TG}{s:TS}{D:Ends}{d:St}{H:Hp}(Pv:Nat->St->Hp->Prop)(M:xs.length<=ys.length)(u:xs.length<=zs.length)(h0:Pv 0 d H)
  (B:∀ i d H,i<=xs.length->Pv i d H->SqX K f H a xs/\SqX K h H b ys/\SqX K j H c zs)
  (G:∀ i x y z T d H,xs[i]?=some x->ys[i]?=some y->zs[i]?=some z->H T=none->Pv i d H->g (.ref T) d (upd H T (.tup [x,y,z])) λ σ2 H2=>s {D with nx:=Pv (i+1),ct:=Pv (i+1),bk:=D.nx} σ2 H2) (Q:∀ d H,Pv xs.length d H->D.nx d H) :
  ∃ W:Nat->Nat->St->Hp->Prop,(∃ m,W 0 m d H)/\∀ i m d H,W i m d H ->
   ((kNW f h j K a b c).stop i H/\D.nx d H)\/((kNW f h j K a b c).go i H/\∃ N:St->Hp->Prop,(∀ σ' H',N σ' H'->∃ m',m'<m/\W (i+1) m' σ' H')/\∀ x H',(kNW f h j K a b c).yld i H x H'->g x d H' λ σ2 H2=>s {D with nx:=N,ct:=N,bk:=D.nx} σ2 H2):=by
 refine⟨λ i m d H=>m=xs.length-i/\i<=xs.length/\Pv i d H,⟨xs.length,by simp,iH _,h0⟩,?_⟩;rintro i m d H ⟨rfl,l,p⟩;obtain⟨n,o,r⟩:=B i d H l p;by_cases S:i<xs.length
 ·refine .inr ⟨⟨xs,ys,zs,xs[i],ys[i]'(by omega),zs[i]'(by omega),n,o,r,by simp[S],by simp[show i<ys.length by omega],by simp[show i<zs.length by omega]⟩,Pv (i+1),λ σ' H' q=>⟨xs.length-(i+1),by omega,rfl,by omega,q⟩,λ x H' A=>?_⟩
  obtain⟨T,L,O,C,J,rfl,U,v,I,rfl⟩:=A;exact G i L O C T d H (U xs n) (v ys o) (I zs r) J p
 ·have:i=xs.length:=by omega
  subst this;exact .inl ⟨⟨xs,n,rfl⟩,Q d H p⟩
section
variable {X:Cx} {tg iter kx vx:iW} {ifs:List iW} {sc:wq} {pos py spos:Pos} {Nc:List Str} {js:List (Option Nat)} {wi:TI} {i:Nat} {y:Str}
def kOW{g:TG}{bd:av->TB}(hx:X.xe=λ _ _=>False)(hc:X.calm=true)(hN:X.N.Nodup)(a7:X.N[i]?=some y)(Z:Loc X.env.scope y)(hi:PI X tg iter wi)(S:CS sc X.env.scope)(a6:cD js Nc X.N sc.names=true)
  (hg:∀ C s₂ H₂ fp pins,PG (cxC X Nc sc C s₂ H₂ fp pins) tg g)
  (n:∀ C s₂ H₂ fp pins D L,PTl (cxC X Nc sc C s₂ H₂ fp pins) (yE ifs (cxC X Nc sc C s₂ H₂ fp pins).env (pG kx vx (cxC X Nc sc C s₂ H₂ fp pins).env (.ref D)) L) L (bd D))
  (hs:∀ x,foldedSetIterable iter X.env x=pure x:=by intro _;rfl)
  (a8:swapsWith (.DictComp kx vx [⟨tg,iter,ifs,0⟩] sc pos) (some (.Name y py)) spos.line X.env=pure true:=by rfl)
  (hf:X.fn y=true\/X.env.scope.names.lookup y=some .local:=by first | exact .inl rfl | exact .inr rfl | assumption) :
  PS X (.Assign [.Name y py] (.DictComp kx vx [⟨tg,iter,ifs,0⟩] sc pos) spos) (kJZ (tDC js wi g bd) (vU i)):=by
 intro pins s σ H D0 I h;have aa:closureFor sc X.env=pure (uW sc X.env):=yR λ y Z hf=>I.ok.has y.1 (.inl (S.free y Z hf));rw[Cs _ _ _ _ a8];refine ai (ya (ai ?_));show dj _ X.A (do let _ <-comprehension (.DictComp kx vx [⟨tg,iter,ifs,0⟩] sc pos) sc X.env _ (newDict) false (eval iter X.env) (some (assign (.Name y py) X.env))) _ _ s
 refine ai (we (ox (use:=some (assign (.Name y py) X.env)) (Q:=λ _ u=>SP X pins D0 .next u) rfl hs aa S.kind S.names
  (thn (hi pins s σ H _ I h) λ v s1 h1=>thn h1 λ af f h2=>?_)) (λ _ u hq=>bg (bg hq)) λ _ _ e=>e)
 obtain⟨it,fp,tn,J,H2,e,U,T,a2,f2,hw⟩:=h2;subst e;have B:∀ b∈fp,b<f.heap.objs.size:=λ b n=>let ⟨o,ho,_⟩:=T.obj _ _ a2 b n;cj ho;refine iO (sj S.nocell (by intro y Z;simp at Z) (λ m j d=>?_) S.kind);dsimp only at j d ⊢;generalize O:f.heap.push {cls:=.type "dict",dict:=none,data:=.dict #[]}=G at j d ⊢;have ag:G.objs.size=f.heap.objs.size+1:=by rw[<-O,ir]
 have a3:f.heap.objs.size≠G.objs.size:=by omega
 have l:f.heap.objs.size<=G.objs.size:=by omega
 have Y:∀ b o,f.heap.get? b=some o->m.get? b=some o:=λ b o e=>d.extBut b o (dw (cv (cj e) l)) (ar _ (O ▸ ar _ e));have a0:m.get? f.heap.objs.size=some {cls:=.type "dict",dict:=none,data:=.dict #[]}:=d.extBut _ _ a3 (ar _ (O ▸ ck _ rfl))
 have new:ObjOk X.prog X.w (upd H2 f.heap.objs.size (.dK [])) m f.heap.objs.size (.dK []):=by
  refine⟨iH _,beq_eq_false_iff_ne.mpr (ub (dw U.big)),[],.nil,?_⟩;obtain⟨o,es,ep,h1,rest⟩:=Eb (knd:=qH X.prog X.w) f.heap;have h2:(f.heap.push {cls:=.type "dict",dict:=none,data:=.dict #[]}).get? f.heap.objs.size=some {cls:=.type "dict",dict:=none,data:=.dict #[]}:=ck _ rfl;have h3:=h1.symm.trans h2;exact⟨o,es,ep,a0.trans h3.symm,rest⟩
 have I4:=wR (js:=js) (Nc:=Nc) (tk:=f.toks+([]:List (Str×au)).length) U S f2 B a6 l (bf _) a3 Y j new;have hn:H2 f.heap.objs.size=none:=U.fresh
 have f4:∀ b∈fp,zG (cxC X Nc sc G.objs.size f H2 fp pins) [] (upd H2 f.heap.objs.size (.dK [])) b:=λ b n=>by
  obtain⟨h0,h1,h2,h3,h4,h5⟩:=f2 b n;refine⟨?_,dw (cv (B b n) l),λ z=>?_,.inl n,λ x c z=>?_,λ p hp=>?_⟩
  ·rw[kL (dw (B b n))];exact h0
  ·rcases eA.mp (U.stkSub b z) with q | q
   ·exact h1 q
   ·exact h2 q
  ·exact h4 x c (cC sc.names [] (λ z=>nomatch z) z)
  ·rcases bz.mp hp with z | z
   ·exact h5 p z
   ·exact absurd z (by simp)
 have a1:tn 0 m:=T.keep _ _ _ a2 λ b n o e=>Y b o e
 have r:codeAny (model X.prog X.w) X.A (.compLoop (.DictComp kx vx [⟨tg,iter,ifs,0⟩] sc pos) 0 (.ref it) (.ref f.heap.objs.size) (compEnvC sc (uW sc X.env) G.objs.size X.env))
   (compPost (model X.prog X.w) X.A X.xe (some (assign (.Name y py) X.env)) (λ _ u=>SP X pins D0 .next u) (.ref f.heap.objs.size) G.objs.size) {f with heap:=m,toks:=f.toks+([]:List (Str×au)).length}:=by
  refine yQ (X:=cxC X Nc sc G.objs.size f H2 fp pins) (.inr ⟨kx,vx,rfl⟩) hx hc (pR _ _ _ _ _ _ _ _ _ _) T (hg _ _ _ _ _) (n _ _ _ _ _ _ _) I4 a1 f4 (hw _ hn) λ ac H' u I' q=>?_;obtain⟨m',a9,_⟩:=I'.loc;have IB:Inv X pins σ H' {u with heap:=u.heap}:=wS U f2 l I' (AO ..)
  have nC:H' G.objs.size=none:=I'.free;have fC:zG X pins H' G.objs.size:=U.fpOk l nC;show dj _ X.A (assign (.Name y py) X.env (.ref f.heap.objs.size)) _ _ u;refine Bp (cL (v:=.ref f.heap.objs.size) IB hN a7 Z rfl (λ a4 IC a5=>?_) hf);obtain⟨a,sb,ha⟩:=a5
  have aC:G.objs.size≠a:=by
   rcases ha with rfl | ha
   ·exact fC.2.1
   ·exact λ z=>fC.2.2.2.2.1 y a ha z.symm
  refine⟨m',a9.sameBut sb aC,λ h' ab=>?_⟩;exact⟨_,H',IC.turnedL (t':=a4.toks) (ch:=[G.objs.size]) (λ b o M e=>ab.extBut b o (λ z=>M (by simp[z])) e) (λ b M=>by rw[cg.mp M];exact fC),q⟩
 exact xX (.inr ⟨kx,vx,rfl⟩) rfl rfl r (T.self _ _ _ _ _ a1 r)
end
section
variable {X:Cx} {tg iter el tg2 iter2:iW} {ifs2:List iW} {wi2:TI} {g2:TG} {sc:wq} {pos py spos:Pos} {Nc:List Str} {js:List (Option Nat)} {wi:TI} {i:Nat} {y:Str}
end
end L2
namespace Tri
open Cyc Rnd
theorem kFD{P:Nat->Prop}{w:Nat}:∀{l:List Nat}{p:Nat},(p::l).Nodup->(p::l).getLast?=some w->P p->(∀ x y,Adj (p::l) x y->P x->¬ P y->x=w)->∀ q∈p::l,P q
 | [],p,_,_,hp,_,q,b=>by rw[cg.mp b];exact hp
 | y::l,p,nd,lt,hp,st,q,b=>by
  have c:P y:=eR λ z=>by
   have:=st p y (.inl ⟨rfl,rfl⟩) hp z;rw[gh]at nd;rw[ig]at lt;exact nd.1 (this ▸ wb lt)
  rcases eA.mp b with rfl | b
  ·exact hp
  ·exact kFD (gh.mp nd).2 (by rw[ig]at lt;exact lt) c (λ x z a=>st x z (.inr a)) q b
theorem kFC{P:Nat->Prop}{u w:Nat}:∀{l:List Nat},l.Nodup->l.getLast?=some w->P w->(∀ x y,Adj l x y->P x->¬ P y->x=w)->(∀ x y,Adj l x y->¬ P x->P y->y=u)->(∀ h,l.head?=some h->¬ P h)->∃ outs ins,l=outs++ins/\(∀ z∈outs,¬ P z)/\(∀ z∈ins,P z)/\ins.head?=some u/\ins.getLast?=some w
 | [],_,lt,_,_,_,_=>by cases lt
 | [h],_,lt,pw,_,_,nh=>by
  cases lt
  exact absurd pw (nh h rfl)
 | h::y::l,nd,lt,pw,st,su,nh=>by
  have lt':(y::l).getLast?=some w:=by rw[ig]at lt;exact lt
  by_cases c:P y
  ·have:=su h y (.inl ⟨rfl,rfl⟩) (nh h rfl) c
   refine⟨[h],y::l,rfl,λ z b=>by rw[cg.mp b];exact nh h rfl,kFD (gh.mp nd).2 lt' c λ x z a=>st x z (.inr a),by rw[this];rfl,lt'⟩
  ·obtain⟨o,i,e,h1,g,f,d⟩:=kFC (l:=y::l) (gh.mp nd).2 lt' pw (λ x z a=>st x z (.inr a)) (λ x z a=>su x z (.inr a)) (λ z b=>by cases b;exact c)
   refine⟨h::o,i,by rw[e];rfl,λ z b=>?_,g,f,d⟩;rcases eA.mp b with rfl | b
   ·exact nh _ rfl
   ·exact h1 z b
def yV{l:List Nat}{p q:Nat}(h:Adj l p q):Nx l p q:=by
 have:=Fc.adj_nx [] h;rwa[iq]at this
section
variable {W:Rows}
def nP(S:Nb W)(a:∀ t∈kM W,(nxt W (nxt W t)).2=t.1){x p q:Nat}(h:R W x p q):nxt W (x,p)=(p,q)/\nxt W (q,x)=(x,p)/\nxt W (p,q)=(q,x):=by
 have e:=zF h;have n:=aL S.nd h;obtain⟨z,b,c,d,g,f⟩:=qT S a (S.sym _ _ e.2);rw[n]at b;cases b
 exact⟨c,n,d⟩
theorem Bd.row(S:Nb W)(d:∀ t∈kM W,(nxt W (nxt W t)).2=t.1){A T:List Nat}{a b c:Nat}(h:Bd W A T a b)(TT:Top W A T)(L:E W b a)(X:(nxt W (b,a)).2=c)(Y:c∉A)
  (hd:T.head?=some a) (lt:T.getLast?=some b) {u x w:Nat} (n1:Nx T u x) (m:Nx T x w) :
  ∃ row ins outs,W[x]?=some row/\Ro row (ins++outs)/\(∀ z∈ins,z∈A)/\(∀ z∈outs,z∉A)/\ins.head?=some u/\ins.getLast?=some w:=by
 have nx:∀ p q,Nx T p q↔Adj T p q\/(p=b/\q=a):=λ p q=>by
  obtain⟨I,rfl⟩:=Fc.head_split hd
  cases I with
  | nil =>
   cases lt
   show Adj ([a]++[a]) p q↔_;constructor
   ·rintro(⟨rfl,rfl⟩ | z)
    ·exact .inr ⟨rfl,rfl⟩
    ·exact z.elim
   ·rintro(z | ⟨rfl,rfl⟩)
    ·exact z.elim
    ·exact .inl ⟨rfl,rfl⟩
  | cons y I =>
   obtain⟨J,e⟩:=Fc.last_split (l:=y::I) (x:=b) (by rw[ig]at lt;exact lt);rw[e];exact nxP J a b p q
 have n:∀ p q,Nx T p q->E W p q/\p∈A/\q∈A/\(nxt W (p,q)).2∉A:=λ p q f=>by
  refine⟨?_,TT.sub _ (kT f).1,TT.sub _ (kT f).2,?_⟩
  ·rcases(nx p q).mp f with z | ⟨rfl,rfl⟩
   ·exact TT.path _ _ z
   ·exact L
  ·rcases(nx p q).mp f with z | ⟨rfl,rfl⟩
   ·exact h.up _ _ z
   ·rw[X];exact Y
 have O:∀ p q,p∈A->q∈A->E W p q->(nxt W (p,q)).2∉A->Nx T p q:=λ p q h1 M v N=>(nx p q).mpr (h.all p q h1 M v N);obtain⟨row,s,Z⟩:=(n x w m).1;obtain⟨g,i,e⟩:=zo Z;have B:Ro row ((i++g)++[w]):=⟨g++[w],i,by rw[e];simp,by simp⟩;have nd:=S.nd _ _ s;have D:=B.nd.mp nd;have st:∀ p q,Nx ((i++g)++[w]) p q->R W x p q:=λ p q f=>⟨row,s,(B.nx p q).mpr f⟩;have Q:=(n x w m).2.1;have wA:=(n x w m).2.2.1
 have g1:∀ p q,Nx ((i++g)++[w]) p q->p∈A->q∉A->p=w:=λ p q f hp C=>by
  obtain⟨o,H,U⟩:=nP S d (st p q f);exact jV TT.nd (O x p Q hp (zF (st p q f)).1 (by rw[o];exact C)) m
 have g2:∀ p q,Nx ((i++g)++[w]) p q->p∉A->q∈A->q=u:=λ p q f hp C=>by
  obtain⟨o,H,U⟩:=nP S d (st p q f);exact yJ TT.nd (O q x C Q (S.sym _ _ (zF (st p q f)).2) (by rw[H];exact hp)) n1
 obtain⟨outs,ins,e1,h1,M,v,N⟩:=kFC (P:=λ z=>z∈A) (u:=u) (w:=w) D (by simp) wA (λ p q ad=>g1 p q (yV ad)) (λ p q ad=>g2 p q (yV ad)) (λ G j z=>by
  have f:Nx ((i++g)++[w]) w G:=by
   obtain⟨I,e3⟩:=Fc.head_split j
   have:Nx ([w]++(i++g)) w G:=by
    cases hr:i++g with
    | nil =>
     rw[hr]at j;cases j
     exact .inl ⟨rfl,rfl⟩
    | cons y r =>
     rw[hr]at j;cases j
     exact yV (.inl ⟨rfl,rfl⟩)
   exact(jF _ _ _ _).mp this
  obtain⟨o,H,U⟩:=nP S d (st w G f);have:=(n x w m).2.2.2;rw[o]at this;exact this z)
 refine⟨row,ins,outs,s,B.trans ⟨outs,ins,e1,rfl⟩,M,h1,v,N⟩
end
end Tri
namespace Fc
open Cyc Rnd Tri
section
variable {W:Rows}
def inside(G:Good W){A T B M D:List Nat}{a b c x y v u p q:Nat}(h:Bd W A T a b)(TT:Top W A T)(L:E W b a)(bc:(nxt W (b,a)).2=c)(cA:c∉A)(hd:T.head?=some a)(lt:T.getLast?=some b)
  (e:T=B++(x::M++[y])++D) (vA:v∉A) (vc:v≠c) (ex:E W v x) (ey:E W v y) (ad:Adj (x::M++[y]) p q) (nu:(nxt W (p,q)).2=u) (uv:u≠v):u≠c/\∀ z∈B++D,¬ E W u z:=by
 have S:=(Wb.of G).toNb;have g:=(jC G).1;have a8:=TT.nd;rw[e]at a8;have d1:=cy.mp a8;have d2:=cy.mp d1.1;have sT:∀ z∈x::M++[y],z∈A:=λ z C=>TT.sub z (by rw[e];exact df _ (dc _ C))
 have Y:(v::(x::M)++[y]).Nodup:=by
  show(v::(x::M++[y])).Nodup;exact gh.mpr ⟨λ z=>vA (sT v z),d2.2.1⟩
 have an:∀ z,z∉A->z≠v->z∉v::(x::M)++[y]:=λ z C hv hc=>by
  rcases eA.mp hc with r | r
  ·exact hv r
  ·exact C (sT z r)
 have aT:∀ i j,Adj (x::M++[y]) i j->Adj T i j:=λ i j ha=>by
  rw[e,di];have e2:B++(x::M++[y]++D)=B++x::(M++[y]++D):=by simp
  rw[e2];refine(qY B x _ i j).mpr (.inr ?_);have:=mV D ha;simpa using this
 have nC:∀ i j,Nx (v::(x::M)++[y]) i j↔(i=v/\j=x)\/Adj (x::M++[y]) i j\/(i=y/\j=v):=λ i j=>by
  rw[nxP (x::M) v y i j];show((i=v/\j=x)\/Adj (x::M++[y]) i j)\/_↔_;rw[or_assoc]
 have ce:∀ i j,Nx (v::(x::M)++[y]) i j->E W i j:=λ i j hn=>by
  rcases(nC i j).mp hn with⟨rfl,rfl⟩ | z | ⟨rfl,rfl⟩
  ·exact ex
  ·exact TT.path _ _ (aT _ _ z)
  ·exact S.sym _ _ ey
 obtain⟨f,c1,sy,aa⟩:=kTE S G.con (kIS G) Y (by simp) ce;have a5:Nx (v::(x::M)++[y]) v x:=(nC _ _).mpr (.inl ⟨rfl,rfl⟩);have af:Nx (v::(x::M)++[y]) y v:=(nC _ _).mpr (.inr (.inr ⟨rfl,rfl⟩));have fw:∀ i j,Nx (v::(x::M)++[y]) i j->f i j=f v x:=λ i j hn=>kQF S Y c1 ce sy hn a5;have bw:∀ i j,Nx (v::(x::M)++[y]) i j->f j i≠f v x:=λ i j hn z=>aa i j hn ((fw i j hn).trans z.symm)
 have a1:∀{k i n z:Nat},Nx (v::(x::M)++[y]) i k->Nx (v::(x::M)++[y]) k n->E W k z->z≠i->z≠n->f k z=f z k:=λ hp hn ez n1 n2=>sy _ _ ez (λ s=>n2 (jV Y s hn)) (λ s=>n1 (yJ Y s hp))
 have a2:Nx (v::(x::M)++[y]) p q:=(nC _ _).mpr (.inr (.inl ad));obtain⟨N,m1,m2,m3,a7,ax⟩:=qT S g (ce p q a2);rw[m1]at nu;have nu:N=u:=nu;subst nu
 have uA:N∉A:=by
  have:=h.up p q (aT _ _ ad);rw[m1]at this;exact this
 have uC:=an N uA uv
 have up:∀ z,E W N z->f z N=f v x:=λ z ez=>by
  have s1:=c1 p q N (ce p q a2) m1;have s2:=sy q N a7 (λ s=>uC (kT s).2) (λ s=>uC (kT s).1);have s3:=rZ S c1 sy uC (S.sym _ _ a7) ez;have s4:=sy N z ez (λ s=>uC (kT s).1) (λ s=>uC (kT s).2);rw[<-s4,<-s3,<-s2,s1];exact fw p q a2
 obtain⟨py,ab⟩ : ∃ py,Adj (x::M++[y]) py y:=by
  obtain⟨z,C⟩:=cI (l:=x::M++[y]) (x:=y) (by simp);exact⟨z,C⟩
 have ah:Nx (v::(x::M)++[y]) py y:=(nC _ _).mpr (.inr (.inl ab))
 have ag:∀ w,Nx T y w->f y w≠f v x:=λ w hw=>by
  obtain⟨row,a6,o,Q,ro,a0,al,s,ht⟩:=h.row S g TT L bc cA hd lt (yV (aT _ _ ab)) hw;have U:(a6++o).Nodup:=ro.nd.mp (S.nd _ _ Q);obtain⟨I,rfl⟩:=head_split s;obtain⟨ac,O,mv⟩:=S.sym _ _ ey;rw[Q]at O
  cases O
  have vo:v∈o:=by
   rcases bz.mp ((ro.mem v).mp mv) with z | z
   ·exact absurd (a0 v z) vA
   ·exact z
  obtain⟨O1,O2,rfl⟩:=zo vo
  cases I with
  | nil =>
   cases ht
   exact bw _ _ ah
  | cons i I =>
   have wI:w∈i::I:=by
    rw[ig]at ht;exact wb ht
   have key:=kSY S c1 (A:=[py]) (B:=O2) (t:=v) Q (i::I++O1) (by simpa using ro) (λ z C=>by
    have Z:z∈i::I++O1:=ql C;refine a1 ah af ⟨row,Q,(ro.mem z).mpr ?_⟩ (λ zp=>?_) (λ zn=>?_)
    ·rcases bz.mp Z with r | r
     ·exact df _ (du _ r)
     ·exact dc _ (df _ r)
    ·rw[mj,gh]at U
     refine U.1 ?_;rw[<-zp];rcases bz.mp Z with r | r
     ·exact df _ r
     ·exact dc _ (df _ r)
    ·rw[zn]at Z
     rcases bz.mp Z with r | r
     ·exact vA (a0 v (du _ r))
     ·have:=(cy.mp (cy.mp U).2.1).2.2
      exact this v r v (by simp) rfl) w (df _ wI)
   rw[key];exact bw _ _ af
 have right:∀ z∈D,∀ w,E W z w->f z w≠f v x:=λ z C w ew=>by
  cases D with
  | nil=>cases C
  | cons d D =>
   have aw:Nx T y d:=by
    rw[e,show B++(x::M++[y])++d::D=(B++x::M)++y::d::D by simp];exact nx_mid _ _ _ _
   have:=dA S c1 sy (β:=f y d) (d::D) y (λ i j ha=>TT.path _ _ (by
    rw[e,show B++(x::M++[y])++d::D=(B++x::M)++y::d::D by simp]
    exact(qY _ y _ i j).mpr (.inr ha))) (λ k H hc=>by
     rcases eA.mp hc with r | r
     ·exact vA (r ▸ TT.sub k (by rw[e];exact dc _ H))
     ·exact d1.2.2 k (dc _ r) k H rfl) (λ ap X=>by cases X;rfl) z C w ew
   rw[this];exact ag d aw
 have ba:f b a≠f v x:=by
  cases hD:D with
  | nil =>
   have yb:y=b:=by
    rw[e,hD,iq,<-di,kh]at lt;exact bh lt
   have as:Nx T b a:=by
    obtain⟨I,eI⟩:=head_split hd;obtain⟨J,eJ⟩:=last_split lt;rw[eJ]
    have:Nx ([b]++J) b a:=by
     cases J with
     | nil =>
      rw[eJ]at hd;cases hd
      exact .inl ⟨rfl,rfl⟩
     | cons j J =>
      rw[eJ]at hd;cases hd
      exact yV (.inl ⟨rfl,rfl⟩)
    exact(jF _ _ _ _).mp this
   rw[<-yb];exact ag a (by rw[yb];exact as)
  | cons d D' =>
   refine right b ?_ a L;rw[e,hD,kh]at lt;rw[hD];refine wb (a:=b) ?_;rw[eo (Aw d D')]at lt ⊢;exact lt
 have left:∀ z∈B,∀ w,E W z w->f z w≠f v x:=λ z C w ew=>by
  have a9:B≠[]:=List.ne_nil_of_mem C;obtain⟨B',p0,eB⟩ : ∃ I u,B=I++[u]:=⟨B.dropLast,B.getLast a9,(eK a9).symm⟩
  have aq:Nx T p0 x:=by
   rw[e,eB,show B'++[p0]++(x::M++[y])++D=B'++p0::x::(M++[y]++D) by simp];exact nx_mid _ _ _ _
  obtain⟨w0,a4⟩ : ∃ w0,Adj (x::M++[y]) x w0:=by
   cases M with
   | nil=>exact⟨y,.inl ⟨rfl,rfl⟩⟩
   | cons m M=>exact⟨m,.inl ⟨rfl,rfl⟩⟩
  have am:Nx (v::(x::M)++[y]) x w0:=(nC _ _).mpr (.inr (.inl a4))
  have key:f x p0=f x v:=by
   obtain⟨row,a6,o,Q,ro,a0,al,s,ht⟩:=h.row S g TT L bc cA hd lt aq (yV (aT _ _ a4));have U:(a6++o).Nodup:=ro.nd.mp (S.nd _ _ Q);obtain⟨J,rfl⟩:=last_split ht;obtain⟨ac,O,mv⟩:=S.sym _ _ ex;rw[Q]at O
   cases O
   have vo:v∈o:=by
    rcases bz.mp ((ro.mem v).mp mv) with z | z
    ·exact absurd (a0 v z) vA
    ·exact z
   obtain⟨O1,O2,rfl⟩:=zo vo;have pw:p0≠w0:=λ z=>d2.2.2 p0 (by rw[eB];simp) w0 (ql (qI a4).2) z
   have pJ:p0∈J:=by
    cases J with
    | nil=>exact absurd (bh s).symm pw
    | cons i J=>rw[show p0=i from(bh s).symm];simp
   have a3:Ro row ([]++v::((O2++J)++(w0::O1))):=ro.trans ⟨J++[w0]++O1,v::O2,by simp,by simp⟩;have nd2:=a3.nd.mp (S.nd _ _ Q);rw[pd,gh]at nd2;refine kMH S c1 Q (O2++J) [] (w0::O1) v a3 (λ k H=>?_) p0 (dc _ pJ);refine a1 a5 am ⟨row,Q,(a3.mem k).mpr (by simp at H ⊢;rcases H with r | r<;>simp[r])⟩ (λ kv=>?_) (λ kw=>?_)
   ·exact nd2.1 (kv ▸ df _ H)
   ·exact(cy.mp nd2.2).2.2 k H w0 (by simp) kw
  have:=dA S c1 sy (β:=f x v) B.reverse x (λ i j ha=>S.sym _ _ (TT.path _ _ (by
   rw[e,di,show B++(x::M++[y]++D)=B++x::(M++[y]++D) by simp];refine(qY _ x _ j i).mpr (.inl ?_);refine kGQ (l:=B++[x]) (p:=i) (q:=j) ?_;rw[yt]
   exact ha))) (λ k H hc=>by
    have H:=ou.mp H;rcases eA.mp hc with r | r
    ·exact vA (r ▸ TT.sub k (by rw[e];exact df _ (df _ H)))
    ·exact d2.2.2 k H k r rfl) (λ ap X=>by
     rw[eB,yt]at X;cases X
     exact key) z (ou.mpr C) w ew
  rw[this];exact bw _ _ a5
 refine⟨λ uc=>?_,λ z C ez=>?_⟩
 ·subst uc
  obtain⟨z,k1,k2,k3,f1,f2⟩:=qT S g L;rw[k1]at bc;have bc:z=N:=bc;subst bc;have:=c1 b a z L k1;exact ba (this.symm.trans (up a (S.sym _ _ f1)))
 ·rcases bz.mp C with r | r
  ·exact left z r N (S.sym _ _ ez) (up z ez)
  ·exact right z r N (S.sym _ _ ez) (up z ez)
end
end Fc
namespace Tri
open Cyc Rnd
theorem mQ{row:List Nat}:∀(R:List Nat)(x:Nat)(P rest:List Nat),(P++x::rest).Nodup->(P++x::R).Nodup->(∀ p q,Adj (x::R) p q->Nx (P++x::rest) p q)->∃ Q,rest=R++Q
 | [],x,P,rest,_,_,_=>⟨rest,rfl⟩
 | y::R,x,P,rest,nd,ndR,st=>by
  have h:=st x y (.inl ⟨rfl,rfl⟩)
  cases rest with
  | nil =>
   exfalso;have b:Nx ([x]++P) x y:=(jF P [x] x y).mp h;have c:y∈P++[x]:=(kT h).2;rw[show P++x::y::R=(P++[x])++y::R by simp]at ndR;exact(cy.mp ndR).2.2 y c y (by simp) rfl
  | cons y0 rest =>
   have b:Nx (P++x::y0::rest) x y0:=Fc.nx_mid P x y0 rest;have:=jV nd h b;subst this
   obtain⟨Q,e⟩:=mQ (row:=row) R y (P++[x]) rest (by simpa using nd) (by simpa using ndR) (λ p q a=>by
    have:=st p q (.inr a);simpa using this)
   exact⟨Q,by rw[e];rfl⟩
section
variable {W:Rows}
def Bd.inn(S:Nb W){A T:List Nat}{a b:Nat}(h:Bd W A T a b)(l:a∈T)(has:∀ x∈A,∃ y∈A,E W x y){x y:Nat}(c:x∈A)(m:y∉A)(e:E W x y):x∈T:=by
 refine eR λ o=>m ?_;obtain⟨p,hp,j⟩:=has x c;obtain⟨r,q,nd,mem,pv⟩:=Fc.row_at S (S.e e).1;refine Fc.rot_to nd (P:=λ z=>z∈A) ((mem y).mpr e) ((mem p).mpr j) hp λ w v i _ g f=>?_;refine eR λ d=>o ?_;have n:=pv w v g;rcases h.all w x f c (S.sym _ _ ((mem w).mp i)) (by rw[n];exact d) with z | ⟨_,rfl⟩
 ·exact ql (qI z).2
 ·exact l
def xS{T:List Nat}{m:Nat}(h:m<T.length):T[m]?=some (T.getD m 0):=by rw[ao,ae h];rfl
theorem vP:∀{T:List Nat}{m:Nat},m+1<T.length->Adj T (T.getD m 0) (T.getD (m+1) 0)
 | [],_,h=>by simp at h
 | [_],_,h=>by simp at h
 | a::b::r,0,_=>.inl ⟨rfl,rfl⟩
 | a::b::r,m+1,h=>.inr (by
  have:=vP (T:=b::r) (m:=m) (by simpa using h);simpa using this)
theorem fU:∀{T:List Nat}{p q:Nat},Adj T p q->∃ m,m+1<T.length/\p=T.getD m 0/\q=T.getD (m+1) 0
 | [],_,_,h=>h.elim
 | [_],_,_,h=>h.elim
 | a::b::r,p,q,h=>by
  rcases h with⟨rfl,rfl⟩ | h
  ·exact⟨0,by simp,rfl,rfl⟩
  ·obtain⟨m,h1,c,d⟩:=fU (T:=b::r) h
   exact⟨m+1,by simpa using h1,by simpa using c,by simpa using d⟩
def aQ(T:List Nat)(i k:Nat):List Nat:=(T.drop i).take (k+1-i)
def uO{T:List Nat}{i k:Nat}(h:i<=k)(a:k<T.length):(aQ T i k).length=k+1-i:=by
 unfold aQ;rw[dq,iZ];omega
def zB{T:List Nat}{i k j:Nat}(h:i<=k)(b:k<T.length)(a:j<k+1-i):(aQ T i k).getD j 0=T.getD (i+j) 0:=by
 unfold aQ;rw[ao,Dc,if_pos a,Bh,ao]
def kBT{T:List Nat}{i k:Nat}(h:i<=k)(a:k<T.length):T=T.take i++aQ T i k++T.drop (k+1):=by
 unfold aQ;have e:T.drop (k+1)=(T.drop i).drop (k+1-i):=by rw[AR];congr 1;omega
 rw[e,di,fv,fv]
def pH{T:List Nat}{i k:Nat}(h:i<k)(b:k<T.length):∃ M,aQ T i k=T.getD i 0::M++[T.getD k 0]:=by
 have l:=uO (gk h) b;have d:=zB (j:=0) (gk h) b (by omega);have a:=zB (j:=k-i) (gk h) b (by omega);rw[show i+(k-i)=k by omega]at a;generalize aQ T i k=L at l d a
 cases L with
 | nil=>simp at l;omega
 | cons x L =>
  have c:L≠[]:=λ z=>by rw[z]at l;simp at l;omega
  refine⟨L.dropLast,?_⟩;have g:x=T.getD i 0:=d
  have f:L.getLast c=T.getD k 0:=by
   rw[<-a,List.getLast_eq_getElem,ao];have m:L.length=k-i:=by simp at l;omega
   have:k-i=(L.length-1)+1:=by have:=wo.mpr c;omega
   rw[this,List.getElem?_cons_succ,ae]
   rfl
  rw[<-g,<-f,mj,eK]
def kNL{T:List Nat}{i k l:Nat}(h1:i<=l)(b:l<=k)(a:k<T.length):T.getD l 0∈aQ T i k:=by
 have:=zB (T:=T) (i:=i) (k:=k) (j:=l-i) (by omega) a (by omega);rw[show i+(l-i)=l by omega]at this;rw[<-this];refine dh (xS ?_);rw[uO (by omega) a];omega
def kMA{T:List Nat}{i k x:Nat}(h:i<=k)(a:k<T.length)(c:x∈aQ T i k):∃ l,i<=l/\l<=k/\x=T.getD l 0:=by
 obtain⟨j,b,rfl⟩:=eO.mp c;have l:=uO h a;refine⟨i+j,by omega,by omega,?_⟩;rw[<-zB h a (by omega),ao,ae b]
 rfl
structure Nxt(W:Rows)(A:List Nat)(c v:Nat)(row R Q:List Nat):Prop where
 lt:v<W.length
 no:v∉A
 nc:v≠c
 er:W[v]?=some row
 ro:Ro row (R++Q)
 hR:∀ x∈R,x∈A
 hQ:∀ x∈Q,x∉A
 two:2<=R.length
 ne:Q≠[]
def mJ{T:List Nat}(nd:T.Nodup){i j:Nat}(hi:i<T.length)(a:j<T.length)(e:T.getD i 0=T.getD j 0):i=j:=by
 have h1:=xS hi;have b:=xS a;rw[e,<-b]at h1;exact(yj hi nd).mp h1
def kVI(S:Nb W)(d:∀ t∈kM W,(nxt W (nxt W t)).2=t.1){A T:List Nat}{a b c:Nat}(h:Bd W A T a b)(TT:Top W A T)(bc:(nxt W (b,a)).2=c)(aT:a∈T)(has:∀ x∈A,∃ y∈A,E W x y)
  {u lo hi:Nat} (uA:u∉A) (uc:u≠c) (j:lo<hi) (f:hi<T.length) (U:∀ m,lo<=m->m<hi->(nxt W (T.getD m 0,T.getD (m+1) 0)).2=u) (only:∀ l,l<T.length->E W u (T.getD l 0)->lo<=l/\l<=hi):∃ v row R Q,Nxt W A c v row R Q:=by
 have H:∀ m,lo<=m->m<hi->R W u (T.getD m 0) (T.getD (m+1) 0):=λ m h1 h2=>by
  have e:=TT.path _ _ (vP (T:=T) (m:=m) (by omega));obtain⟨z,m1,m2,m3,O,e2⟩:=qT S d e;have:=U m h1 h2;rw[m1]at this;have this:z=u:=this;subst this;obtain⟨q,r,n,_⟩:=xK S O;rw[m2]at n;cases n
  exact r
 obtain⟨row,i,D⟩:=H lo (bf _) j;have nd:=S.nd _ _ i;have cl:=uO (T:=T) (gk j) f
 have o:(aQ T lo hi).Nodup:=by
  have:=TT.nd;rw[kBT (gk j) f]at this;exact(cy.mp (cy.mp this).1).2.1
 have C:∀ p q,Adj (aQ T lo hi) p q->Nx row p q:=λ p q ad=>by
  obtain⟨m,h1,rfl,rfl⟩:=fU ad;rw[zB (gk j) f (by omega),zB (gk j) f (by omega)];obtain⟨a1,G,B⟩:=H (lo+m) (by omega) (by omega);rw[i]at G
  cases G
  exact B
 obtain⟨M,L⟩:=pH j f;obtain⟨X,Y,e0⟩:=zo (kT D).1;have g:Ro row ([]++T.getD lo 0::(Y++X)):=⟨X,T.getD lo 0::Y,e0,by simp⟩;obtain⟨Q,eQ⟩:=mQ (row:=row) (M++[T.getD hi 0]) (T.getD lo 0) [] (Y++X) (g.nd.mp nd) (by rw[L]at o;exact o) (λ p q ad=>(g.nx p q).mp (C p q (by rw[L];exact ad)))
 have s:Ro row (aQ T lo hi++Q):=by
  rw[L];rw[eQ]at g;simpa using g
 have a0:=s.nd.mp nd;refine⟨u,row,aQ T lo hi,Q,⟨(ak.mp i).1,uA,uc,i,s,λ x N=>?_,λ x N xA=>?_,by omega,λ z=>?_⟩⟩
 ·obtain⟨l,_,_,rfl⟩:=kMA (gk j) f N
  exact TT.sub _ (dh (xS (by omega)))
 ·have Z:E W u x:=⟨row,i,(s.mem x).mpr (dc _ N)⟩
  have xT:=h.inn S aT has xA uA (S.sym _ _ Z);obtain⟨l,J,I⟩:=eO.mp xT;have I:x=T.getD l 0:=by rw[ao,ae J,<-I];rfl
  rw[I]at Z;obtain⟨o1,o2⟩:=only l J Z;exact(cy.mp a0).2.2 x (by rw[I];exact kNL o1 o2 f) x N rfl
 ·rw[z,iq,L]at s
  have B:Nx row (T.getD hi 0) (T.getD lo 0):=(s.nx _ _).mpr ((nxP M _ _ _ _).mpr (.inr ⟨rfl,rfl⟩));obtain⟨t1,t2,t3⟩:=nP S d (x:=u) ⟨row,i,B⟩
  have eh:E W (T.getD hi 0) (T.getD lo 0):=by
   obtain⟨z,_,m2,_,O,e2⟩:=qT S d (x:=u) (y:=T.getD hi 0) ⟨row,i,(kT B).1⟩;rw[t1]at *;have:=O
   have q:z=T.getD lo 0:=by
    obtain⟨z',k1,_⟩:=qT S d (x:=u) (y:=T.getD hi 0) ⟨row,i,(kT B).1⟩;exact eR λ _=>by simp_all
   exact q ▸ O
  have mem:∀ l,l<T.length->T.getD l 0∈A:=λ l J=>TT.sub _ (dh (xS J));rcases h.all _ _ (mem hi f) (mem lo (by omega)) eh (by rw[t3];exact uA) with q | ⟨q1,q2⟩
  ·obtain⟨m,h1,h2,h3⟩:=fU q
   have i1:=mJ TT.nd f (by omega) h2;have i2:=mJ TT.nd (by omega) h1 h3;omega
  ·rw[q1,q2]at t3
   rw[t3]at bc;exact uc bc
def inT(G:Good W){A T:List Nat}{a b c v u i k m:Nat}(h:Bd W A T a b)(TT:Top W A T)(g:E W b a)(x:(nxt W (b,a)).2=c)(C:c∉A)(I:T.head?=some a)(lt:T.getLast?=some b)
  (d:i<k) (f:k<T.length) (s:v∉A) (B:v≠c) (ex:E W v (T.getD i 0)) (y:E W v (T.getD k 0)) (J:i<=m) (mk:m<k) (H:(nxt W (T.getD m 0,T.getD (m+1) 0)).2=u) (D:u≠v) :
  u≠c/\∀ l,l<T.length->E W u (T.getD l 0)->i<=l/\l<=k:=by
 obtain⟨M,p⟩:=pH d f;have e:=kBT (gk d) f
 have ad:Adj (T.getD i 0::M++[T.getD k 0]) (T.getD m 0) (T.getD (m+1) 0):=by
  have:=vP (T:=aQ T i k) (m:=m-i) (by rw[uO (gk d) f];omega);rw[zB (gk d) f (by omega),zB (gk d) f (by omega),show i+(m-i)=m by omega,show i+(m-i+1)=m+1 by omega,p]at this;exact this
 rw[p]at e;obtain⟨h1,o⟩:=Fc.inside G h TT g x C I lt e s B ex y ad H D;refine⟨h1,λ l n j=>?_⟩;rcases iY l i with q | q
 ·refine absurd j (o _ (df _ ?_))
  refine dh (i:=l) ?_;rw[Dc,if_pos q];exact xS n
 ·rcases iY k l with r | r
  ·refine absurd j (o _ (dc _ ?_))
   refine dh (i:=l-(k+1)) ?_;rw[Bh,show k+1+(l-(k+1))=l by omega];exact xS n
  ·exact⟨q,r⟩
def kQH{P:Nat->Prop}{t m:Nat}(p:P m)(mt:m+1<t)(i:P (m+1)):∃ lo hi,lo<=m/\m+1<=hi/\hi<t/\P lo/\P hi/\∀ l,l<t->P l->lo<=l/\l<=hi:=by
 have low:∀ n,n<=m->(∃ l,l<=n/\P l)->∃ lo,lo<=n/\P lo/\∀ l,P l->lo<=l:=by
  intro n
  induction n with
  | zero =>
   rintro _ ⟨l,h1,a⟩;exact⟨0,bf _,(by rw[show 0=l by omega];exact a),λ l _=>iH _⟩
  | succ n ih =>
   rintro o ⟨l,h1,a⟩;by_cases c:∃ l,l<=n/\P l
   ·obtain⟨lo,g,h,f⟩:=ih (by omega) c
    exact⟨lo,by omega,h,f⟩
   ·have:l=n+1:=by
     rcases iY l (n+1) with q | q
     ·exact absurd ⟨l,by omega,a⟩ c
     ·omega
    refine⟨n+1,bf _,this ▸ a,λ b j=>?_⟩;rcases iY b (n+1) with q | q
    ·exact absurd ⟨b,by omega,j⟩ c
    ·exact q
 have high:∀ d n,n+d+1=t->(∃ l,n<=l/\l<t/\P l)->∃ hi,n<=hi/\hi<t/\P hi/\∀ l,l<t->P l->l<=hi:=by
  intro d
  induction d with
  | zero =>
   rintro n o ⟨l,h1,a,g⟩;exact⟨l,h1,a,g,λ b j _=>by omega⟩
  | succ d ih =>
   rintro n o ⟨l,h1,a,g⟩;by_cases c:∃ l,n+1<=l/\l<t/\P l
   ·obtain⟨hi,h,f,y,x⟩:=ih (n+1) (by omega) c
    exact⟨hi,by omega,f,y,x⟩
   ·refine⟨l,h1,a,g,λ b h f=>?_⟩
    rcases iY l b with q | q
    ·exact absurd ⟨b,by omega,h,f⟩ c
    ·exact q
 obtain⟨lo,v,u,r⟩:=low m (bf _) ⟨m,bf _,p⟩;obtain⟨hi,C,B,s,A⟩:=high (t-m-2) (m+1) (by omega) ⟨m+1,bf _,mt,i⟩;exact⟨lo,hi,v,C,B,u,s,λ l h1 a=>⟨r l a,A l h1 a⟩⟩
def kHK(G:Good W){A T:List Nat}{a b c:Nat}(h:Bd W A T a b)(TT:Top W A T)(s:E W b a)(bc:(nxt W (b,a)).2=c)(cA:c∉A)(hd:T.head?=some a)(lt:T.getLast?=some b)
  (has:∀ x∈A,∃ y∈A,E W x y) {z:Nat} (zl:z<W.length) (zA:z∉A) (zc:z≠c):∃ v row R Q,Nxt W A c v row R Q:=by
 have S:=(Wb.of G).toNb;have d:=(jC G).1;have aT:a∈T:=EF hd;have bT:b∈T:=wb lt;have ab:a≠b:=λ q=>(S.e s).2.2 q;have mem:∀ l,l<T.length->T.getD l 0∈A:=λ l D=>TT.sub _ (dh (xS D));have B:∀ m,m+1<T.length->Adj T (T.getD m 0) (T.getD (m+1) 0):=λ m H=>vP H
 have a0:∀ m u,m+1<T.length->(nxt W (T.getD m 0,T.getD (m+1) 0)).2=u->u∉A/\E W u (T.getD m 0)/\E W u (T.getD (m+1) 0):=λ m u H e=>by
  obtain⟨z,m1,m2,m3,e1,e2⟩:=qT S d (TT.path _ _ (B m H));have up:=h.up _ _ (B m H);rw[m1]at e up;have e:z=u:=e;subst e;exact⟨up,e2,S.sym _ _ e1⟩
 refine eR λ no=>?_
 have a2:∀ m u,m+1<T.length->(nxt W (T.getD m 0,T.getD (m+1) 0)).2=u->u≠c->(∀ l,E W u (T.getD l 0)->l<m->∀ g,l<=g->g<m->(nxt W (T.getD g 0,T.getD (g+1) 0)).2=u)->(∀ l,l<T.length->E W u (T.getD l 0)->m+1<l->∀ g,m+1<=g->g<l->(nxt W (T.getD g 0,T.getD (g+1) 0)).2=u)->False:=λ m u H eu O a4 a8=>by
  obtain⟨uA,Y,U⟩:=a0 m u H eu;obtain⟨lo,hi,l1,l2,l3,l4,l5,l6⟩:=kQH (P:=λ l=>E W u (T.getD l 0)) Y H U;refine no (kVI S d h TT bc aT has uA O (lo:=lo) (hi:=hi) (by omega) l3 (λ g N M=>?_) l6);rcases yg g m with r | r | r
  ·exact a4 lo l4 (by omega) g N r
  ·rw[r];exact eu
  ·exact a8 hi l3 l5 (by omega) g (by omega) M
 have C:∀ n v i k,k-i=n->i<k->k<T.length->v∉A->v≠c->E W v (T.getD i 0)->E W v (T.getD k 0)->∀ m,i<=m->m<k->(nxt W (T.getD m 0,T.getD (m+1) 0)).2=v:=by
  intro n
  induction n using BG with
  | _ n ih =>
   intro v i k en ik kt vA vc ex ey m im mk;refine eR λ ne=>?_;obtain⟨uA,Y,U⟩:=a0 m _ (by omega) rfl;obtain⟨O,on⟩:=inT G h TT s bc cA hd lt ik kt vA vc ex ey im mk rfl ne;refine a2 m _ (by omega) rfl O (λ l j Z g N M=>?_) (λ l D j Z g N M=>?_)
   ·have:=on l (by omega) j
    exact ih (m-l) (by omega) _ l m rfl Z (by omega) uA O j Y g N M
   ·have:=on l D j
    exact ih (l-(m+1)) (by omega) _ (m+1) l rfl Z D uA O U j g N M
 have X:∀ m,m+1<T.length->(nxt W (T.getD m 0,T.getD (m+1) 0)).2=c:=λ m H=>by
  refine eR λ O=>?_;obtain⟨uA,Y,U⟩:=a0 m _ H rfl;refine a2 m _ H rfl O (λ l j Z g N M=>?_) (λ l D j Z g N M=>?_)
  ·exact C _ _ l m rfl Z (by omega) uA O j Y g N M
  ·exact C _ _ (m+1) l rfl Z D uA O U j g N M
 obtain⟨cz,k1,k2,k3,f1,f2⟩:=qT S d s;have ah:=bc;rw[k1]at bc;have bc:cz=c:=bc
 subst bc
 have cT:∀ x,E W cz x->x∈T:=λ x ex=>by
  obtain⟨r,er,nd,mm,pv⟩:=Fc.row_at S (S.e ex).1;refine Fc.rot_to nd (P:=λ z=>z∈T) ((mm x).mpr ex) ((mm a).mpr (S.sym _ _ f1)) aT λ w v hw _ hv wT=>?_;have n:=pv w v hv;obtain⟨l,D,j⟩:=eO.mp wT;have j:w=T.getD l 0:=by rw[ao,ae D,<-j];rfl
  cases l with
  | zero =>
   have wa:w=a:=by
    rw[j,ao,<-List.head?_eq_getElem?,hd];rfl
   rw[wa,k2]at n;cases n
   exact bT
  | succ l =>
   obtain⟨z',m1,m2,m3,e1,e2⟩:=qT S d (TT.path _ _ (B l D));have:=X l D;rw[m1]at this;have this:z'=cz:=this;subst this;rw[j,m2]at n;cases n
   exact dh (xS (by omega))
 have tc:∀ x y,x∈T->E W x y->y∈A\/y=cz:=λ x y hx e=>by
  obtain⟨u,Y⟩:=kRF hx;obtain⟨w,U⟩:=cW hx;obtain⟨row,aa,f,er,ro,a9,af,hh,ht⟩:=h.row S d TT s (by rw[k1]) cA hd lt Y U;obtain⟨ac,a3,my⟩:=e;rw[er]at a3
  cases a3
  rcases bz.mp ((ro.mem y).mp my) with q | q
  ·exact .inl (a9 y q)
  ·right
   have a6:(aa++f).Nodup:=ro.nd.mp (S.nd _ _ er)
   have th:∀ p q,Nx T p q->nxt W (p,q)=(q,cz):=λ p q hn=>by
    have:Adj T p q\/(p=b/\q=a):=by
     obtain⟨I,rfl⟩:=Fc.head_split hd
     cases I with
     | nil =>
      cases lt
      exact absurd rfl ab
     | cons y I =>
      obtain⟨J,e⟩:=Fc.last_split (l:=y::I) (x:=b) (by rw[ig]at lt;exact lt);rw[e]at hn ⊢;exact(nxP J a b p q).mp hn
    rcases this with z | ⟨rfl,rfl⟩
    ·obtain⟨m,h1,rfl,rfl⟩:=fU z
     exact qv rfl (X m h1)
    ·exact k1
   obtain⟨I,eI⟩:=Fc.last_split ht;obtain⟨J,eJ⟩:=Fc.head_split hh
   cases f with
   | nil=>cases q
   | cons o f =>
    have hn:Nx row w o:=(ro.nx _ _).mpr (by
     rw[eI,di];exact Fc.nx_mid I w o f)
    obtain⟨t1,t2,t3⟩:=nP S d (x:=x) ⟨row,er,hn⟩;have t4:=th x w U;rw[t1]at t4;have oc:o=cz:=congrArg qh t4;subst oc;obtain⟨L,lst,eL⟩ : ∃ L lst,o::f=L++[lst]:=⟨(o::f).dropLast,(o::f).getLast (Aw _ _),(eK _).symm⟩
    have a5:Nx row lst u:=(ro.nx _ _).mpr (by
     rw[eL,eJ];refine(jF _ _ _ _).mpr ?_;rw[di];exact Fc.nx_mid L lst u J)
    obtain⟨al,a7,ag⟩:=nP S d (x:=x) ⟨row,er,a5⟩;have t5:=th u x Y;rw[a7]at t5;have lc:lst=o:=congrArg qh t5;subst lc
    cases L with
    | nil =>
     rw[eL]at q;exact cg.mp q
    | cons l0 L =>
     have e0:lst=l0:=(Fm eL).1;have nd3:=(cy.mp a6).2.1;rw[eL,<-e0,mj,gh]at nd3;exact absurd (by simp) nd3.1
 have a1:∀ x,Reach W a x->x∈A\/x=cz:=λ x r=>by
  induction r with
  | here=>exact .inl (TT.sub a aT)
  | more _ e ih =>
   rename_i p q _
   rcases ih with r | r
   ·by_cases qA:q∈A
    ·exact .inl qA
    ·exact tc p q (h.inn S aT has r qA e) e
   ·rw[r]at e
    exact .inl (TT.sub q (cT q e))
 rcases a1 z ((Reach.symm S.sym (G.con a (S.e s).2.1)).trans (G.con z zl)) with q | q
 ·exact zA q
 ·exact zc q
end
structure OI(W:Rows)(a b c:Nat)(O:List Nat)(Fs Ts:List (List Nat)):Prop where
 go:goF W O (O.length-2)=some (Fs,Ts)
 two:2<=O.length
 e2:O.take 2=[a,b]
 nd:O.Nodup
 nc:c∉O
 lt:∀ x∈O,x<W.length
section
variable {W:Rows} {a b c:Nat}
def kBO{x y:Nat}(h:y∈W.getD x []):E W x y:=by
 rw[ao]at h
 cases w:W[x]? with
 | none=>rw[w]at h;cases h
 | some row=>rw[w]at h;exact⟨row,w,h⟩
def OI.start(S:Nb W)(d:E W a b)(g:c≠a)(h:c≠b):OI W a b c [a,b] [] [[a,b]]:=by
 have:=S.e d;refine⟨rfl,by simp,rfl,by simp;exact λ q=>this.2.2 q.symm,by simp[g,h],λ x f=>?_⟩;simp at f;rcases f with rfl | rfl
 ·exact this.1
 ·exact this.2.1
def OI.full{O:List Nat}{d f:List (List Nat)}(I:OI W a b c O d f):O.take (O.length-2+2)=O:=by
 rw[uk I.two,iL]
def OI.top(S:Nb W)(d:E W a b){O:List Nat}{g f:List (List Nat)}(I:OI W a b c O g f):Top W O (f.getLastD []):=by
 have:=vK I.nd S.sym (by rw[I.e2];exact vD S d) (by have:=I.two;omega) I.go;rwa[I.full]at this
def OI.bd(S:Nb W)(d:∀ t∈kM W,(nxt W (nxt W t)).2=t.1)(f:E W a b)(i:(nxt W (b,a)).2=c){O:List Nat}{h g:List (List Nat)}(I:OI W a b c O h g):Bd W O (g.getLastD []) a b:=by
 have:=kTK S d I.nd I.e2 f i I.nc (by have:=I.two;omega) I.go;rwa[I.full]at this
def kGB(S:Nb W)(g:E W a b){c:List Nat}(o:c.Nodup)(e2:c.take 2=[a,b]):∀{i:Nat}{fs ts:List (List Nat)},i+2<=c.length->goF W c i=some (fs,ts)->((ts.getLastD []).head?=some a/\(ts.getLastD []).getLast?=some b)/\∀ x∈c.take (i+2),∃ y∈c.take (i+2),E W x y:=by
 have h0:Top W (c.take 2) (c.take 2):=by rw[e2];exact vD S g
 intro i
 induction i with
 | zero =>
  intro fs ts _ h;unfold goF at h;have h:=bh h;injection h with h1 h2
  rw[<-h2];show(((c.take 2)).head?=_/\((c.take 2)).getLast?=_)/\∀ x∈c.take 2,∃ y∈c.take 2,E W x y;rw[e2];refine⟨⟨rfl,rfl⟩,λ x n=>?_⟩;simp at n;rcases n with rfl | rfl
  ·exact⟨b,by simp,g⟩
  ·exact⟨a,by simp,S.sym _ _ g⟩
 | succ i ih =>
  intro fs ts I h;obtain⟨J,L,e⟩:=wD (i:=i) (j:=1) h;obtain⟨st,z,O,D⟩:=yX e h;have TT:=vK o S.sym h0 (by omega) e;obtain⟨⟨p,m⟩,G⟩:=ih (by omega) e;have H:c[i+2]?=some (c.getD (i+2) 0):=by rw[ao,ae (by omega)];rfl
  have tk:c.take (i+1+2)=c.take (i+2)++[c.getD (i+2) 0]:=by rw[jd,H];rfl
  obtain⟨B,f,M,l,C,s,r,mem,N⟩:=wL TT.nd z
  have d:ts.getLastD []=B++[f,c.getD (i+2) 0,l]++C:=by
   rw[D,bP,s];exact zW r TT.nd
  rw[d,tk];rw[r]at p m;refine⟨⟨?_,?_⟩,λ x n=>?_⟩
  ·cases B with
   | nil=>exact p
   | cons b0 B=>exact p
  ·cases C with
   | nil =>
    simp only[iq,kh]at m ⊢;simpa using m
   | cons c0 C =>
    rw[kh]at m ⊢;rw[eo (Aw c0 C)]at m ⊢;exact m
  ·rcases bz.mp n with q | q
   ·obtain⟨y,v,A⟩:=G x q
    exact⟨y,df _ v,A⟩
   ·have u:=(mem f).mp (by rw[s];simp)
    refine⟨f,df _ u.1,?_⟩;rw[cg.mp q];exact kBO u.2
def OI.next(G:Good W)(d:E W a b)(g:(nxt W (b,a)).2=c){O:List Nat}{j o:List (List Nat)}(I:OI W a b c O j o)(more:O.length+1<W.length):∃ v row R Q,Nxt W O c v row R Q:=by
 have S:=(Wb.of G).toNb;have f:=(jC G).1;obtain⟨⟨h1,m⟩,h⟩:=kGB S d I.nd I.e2 (by have:=I.two;omega) I.go;rw[I.full]at h
 obtain⟨z,l,p,r⟩ : ∃ z,z<W.length/\z∉O/\z≠c:=by
  refine eR λ s=>?_
  have:=eV (qk (n:=W.length)) (l₂:=c::O) λ x i=>by
   refine eR λ nx=>s ⟨x,iP.mp i,λ q=>nx (du _ q),λ q=>nx (q ▸ eP ..)⟩
  rw[fu,iJ]at this;omega
 exact kHK G (I.bd S f d g) (I.top S d) (S.sym _ _ d) g I.nc h1 m h l p r
def OI.more(S:Nb W)(d:∀ t∈kM W,(nxt W (nxt W t)).2=t.1)(f:E W a b)(j:(nxt W (b,a)).2=c){O R Q row:List Nat}{v:Nat}{i g:List (List Nat)}(I:OI W a b c O i g)(N:Nxt W O c v row R Q) :
  ∃ Ts',OI W a b c (O++[v]) (i++[R]) Ts':=by
 have st:=kSA S d (I.bd S d f j) (I.top S f) I.nd j N.nc N.no N.er N.ro N.hR N.hQ N.two;have two:=I.two
 have l:goF W (O++[v]) (O.length-2)=some (i,g):=by
  rw[<-I.go];refine mH ?_;rw[uk two,iL,yq rfl]
 have n:=aN (st:=R) l (by
  rw[uk two,yq rfl,ao,dr];exact st)
 refine⟨g++[poF (g.getLastD []) R ((O++[v]).getD (O.length-2+2) 0)],⟨?_,by rw[bu];omega,by rw[xi two];exact I.e2,?_,?_,λ x h=>?_⟩⟩
 ·rw[bu,fj,show O.length+1-2=O.length-2+1 by omega]
  exact n
 ·exact cy.mpr ⟨I.nd,by simp,λ x h y m z=>N.no (by rw[<-cg.mp m,<-z];exact h)⟩
 ·intro q
  rcases bz.mp q with q | q
  ·exact I.nc q
  ·exact N.nc (cg.mp q).symm
 ·rcases bz.mp h with q | q
  ·exact I.lt x q
  ·rw[cg.mp q];exact N.lt
def OI.last(G:Good W)(o:E W a b)(L:(nxt W (b,a)).2=c){O:List Nat}{Z D:List (List Nat)}(I:OI W a b c O Z D)(full:O.length+1=W.length) :
  ∃ row Ts',W[c]?=some row/\Ro row (D.getLastD [])/\(D.getLastD []).head?=some a/\jR W a b c (O++[c])=some (Z++[D.getLastD []],Ts')/\(O++[c]).Perm (cf W.length):=by
 have S:=(Wb.of G).toNb;have g:=(jC G).1;have TT:=I.top S o;have h:=I.bd S g o L;obtain⟨⟨u,lt⟩,has⟩:=kGB S o I.nd I.e2 (by have:=I.two;omega) I.go;rw[I.full]at has;have two:=I.two;obtain⟨f,k1,k2,k3,f1,f2⟩:=qT S g (S.sym _ _ o);rw[k1]at L;have L:f=c:=L;subst L;have cl:f<W.length:=(S.e f2).1
 have pm:(O++[f]).Perm (cf W.length):=by
  have nd:(O++[f]).Nodup:=cy.mpr ⟨I.nd,by simp,λ x s y hy z=>I.nc (by rw[<-cg.mp hy,<-z];exact s)⟩
  have sub:∀ x∈O++[f],x∈cf W.length:=λ x s=>by
   rcases bz.mp s with q | q
   ·exact iP.mpr (I.lt x q)
   ·rw[cg.mp q];exact iP.mpr cl
  refine(qj nd qk).mpr λ x=>⟨sub x,λ s=>eR λ X=>?_⟩
  have:=eV (gh.mpr ⟨X,nd⟩) (l₂:=cf W.length) λ y hy=>by
   rcases eA.mp hy with q | q
   ·rw[q];exact s
   ·exact sub y q
  rw[iJ,bu,fj,fu]at this;omega
 have only:∀ x,x<W.length->x∉O->x=f:=λ x s X=>by
  have:=pm.mem_iff.mpr (iP.mpr s);rcases bz.mp this with q | q
  ·exact absurd q X
  ·exact cg.mp q
 generalize hT:D.getLastD []=T at *;have aT:a∈T:=EF u;have bT:b∈T:=wb lt;have Y:b≠a:=(S.e o).2.2
 have lT:2<=T.length:=by
  match T,u,lt with
  | [],u,_=>cases u
  | [x],u,lt =>
   cases u
   cases lt
   exact absurd rfl Y
  | _::_::_,_,_=>simp
 have U:∀ p q,Adj T p q->nxt W (p,q)=(q,f)/\R W f p q:=λ p q ad=>by
  obtain⟨z,m1,m2,m3,e1,v⟩:=qT S g (TT.path _ _ ad);have up:=h.up p q ad;rw[m1]at up;have:=only z (S.e e1).2.1 up;subst this;obtain⟨y,r,n,_⟩:=xK S e1;rw[m2]at n;cases n
  exact⟨m1,r⟩
 obtain⟨row,H,ma⟩:=S.sym _ _ f1;have nd:=S.nd _ _ H
 have mem:∀ x,x∈row↔x∈T:=λ x=>by
  constructor
  ·intro s
   have ex:E W f x:=⟨row,H,s⟩;have xl:=S.e ex;have xO:x∈O:=eR λ X=>xl.2.2 (only x xl.2.1 X);exact h.inn S aT has xO I.nc (S.sym _ _ ex)
  ·intro s
   obtain⟨l,hl,el⟩:=eO.mp s;have el:x=T.getD l 0:=by rw[ao,ae hl,<-el];rfl
   have:∃ p q,R W f p q/\(x=p\/x=q):=by
    rcases iY (l+1) T.length with q | q
    ·exact⟨_,_,(U _ _ (vP q)).2,.inl el⟩
    ·have:=vP (T:=T) (m:=l-1) (by omega)
     rw[show l-1+1=l by omega]at this;exact⟨_,_,(U _ _ this).2,.inr el⟩
   obtain⟨p,q,⟨A,d,hn⟩,hp⟩:=this;rw[H]at d
   cases d
   rcases hp with rfl | rfl
   ·exact(kT hn).1
   ·exact(kT hn).2
 have N:∀ p q,Adj T p q->Nx row p q:=λ p q ad=>by
  obtain⟨A,d,hn⟩:=(U p q ad).2;rw[H]at d
  cases d
  exact hn
 obtain⟨I',eT⟩:=Fc.head_split u;obtain⟨r1,r2,e0⟩:=zo ma;have i:Ro row ([]++a::(r2++r1)):=⟨r1,a::r2,e0,by simp⟩;obtain⟨Q,eQ⟩:=mQ (row:=row) I' a [] (r2++r1) (i.nd.mp nd) (by have:=TT.nd;rw[eT]at this;exact this) (λ p q ad=>(i.nx p q).mp (N p q (by rw[eT];exact ad)))
 have Q0:Q=[]:=by
  cases Q with
  | nil=>rfl
  | cons q Q =>
   exfalso;have nd2:=i.nd.mp nd;rw[eQ,pd,show a::(I'++q::Q)=(a::I')++q::Q from rfl,<-eT]at nd2;have qr:q∈row:=(i.mem q).mpr (by rw[eQ];simp);exact(cy.mp nd2).2.2 q ((mem q).mp qr) q (by simp) rfl
 have ro:Ro row T:=by
  rw[eQ,Q0,iq,pd,<-eT]at i;exact i
 obtain⟨M,eM⟩ : ∃ M,T=a::M++[b]:=by
  obtain⟨J,eJ⟩:=Fc.last_split lt;rw[eJ]at u
  cases J with
  | nil=>cases u;exact absurd rfl Y
  | cons j J =>
   cases u
   exact⟨J,eJ⟩
 have st:stF W T O f=some (a::M++[b]):=aV (B:=[]) (C:=[]) TT.nd I.nd (by rw[eM];simp) TT.sub (λ q=>by
   rw[<-eM];constructor
   ·intro hq
    refine⟨TT.sub q hq,Fc.mem_row ⟨row,H,(mem q).mpr hq⟩⟩
   ·rintro⟨_,hq⟩
    obtain⟨A,d,hr⟩:=kBO hq;rw[H]at d
    cases d
    exact(mem q).mp hr) (λ t ht=>by
   rw[<-eM]at ht;rw[(U t.1 t.2 (uP (a:=t.1) (b:=t.2) ht)).1])
 rw[<-eM]at st
 have go:goF W (O++[f]) (O.length-2)=some (Z,D):=by
  rw[<-I.go];refine mH ?_;rw[uk two,iL,yq rfl]
 have on:=aN (st:=T) go (by
  rw[uk two,yq rfl,ao,dr,hT];exact st)
 suffices e:jR W a b f (O++[f])=some (Z++[T],D++[poF (D.getLastD []) T ((O++[f]).getD (O.length-2+2) 0)]) from⟨row,_,H,ro,u,e,pm⟩
 unfold jR
 have g0:(O++[f])[0]?=some a/\(O++[f])[1]?=some b:=by
  have v:=I.e2
  match O,two,v with
  | x::y::r,_,v =>
   simp at v;exact⟨by rw[v.1];rfl,by rw[v.2];rfl⟩
 rw[if_pos ⟨g0.1,g0.2,by simp⟩,bu,fj,show O.length+1-2=O.length-2+1 by omega];exact on
def zL(row A:List Nat):List Nat:=(cf row.length).filter λ k=>decide (row.getD k 0∈A) && !decide ((if k=0 then row.getLastD 0 else row.getD (k-1) 0)∈A)
def vV(row A:List Nat):List Nat:=if(zL row A).length≠1 then[] else(row.drop ((zL row A).headD 0)++row.take ((zL row A).headD 0)).filter λ q=>decide (q∈A)
def mem_begs{row A:List Nat}{k:Nat}:k∈zL row A↔k<row.length/\row.getD k 0∈A/\(if k=0 then row.getLastD 0 else row.getD (k-1) 0)∉A:=by
 unfold zL;simp
def rV{row:List Nat}{k:Nat}(h:k<row.length):Nx row (if k=0 then row.getLastD 0 else row.getD (k-1) 0) (row.getD k 0):=by
 by_cases c:k=0
 ·rw[if_pos c,c]
  have a:row≠[]:=λ z=>by rw[z]at h;simp at h
  obtain⟨J,l,e⟩ : ∃ J l,row=J++[l]:=⟨row.dropLast,row.getLast a,(eK a).symm⟩;rw[e];have b:(J++[l]).getLastD 0=l:=by rw[iS,kh];rfl
  rw[b];refine(jF [l] J _ _).mp ?_
  cases J with
  | nil=>exact .inl ⟨rfl,rfl⟩
  | cons j J=>exact yV (.inl ⟨rfl,rfl⟩)
 ·rw[if_neg c]
  have:=vP (T:=row) (m:=k-1) (by omega);rw[show k-1+1=k by omega]at this;exact yV this
theorem kFQ{P:Nat->Prop}:∀{l:List Nat},(∀ x y,Adj l x y->¬ P x->¬ P y)->∃ R Q,l=R++Q/\(∀ x∈R,P x)/\∀ x∈Q,¬ P x
 | [],_=>⟨[],[],rfl,(λ _ h=>by cases h),(λ _ h=>by cases h)⟩
 | [x],_=>by
  by_cases c:P x
  ·exact⟨[x],[],rfl,λ y d=>by rw[cg.mp d];exact c,λ _ h=>by cases h⟩
  ·exact⟨[],[x],rfl,(λ _ h=>by cases h),λ y d=>by rw[cg.mp d];exact c⟩
 | x::y::l,st=>by
  obtain⟨R,Q,e,h1,f⟩:=kFQ (l:=y::l) λ p q a=>st p q (.inr a);by_cases c:P x
  ·exact⟨x::R,Q,by rw[e];rfl,λ z b=>by
    rcases eA.mp b with rfl | b
    ·exact c
    ·exact h1 z b,f⟩
  ·have g:=st x y (.inl ⟨rfl,rfl⟩) c
   cases R with
   | cons r R =>
    have:y=r:=(Fm e).1;exact absurd (h1 r (by simp)) (this ▸ g)
   | nil=>exact⟨[],x::Q,by rw[e];rfl,(λ _ h=>by cases h),λ z b=>by
     rcases eA.mp b with rfl | b
     ·exact c
     ·exact f z b⟩
def kBL{A R Q:List Nat}(h1:∀ x∈R,x∈A)(b:∀ x∈Q,x∉A):(R++Q).filter (λ q=>decide (q∈A))=R:=by
 rw[ud,DI.mpr λ x a=>by simpa using h1 x a,AY.mpr λ x a=>by simpa using b x a,iq]
def kCU{row A:List Nat}(nd:row.Nodup)(h:1<(vV row A).length):∃ Q,Ro row (vV row A++Q)/\(∀ x∈vV row A,x∈A)/\(∀ x∈Q,x∉A)/\Q≠[]:=by
 unfold vV at h ⊢;by_cases c:(zL row A).length≠1
 ·rw[if_pos c]at h
  simp at h
 rw[if_neg c]at h ⊢;obtain⟨k,g⟩ : ∃ k,zL row A=[k]:=Cd.mp (Classical.not_not.mp c);have f:=mem_begs.mp (by rw[g];exact cg.mpr rfl:k∈zL row A);rw[g]at h ⊢;show ∃ Q,Ro row ((row.drop k++row.take k).filter _++Q)/\(∀ x∈(row.drop k++row.take k).filter _,_)/\_;have a:Ro row (row.drop k++row.take k):=⟨row.take k,row.drop k,(fv k row).symm,rfl⟩;have nd2:=a.nd.mp nd
 obtain⟨q,m⟩ : ∃ q,row.drop k++row.take k=row.getD k 0::q:=by
  have d:=f.1;clear f h;rw[zf d];refine⟨row.drop (k+1)++row.take k,?_⟩
  have:row.getD k 0=row[k]:=by
   rw[ao,ae d]
   rfl
  rw[this]
  rfl
 have l:∀ x y,Adj (row.drop k++row.take k) x y->¬ x∈A->¬ y∈A:=λ x y ad v u=>by
  have n:Nx row x y:=(a.nx x y).mpr (yV ad);obtain⟨j,i,b⟩:=eO.mp (kT n).2;have b:y=row.getD j 0:=by rw[ao,ae i,<-b];rfl
  have o:=rV i;rw[<-b]at o;have r:=yJ nd n o;have:j∈zL row A:=mem_begs.mpr ⟨i,by rw[<-b];exact u,by rw[<-r];exact v⟩;rw[g]at this;have:j=k:=cg.mp this;subst this;have t:=(qI ad).2;rw[m]at t nd2;rw[gh]at nd2;exact nd2.1 (b ▸ t)
 obtain⟨R,Q,e,h1,p⟩:=kFQ (P:=λ z=>z∈A) l;rw[e,kBL (A:=A) h1 p];rw[e]at a;refine⟨Q,a,h1,p,λ z=>?_⟩;have s:=kT (rV f.1);have:=(a.mem _).mp s.1;rw[z,iq]at this;exact f.2.2 (h1 _ this)
def kKY{row A R Q:List Nat}(nd:row.Nodup)(f:Ro row (R++Q))(h1:∀ x∈R,x∈A)(n:∀ x∈Q,x∉A)(J:R≠[])(s:Q≠[]):(vV row A).length=R.length:=by
 have nd2:=f.nd.mp nd
 obtain⟨x,b,rfl⟩ : ∃ x b,R=x::b:=by
  cases R with
  | nil=>exact absurd rfl J
  | cons x R=>exact⟨x,R,rfl⟩
 obtain⟨d,y,rfl⟩ : ∃ d y,Q=d++[y]:=⟨Q.dropLast,Q.getLast s,(eK s).symm⟩;have v:Nx row y x:=(f.nx y x).mpr ((jF [y] (x::b++d) _ _).mp (by exact yV (.inl ⟨rfl,rfl⟩)) |> λ h=>by simpa using h)
 have key:∀ k,k∈zL row A↔k=row.idxOf x:=λ k=>by
  have C:x∈row:=(kT v).2;have i:row.idxOf x<row.length:=fq C;have j:row.getD (row.idxOf x) 0=x:=by rw[ao,ae i,AF];rfl
  rw[mem_begs];constructor
  ·rintro⟨u,o,M⟩
   have g:=rV u;have c:=(f.nx _ _).mp g
   have G:row.getD k 0=x:=by
    refine eR λ B=>M ?_;have m:=(kT c).2
    have inR:row.getD k 0∈x::b:=by
     rcases bz.mp m with q | q
     ·exact q
     ·exact absurd o (n _ q)
    have inT:row.getD k 0∈(x::b).tail:=by
     rcases eA.mp inR with q | q
     ·exact absurd q B
     ·exact q
    obtain⟨p,hp⟩:=cI (l:=x::b) inT;have:=yJ nd2 c (Fc.adj_nx (d++[y]) hp);rw[this];exact h1 p (qI hp).1
   exact mJ nd u i (by rw[G,j])
  ·rintro rfl
   refine⟨i,by rw[j];exact h1 x (by simp),?_⟩;have g:=rV i;rw[j]at g;rw[yJ nd g v];exact n y (by simp)
 have I:(zL row A).length=1:=by
  have a:(zL row A).Nodup:=qk.filter _;have H:zL row A≠[]:=λ z=>by have:=(key (row.idxOf x)).mpr rfl;rw[z]at this;cases this
  match hb:zL row A,a,H with
  | [k],_,_=>rfl
  | k::o::r,a,_ =>
   have L:=(key k).mp (by rw[hb];simp);have D:=(key o).mp (by rw[hb];simp);rw[gh]at a;exact absurd (by rw[L,D];simp) a.1
 unfold vV;rw[if_neg (by rw[I];simp)];generalize(zL row A).headD 0=k;have p1:(row.drop k++row.take k).Perm ((x::b)++(d++[y])):=(Ro.perm ⟨row.take k,row.drop k,(fv k row).symm,rfl⟩ : row.Perm (row.drop k++row.take k)).symm.trans f.perm;have:=(p1.filter λ q=>decide (q∈A)).length_eq;rw[this,kBL h1 n]
end
abbrev Sps:=List (Nat×Int×Int)
def xV(s:Nat×Int×Int)(r:Sps)(p:Nat):atS (s::r) p=if s.1=p then s.2 else atS r p:=by
 unfold atS;rw[uw];by_cases e:s.1=p
 ·rw[if_pos e,show(s.1 == p)=true by simp[e]]
  rfl
 ·rw[if_neg e,show(s.1 == p)=false by simp[e]]
def kGO{G:List Nat}{b:Int}{p:Nat}:∀{S:Sps},p∈S.map (·.1)->atS (mvS S G b) p=if p∈G then((atS S p).1+b,(atS S p).2) else atS S p:=by
 intro S
 induction S with
 | nil=>intro h;simp at h
 | cons s r ih =>
  intro h;have e:mvS (s::r) G b=(if s.1∈G then(s.1,s.2.1+b,s.2.2) else s)::mvS r G b:=rfl;rw[e,xV,xV];have a:(if s.1∈G then(s.1,s.2.1+b,s.2.2) else s:Nat×Int×Int).1=s.1:=by split<;>rfl
  rw[a];by_cases c:s.1=p
  ·rw[if_pos c,if_pos c,<-c]
   split<;>rfl
  ·rw[if_neg c,if_neg c]
   refine ih ?_;rw[eZ]at h;rcases eA.mp h with q | q
   ·exact absurd q.symm c
   ·exact q
def kDY{R:Sps}{p:Nat}:∀{S:Sps},p∈S.map (·.1)->atS (S++R) p=atS S p:=by
 intro S
 induction S with
 | nil=>intro h;simp at h
 | cons s r ih =>
  intro h;rw[mj,xV,xV];by_cases c:s.1=p
  ·rw[if_pos c,if_pos c]
  ·rw[if_neg c,if_neg c]
   refine ih ?_;rw[eZ]at h;rcases eA.mp h with q | q
   ·exact absurd q.symm c
   ·exact q
def kDX{v:Nat}{x:Int×Int}:∀{S:Sps},v∉S.map (·.1)->atS (S++[(v,x)]) v=x:=by
 intro S
 induction S with
 | nil=>intro _;rw[pd,xV,if_pos rfl]
 | cons s r ih =>
  intro h;rw[eZ,eA,not_or]at h;rw[mj,xV,if_neg (ub h.1)];exact ih h.2
def kQI{X Y:List Nat}{l:Nat}(nd:(X++l::Y).Nodup):(X++l::Y).drop ((X++l::Y).idxOf l)=l::Y:=by
 have:l∉X:=λ z=>(cy.mp nd).2.2 l z l (by simp) rfl;rw[yh,if_neg this,DC,CZ,Ay (bf _),List.drop_length,pd]
def sK{S:Sps}{U:Nat->List Nat}{T M X Y:List Nat}{v f l:Nat}(nd:T.Nodup)(e:T=X++l::Y) :
  gst S U v (f::M++[l]) T=(mvS (mvS S (M.flatMap U) 1) ((l::Y).flatMap U) 2++[(v,ovr (atS (mvS (mvS S (M.flatMap U) 1) ((l::Y).flatMap U) 2) f) (atS (mvS (mvS S (M.flatMap U) 1) ((l::Y).flatMap U) 2) l))],λ p=>if p=v then v::M.flatMap U else U p):=by
 have h1:(f::M++[l]).tail.dropLast=M:=by simp
 have a:(f::M++[l]).getLastD 0=l:=by rw[iS,List.getLast?_concat];rfl
 unfold gst;rw[h1,a,e,kQI (by rw[<-e];exact nd)]
 rfl
def apart{T L R:List Nat}{U:Nat->List Nat}(un:(T.flatMap U).Nodup)(e:T=L++R){x:Nat}(h1:x∈L.flatMap U)(a:x∈R.flatMap U):False:=by
 rw[e,qi]at un;exact(cy.mp un).2.2 x h1 x a rfl
def yT{L:List Nat}{U:Nat->List Nat}{x p:Nat}(h:p∈L)(a:x∈U p):x∈L.flatMap U:=vh.mpr ⟨p,h,a⟩
def jZ{L R:List Nat}{U:Nat->List Nat}{x:Nat}(h:∀ p∈L,p∈R)(a:x∈L.flatMap U):x∈R.flatMap U:=by
 obtain⟨p,hp,z⟩:=vh.mp a;exact yT (h p hp) z
def kTM{b:List Nat}{a d:List (List Nat)}:∀(i p:Nat),p∈(gF b a d i).2 p:=by
 intro i
 induction i with
 | zero=>intro p;exact cg.mpr rfl
 | succ i ih =>
  intro p;show p∈(if p=_ then _::_ else(gF b a d i).2 p)
  split
  ·rename_i c
   rw[c];exact eP
  ·exact ih p
section
variable {W:Rows} {ms:List Nat} {a b k n:Nat} {fs ts X Y:List (List Nat)} {su sv T1 T1' T2:List Nat}
end
structure Mr(j:Nat)(T:List Nat)(x y:Sps×(Nat->List Nat)):Prop where
 fst:(y.1.map (·.1)).Perm (x.1.map (·.1))
 at':∀ p∈x.1.map (·.1),atS y.1 p=(2*(j:Int)-(atS x.1 p).1,(atS x.1 p).2)
 hang:∀ p∈T,∀ q,q∈y.2 p↔q∈x.2 p
 par:∀ p∈T,((atS x.1 p).1+(atS x.1 p).2) % 2=0
 cov:∀ p∈x.1.map (·.1),p∈T.flatMap x.2
def kPD{a b c d k:Int}(h:(a+b) % 2=0)(h':(c+d) % 2=0):ovr (k-c,d) (k-a,b)=(k-(ovr (a,b) (c,d)).1,(ovr (a,b) (c,d)).2):=by
 unfold ovr;dsimp only;refine qv ?_ ?_<;>dsimp only<;>omega
def kPC{a b c d:Int}(h:(a+b) % 2=0):((ovr (a,b) (c,d)).1+(ovr (a,b) (c,d)).2) % 2=0:=by
 unfold ovr;dsimp only;omega
def kPL{j v f l:Nat}{T B M C:List Nat}{x y:Sps×(Nat->List Nat)}(n:T.Nodup)(un:(T.flatMap x.2).Nodup)(U:∀ p,p∈x.2 p)(all:∀ z∈T.flatMap x.2,z∈x.1.map (·.1))(Z:v∉x.1.map (·.1))
  (o:T=B++(f::M++[l])++C) (R:Mr j T x y):Mr (j+1) (B++[f,v,l]++C) (gst x.1 x.2 v (f::M++[l]) T) (gst y.1 y.2 v (f::M++[l]).reverse T.reverse):=by
 have e1:T=(B++f::M)++l::C:=by rw[o];simp
 have e2:T.reverse=(C.reverse++l::M.reverse)++f::B.reverse:=by rw[o];simp
 have e3:(f::M++[l]).reverse=l::M.reverse++[f]:=by simp
 rw[e3,sK n e1,sK ((AW T).nodup_iff.mpr n) e2];have iB:∀ p∈B,p∈T:=λ p hp=>by rw[o];simp[hp]
 have iM:∀ p∈M,p∈T:=λ p hp=>by rw[o];simp[hp]
 have iC:∀ p∈C,p∈T:=λ p hp=>by rw[o];simp[hp]
 have J:f∈T:=by rw[o];simp
 have Y:l∈T:=by rw[o];simp
 have m:∀{p},p∈T->p∈x.1.map (·.1):=λ{p} hp=>all p (yT hp (U p))
 have a1:v∉T:=λ z=>Z (m z)
 have hM:∀ q,q∈M.reverse.flatMap y.2↔q∈M.flatMap x.2:=λ q=>by
  rw[vh,vh];exact⟨λ⟨p,hp,z⟩=>⟨p,ou.mp hp,(R.hang p (iM p (ou.mp hp)) q).mp z⟩,λ⟨p,hp,z⟩=>⟨p,ou.mpr hp,(R.hang p (iM p hp) q).mpr z⟩⟩
 have hB:∀ q,q∈(f::B.reverse).flatMap y.2↔q∈(B++[f]).flatMap x.2:=λ q=>by
  rw[vh,vh];constructor
  ·rintro⟨p,hp,z⟩
   have Q:p∈B++[f]:=by simpa[or_comm] using hp
   exact⟨p,Q,(R.hang p (by rcases bz.mp Q with h | h;exact iB p h;rw[cg.mp h];exact J) q).mp z⟩
  ·rintro⟨p,hp,z⟩
   exact⟨p,by simpa[or_comm] using hp,(R.hang p (by rcases bz.mp hp with h | h;exact iB p h;rw[cg.mp h];exact J) q).mpr z⟩
 have s:T=(B++[f])++(M++l::C):=by rw[o];simp
 have O:T=(B++f::M)++(l::C):=e1
 have I:∀ p∈x.1.map (·.1),(p∈(B++[f]).flatMap x.2/\p∉M.flatMap x.2/\p∉(l::C).flatMap x.2)\/(p∉(B++[f]).flatMap x.2/\p∈M.flatMap x.2/\p∉(l::C).flatMap x.2)\/(p∉(B++[f]).flatMap x.2/\p∉M.flatMap x.2/\p∈(l::C).flatMap x.2):=λ p hp=>by
  have h:=R.cov p hp;have sM:∀ z∈M,z∈M++l::C:=λ z g=>df _ g;have sC:∀ z∈l::C,z∈M++l::C:=λ z g=>dc _ g;have S:∀ z∈M,z∈B++f::M:=λ z g=>by simp[g]
  rw[s,qi,qi (xs:=M)]at h;rcases bz.mp h with h | h
  ·exact .inl ⟨h,λ z=>apart un s h (jZ sM z),λ z=>apart un s h (jZ sC z)⟩
  ·rcases bz.mp h with h | h
   ·exact .inr (.inl ⟨λ z=>apart un s z (jZ sM h),h,λ z=>apart un O (jZ S h) z⟩)
   ·exact .inr (.inr ⟨λ z=>apart un s z (jZ sC h),λ z=>apart un O (jZ S z) h,h⟩)
 have fx:∀ G b,(mvS x.1 G b).map (·.1)=x.1.map (·.1):=λ G b=>qC _ _ _;have fy:∀{p},p∈x.1.map (·.1)->p∈y.1.map (·.1):=λ{p} h=>R.fst.mem_iff.mpr h
 have ax:∀ p∈x.1.map (·.1),atS (mvS (mvS x.1 (M.flatMap x.2) 1) ((l::C).flatMap x.2) 2) p=((atS x.1 p).1+(if p∈M.flatMap x.2 then 1 else 0)+(if p∈(l::C).flatMap x.2 then 2 else 0),(atS x.1 p).2):=λ p hp=>by
  rw[kGO (by rw[qC];exact hp),kGO hp];by_cases h1:p∈M.flatMap x.2<;>by_cases H:p∈(l::C).flatMap x.2<;>simp only[h1,H,if_true,if_false]<;>simp
 have ay:∀ p∈x.1.map (·.1),atS (mvS (mvS y.1 (M.reverse.flatMap y.2) 1) ((f::B.reverse).flatMap y.2) 2) p=((atS y.1 p).1+(if p∈M.flatMap x.2 then 1 else 0)+(if p∈(B++[f]).flatMap x.2 then 2 else 0),(atS y.1 p).2):=λ p hp=>by
  rw[kGO (by rw[qC];exact fy hp),kGO (fy hp)];by_cases h1:p∈M.flatMap x.2<;>by_cases H:p∈(B++[f]).flatMap x.2<;>simp only[h1,H,hM,hB,if_true,if_false]<;>simp
 have u:∀ p∈x.1.map (·.1),atS (mvS (mvS y.1 (M.reverse.flatMap y.2) 1) ((f::B.reverse).flatMap y.2) 2) p=(2*((j+1:Nat):Int)-(atS (mvS (mvS x.1 (M.flatMap x.2) 1) ((l::C).flatMap x.2) 2) p).1,(atS (mvS (mvS x.1 (M.flatMap x.2) 1) ((l::C).flatMap x.2) 2) p).2):=λ p hp=>by
  rw[ax p hp,ay p hp,R.at' p hp];rcases I p hp with⟨h1,H,X⟩ | ⟨h1,H,X⟩ | ⟨h1,H,X⟩<;>simp only[h1,H,X,if_true,if_false]<;>refine qv ?_ rfl<;>dsimp only<;>omega
 have d:∀ p∈T,p∉M->((atS (mvS (mvS x.1 (M.flatMap x.2) 1) ((l::C).flatMap x.2) 2) p).1+(atS (mvS (mvS x.1 (M.flatMap x.2) 1) ((l::C).flatMap x.2) 2) p).2) % 2=0:=λ p hp hm=>by
  have q:=R.par p hp;rw[ax p (m hp)]
  have nm:p∉M.flatMap x.2:=λ z=>by
   rw[e1,di]at hp;have i:=U p;rcases bz.mp hp with h | h
   ·exact apart un s (yT (p:=p) (by simp[h]) i) (jZ (λ z g=>df _ g) z)
   ·rcases bz.mp h with h | h
    ·rcases eA.mp h with h | h
     ·exact apart un s (yT (p:=p) (by simp[h]) i) (jZ (λ z g=>df _ g) z)
     ·exact hm h
    ·exact apart un O (jZ (R:=B++f::M) (λ z g=>by simp[g]) z) (yT (p:=p) h i)
  simp only[nm,if_false]
  split<;>omega
 have A:f∉M:=λ z=>by
  rw[s]at n;exact(cy.mp n).2.2 f (by simp) f (by simp[z]) rfl
 have L:l∉M:=λ z=>by
  rw[O]at n;exact(cy.mp n).2.2 l (by simp[z]) l (by simp) rfl
 have N:v∉(mvS (mvS x.1 (M.flatMap x.2) 1) ((l::C).flatMap x.2) 2).map (·.1):=by rw[qC,qC];exact Z
 have a0:v∉(mvS (mvS y.1 (M.reverse.flatMap y.2) 1) ((f::B.reverse).flatMap y.2) 2).map (·.1):=by rw[qC,qC];exact λ z=>Z (R.fst.mem_iff.mp z)
 refine⟨?_,λ p hp=>?_,λ p hp q=>?_,λ p hp=>?_,λ p hp=>?_⟩
 ·dsimp only
  rw[cu,cu,qC,qC,qC,qC];exact R.fst.append_right _
 ·dsimp only at hp ⊢
  rw[cu,qC,qC]at hp;rcases bz.mp hp with h | h
  ·rw[kDY (by rw[qC,qC];exact fy h),kDY (by rw[qC,qC];exact h)]
   exact u p h
  ·have h:p=v:=by simpa using h
   subst h;rw[kDX a0,kDX N,u f (m J),u l (m Y)];exact kPD (d f J A) (d l Y L)
 ·show q∈(if p=v then v::M.reverse.flatMap y.2 else y.2 p)↔q∈(if p=v then v::M.flatMap x.2 else x.2 p)
  by_cases c:p=v
  ·rw[if_pos c,if_pos c,eA,eA,hM]
  ·rw[if_neg c,if_neg c]
   refine R.hang p ?_ q;rw[o];simp only[bz,eA,ml,or_false,c,false_or]at hp ⊢;rcases hp with(hp | hp | hp) | hp
   ·exact .inl (.inl hp)
   ·exact .inl (.inr (.inl (.inl hp)))
   ·exact .inl (.inr (.inr hp))
   ·exact .inr hp
 ·dsimp only
  by_cases c:p=v
  ·subst c
   rw[kDX N];exact kPC (d f J A)
  ·have D:p∈T/\p∉M:=by
    simp only[bz,eA,ml,or_false,c,false_or]at hp;rcases hp with(hp | hp | hp) | hp
    ·refine⟨iB p hp,λ z=>?_⟩
     rw[s]at n;exact(cy.mp n).2.2 p (by simp[hp]) p (by simp[z]) rfl
    ·rw[hp];exact⟨J,A⟩
    ·rw[hp];exact⟨Y,L⟩
    ·refine⟨iC p hp,λ z=>?_⟩
     rw[O]at n;exact(cy.mp n).2.2 p (by simp[z]) p (by simp[hp]) rfl
   rw[kDY (by rw[qC,qC];exact m D.1)];exact d p D.1 D.2
 ·dsimp only at hp ⊢
  rw[cu,qC,qC]at hp;rcases bz.mp hp with h | h
  ·have w:=R.cov p h
   obtain⟨r,a,g⟩:=vh.mp w;have rv:r≠v:=λ z=>a1 (z ▸ a);by_cases c:r∈M
   ·refine yT (p:=v) (by simp) ?_
    rw[if_pos rfl];exact du _ (yT c g)
   ·refine yT (p:=r) ?_ (by rw[if_neg rv];exact g)
    rw[o]at a;simp only[bz,eA,ml,or_false]at a ⊢;rcases a with(a | (a | a) | a) | a
    ·exact .inl (.inl a)
    ·exact .inl (.inr (.inl a))
    ·exact absurd a c
    ·exact .inl (.inr (.inr (.inr a)))
    ·exact .inr a
  ·have h:p=v:=by simpa using h
   subst h;refine yT (p:=p) (by simp) ?_;rw[if_pos rfl];exact eP
def bX{α β:Type}(l:List α)(f:α->β)(i:Nat)(d:α):(l.map f).getD i (f d)=f (l.getD i d):=by
 rw[ao,ao,bb];cases l[i]?<;>rfl
section
variable {W:Rows} {ms:List Nat} {a b n:Nat} {Fs Ts:List (List Nat)}
def kIT{i:Nat}{fs ts:List (List Nat)}(b:goF W ms i=some (fs,ts)):ts[0]?=some (ms.take 2):=by
 induction i generalizing fs ts with
 | zero =>
  unfold goF at b;have q:=bh b;injection q with q1 a
  rw[<-a]
  rfl
 | succ i ih =>
  obtain⟨l,f,a⟩:=wD (i:=i) (j:=1) b;obtain⟨c,g,h,d⟩:=yX a b;have:=(xD a).2;rw[d,bq (by omega)];exact ih a
def kTN(S:Nb W)(g:∀ t∈kM W,(nxt W (nxt W t)).2=t.1){r:List Nat}(c:(a::b::r).Nodup)(d:E W a b)(O:n<=r.length)(m:goF W (a::b::r) n=some (Fs,Ts)) :
  ∀ j,j<=n->Mr j (Ts.getD j []) (gF (a::b::r) Fs Ts j) (gF (b::a::r) (Fs.map fc) (Ts.map fc) j):=by
 have h0:Top W ((a::b::r).take 2) ((a::b::r).take 2):=vD S d;have N:a≠b:=λ q=>(S.e d).2.2 q.symm;obtain⟨Q,lt⟩:=xD m;intro j
 induction j with
 | zero =>
  intro _;have D:Ts.getD 0 []=[a,b]:=by rw[ao,kIT m];rfl
  rw[D]
  have z:∀(p q x:Nat),x∈[p,q]->atS [(p,0,0),(q,0,0)] x=(0,0):=λ p q x _=>by
   rw[xV,xV]
   split
   ·rfl
   ·split<;>rfl
  refine⟨?_,λ p hp=>?_,λ p _ q=>BL,λ p hp=>?_,λ p hp=>?_⟩
  ·exact DB _ _ _
  ·have hp:p∈[a,b]:=hp
   show atS [(b,0,0),(a,0,0)] p=_;rw[z b a p (by simpa[or_comm] using hp)];show(0,0)=(2*((0:Nat):Int)-(atS [(a,0,0),(b,0,0)] p).1,(atS [(a,0,0),(b,0,0)] p).2);rw[z a b p hp]
   rfl
  ·show((atS [(a,0,0),(b,0,0)] p).1+(atS [(a,0,0),(b,0,0)] p).2) % 2=0
   rw[z a b p hp]
   rfl
  ·exact yT (p:=p) hp (cg.mpr rfl)
 | succ j ih =>
  intro T;have R:=ih (by omega);have get:∀(L:List (List Nat))(i:Nat),i<L.length->L[i]?=some (L.getD i []):=λ L i h=>by rw[ao,ae h];rfl
  have s:n+2<=(a::b::r).length:=by show n+2<=r.length+1+1;omega
  obtain⟨G,B,f,M,l,C,y,v,o⟩:=bV S.sym c h0 s m j _ _ _ (get Fs j (by omega)) (get Ts j (by omega)) (get Ts (j+1) (by omega));have I:=kDO S g c (e2:=rfl) d s m j (by omega);have u:(b::a::r).getD (j+2) 0=(a::b::r).getD (j+2) 0:=rfl;have H:(Fs.map fc).getD j []=(Fs.getD j []).reverse:=bX Fs fc j [];have J:(Ts.map fc).getD j []=(Ts.getD j []).reverse:=bX Ts fc j [];show Mr (j+1) _ (gst _ _ _ _ _) (gst _ _ _ _ _);rw[u,H,J,y,o];refine kPL G.nd I.nd (kTM j) (λ z A=>by rw[I.fst];exact I.sub z A) ?_ v R;rw[I.fst];exact yO c (bf _) (by show j+2<r.length+1+1;omega)
def kPM{j:Nat}{T:List Nat}{x y:Sps×(Nat->List Nat)}(R:Mr j T x y)(nd:(x.1.map (·.1)).Nodup):y.1.Perm (x.1.map λ s=>(s.1,2*(j:Int)-s.2.1,s.2.2)):=by
 have d:(y.1.map (·.1)).Nodup:=R.fst.nodup_iff.mpr nd
 have un:∀{S:Sps},(S.map (·.1)).Nodup->∀ s∈S,s.2=atS S s.1:=λ{S} nd s f=>by
  have m:=sX (S:=S) (p:=s.1) (fe.mpr ⟨s,f,rfl⟩);obtain⟨i,o,n⟩:=eO.mp f;obtain⟨k,r,g⟩:=eO.mp m
  have q:i=k:=by
   refine(AH (xs:=S.map (·.1)) (h₀:=by rw[aj];exact o) (h₁:=by rw[aj];exact r) nd).mp ?_;rw[yz,yz,n,g]
  subst q;rw[n]at g;exact congrArg qh g
 have nd1:y.1.Nodup:=DD (S:=λ a b=>a≠b) (·.1) (λ a b h z=>h (by rw[z])) d
 have nd2:(x.1.map λ s=>(s.1,2*(j:Int)-s.2.1,s.2.2)).Nodup:=by
  refine DD (S:=λ a b=>a≠b) (·.1) (λ a b h z=>h (by rw[z])) ?_;rw[sh];exact nd
 refine(qj nd1 nd2).mpr λ s=>?_;rw[fe];constructor
 ·intro f
  have c:s.1∈x.1.map (·.1):=R.fst.mem_iff.mp (fe.mpr ⟨s,f,rfl⟩);refine⟨(s.1,atS x.1 s.1),sX c,?_⟩;have e:=un d s f;rw[R.at' s.1 c]at e;show(s.1,2*(j:Int)-(atS x.1 s.1).1,(atS x.1 s.1).2)=s;rw[<-e]
 ·rintro⟨u,l,rfl⟩
  have c:u.1∈x.1.map (·.1):=fe.mpr ⟨u,l,rfl⟩;have m:=sX (S:=y.1) (p:=u.1) (R.fst.mem_iff.mpr c);rw[R.at' u.1 c,<-un nd u l]at m;exact m
def rho(g:Nat->Nat)(s:Nat×Int×Int):Nat×Int×Int:=(g s.1,s.2)
def kLX{g:Nat->Nat}{S:Sps}{G:List Nat}{b:Int}(inj:∀ s∈S,∀ q∈G,g s.1=g q->s.1=q):mvS (S.map (rho g)) (G.map g) b=(mvS S G b).map (rho g):=by
 unfold mvS;rw[sh,sh];refine um λ s d=>?_;show(if g s.1∈G.map g then _ else _)=rho g (if s.1∈G then _ else s);by_cases c:s.1∈G
 ·rw[if_pos c,if_pos (fe.mpr ⟨_,c,rfl⟩)]
  rfl
 ·rw[if_neg c,if_neg λ z=>by
   obtain⟨q,a,e⟩:=fe.mp z;exact c (inj s d q a e.symm ▸ a)]
def kDW{g:Nat->Nat}{p:Nat}:∀{S:Sps},(∀ s∈S,g s.1=g p->s.1=p)->atS (S.map (rho g)) (g p)=atS S p:=by
 intro S
 induction S with
 | nil=>intro _;rfl
 | cons s r ih =>
  intro inj;rw[eZ,xV,xV];by_cases c:s.1=p
  ·rw[if_pos c,if_pos (show(rho g s).1=g p by rw[<-c];rfl)]
   rfl
  ·rw[if_neg c,if_neg (show ¬ (rho g s).1=g p from λ z=>c (inj s eP z))]
   exact ih λ s a=>inj s (du _ a)
def kBK{g:Nat->Nat}{L:List Nat}{U U':Nat->List Nat}(h:∀ p∈L,U' (g p)=(U p).map g):(L.map g).flatMap U'=(L.flatMap U).map g:=by
 induction L with
 | nil=>rfl
 | cons p L ih=>rw[eZ,AZ,AZ,cu,h p eP,ih λ q a=>h q (du _ a)]
def kTL(S:Nb W)(u:∀ t∈kM W,(nxt W (nxt W t)).2=t.1){g:Nat->Nat}(o:ms.Nodup)(e2:ms.take 2=[a,b])(D:E W a b)(hn:n+2<=ms.length)(N:goF W ms n=some (Fs,Ts))(inj:∀ x∈ms,∀ y∈ms,g x=g y->x=y) :
  ∀ j,j<=n->(gF (ms.map g) (Fs.map (·.map g)) (Ts.map (·.map g)) j).1=(gF ms Fs Ts j).1.map (rho g)/\∀ p∈Ts.getD j [],(gF (ms.map g) (Fs.map (·.map g)) (Ts.map (·.map g)) j).2 (g p)=((gF ms Fs Ts j).2 p).map g:=by
 have h0:Top W (ms.take 2) (ms.take 2):=by rw[e2];exact vD S D
 obtain⟨lf,lt⟩:=xD N;intro j
 induction j with
 | zero =>
  intro _;refine⟨?_,λ p _=>rfl⟩;show((ms.map g).take 2).map _=((ms.take 2).map _).map _;rw[<-xb,sh,sh]
  rfl
 | succ j ih =>
  intro hj;obtain⟨r1,U⟩:=ih (by omega);have get:∀(L:List (List Nat))(i:Nat),i<L.length->L[i]?=some (L.getD i []):=λ L i h=>by rw[ao,ae h];rfl
  obtain⟨tp,B,f,M,l,C,eF,v,Q⟩:=bV S.sym o h0 hn N j _ _ _ (get Fs j (by omega)) (get Ts j (by omega)) (get Ts (j+1) (by omega));have I:=kDO S u o e2 D hn N j (by omega)
  have v':(ms.map g).getD (j+2) 0=g (ms.getD (j+2) 0):=by
   rw[ao,ao,bb,ae (by omega)]
   rfl
  have F':(Fs.map (·.map g)).getD j []=(Fs.getD j []).map g:=bX Fs (·.map g) j [];have T':(Ts.map (·.map g)).getD j []=(Ts.getD j []).map g:=bX Ts (·.map g) j [];have m:∀ x∈ms.take (j+2),x∈ms:=λ x H=>uz H;have a1:ms.getD (j+2) 0∈ms:=by rw[ao,ae (by omega)];exact iR _
  have nv:ms.getD (j+2) 0∉ms.take (j+2):=yO o (bf _) (by omega);have Ss:∀ s∈(gF ms Fs Ts j).1,s.1∈ms:=λ s d=>m _ (by rw[<-I.fst];exact fe.mpr ⟨s,d,rfl⟩);have Us:∀ x∈(Ts.getD j []).flatMap (gF ms Fs Ts j).2,x∈ms:=λ x H=>m _ (I.sub x H);have Tm:∀ x∈Ts.getD j [],x∈ms:=λ x H=>m _ (tp.sub x H);have tn:=tp.nd
  have X:((Ts.getD j []).map g).Nodup:=by
   refine Dw g (R:=λ a b=>a∈Ts.getD j []/\b∈Ts.getD j []/\a≠b) (λ a b h z=>h.2.2 (inj a (Tm a h.1) b (Tm b h.2.1) z)) ?_;exact By (λ{a b} ha hb Y=>⟨ha,hb,Y⟩) tn
  have e1:Ts.getD j []=(B++f::M)++l::C:=by rw[v];simp
  have T:(Ts.getD j []).map g=((B++f::M).map g)++g l::C.map g:=by rw[e1,cu];rfl
  have a0:(Fs.getD j []).map g=g f::M.map g++[g l]:=by rw[eF];simp
  have iM:∀ p∈M,p∈Ts.getD j []:=λ p hp=>by rw[v];simp[hp]
  have iC:∀ p∈l::C,p∈Ts.getD j []:=λ p hp=>by rw[e1];exact dc _ hp
  have jf:f∈Ts.getD j []:=by rw[v];simp
  have jl:l∈Ts.getD j []:=by rw[v];simp
  have step:gF (ms.map g) (Fs.map (·.map g)) (Ts.map (·.map g)) (j+1)=gst (gF (ms.map g) (Fs.map (·.map g)) (Ts.map (·.map g)) j).1 (gF (ms.map g) (Fs.map (·.map g)) (Ts.map (·.map g)) j).2 (g (ms.getD (j+2) 0)) (g f::M.map g++[g l]) ((Ts.getD j []).map g):=by
   rw[<-a0,<-F',<-T',<-v']
   rfl
  have r:gF ms Fs Ts (j+1)=gst (gF ms Fs Ts j).1 (gF ms Fs Ts j).2 (ms.getD (j+2) 0) (f::M++[l]) (Ts.getD j []):=by
   rw[<-eF]
   rfl
  rw[step,r,sK X T,sK tn e1];dsimp only;have m1:(M.map g).flatMap (gF (ms.map g) (Fs.map (·.map g)) (Ts.map (·.map g)) j).2=(M.flatMap (gF ms Fs Ts j).2).map g:=kBK λ p hp=>U p (iM p hp)
  have m2:(g l::C.map g).flatMap (gF (ms.map g) (Fs.map (·.map g)) (Ts.map (·.map g)) j).2=((l::C).flatMap (gF ms Fs Ts j).2).map g:=by
   rw[<-eZ];exact kBK λ p hp=>U p (iC p hp)
  rw[m1,m2,r1];have x1:mvS ((gF ms Fs Ts j).1.map (rho g)) ((M.flatMap (gF ms Fs Ts j).2).map g) 1=(mvS (gF ms Fs Ts j).1 (M.flatMap (gF ms Fs Ts j).2) 1).map (rho g):=kLX λ s d q O e=>inj _ (Ss s d) _ (Us q (jZ iM O)) e
  have Z:∀ G b,∀ s∈mvS (gF ms Fs Ts j).1 G b,s.1∈ms:=λ G b s d=>by
   have:s.1∈(mvS (gF ms Fs Ts j).1 G b).map (·.1):=fe.mpr ⟨s,d,rfl⟩;rw[qC,I.fst]at this;exact m _ this
  have x2:mvS ((mvS (gF ms Fs Ts j).1 (M.flatMap (gF ms Fs Ts j).2) 1).map (rho g)) (((l::C).flatMap (gF ms Fs Ts j).2).map g) 2=(mvS (mvS (gF ms Fs Ts j).1 (M.flatMap (gF ms Fs Ts j).2) 1) ((l::C).flatMap (gF ms Fs Ts j).2) 2).map (rho g):=kLX λ s d q O e=>inj _ (Z _ _ s d) _ (Us q (jZ iC O)) e;rw[x1,x2]
  have J:∀ s∈mvS (mvS (gF ms Fs Ts j).1 (M.flatMap (gF ms Fs Ts j).2) 1) ((l::C).flatMap (gF ms Fs Ts j).2) 2,s.1∈ms:=λ s d=>by
   have:s.1∈(mvS (mvS (gF ms Fs Ts j).1 (M.flatMap (gF ms Fs Ts j).2) 1) ((l::C).flatMap (gF ms Fs Ts j).2) 2).map (·.1):=fe.mpr ⟨s,d,rfl⟩;rw[qC,qC,I.fst]at this;exact m _ this
  rw[kDW λ s d e=>inj _ (J s d) _ (Tm f jf) e,kDW λ s d e=>inj _ (J s d) _ (Tm l jl) e];refine⟨by rw[cu];rfl,λ p hp=>?_⟩;by_cases c:p=ms.getD (j+2) 0
  ·rw[if_pos (by rw[c]),if_pos c,eZ]
  ·rw[Q]at hp
   have A:p∈Ts.getD j []:=by
    rw[v];simp only[bz,eA,ml,or_false]at hp ⊢;rcases hp with(hp | hp | hp | hp) | hp
    ·exact .inl (.inl hp)
    ·exact .inl (.inr (.inl (.inl hp)))
    ·exact absurd hp c
    ·exact .inl (.inr (.inr hp))
    ·exact .inr hp
   rw[if_neg λ z=>c (inj _ (Tm p A) _ a1 z),if_neg c];exact U p A
end
end Tri
namespace Prf
open PySem L2 Own Tri Cyc Rnd
def top(i:Nat):oz:=PySem.Challenge.pw_restdraw_k66_whole_mirrored_and_renamed.main.body.getD i (.Pass ⟨0,0,0,0⟩)
abbrev gZ:oz:=top 7
def kAC:FnScope ["thing"] ["thing"] (kO gZ):=qN
abbrev dN:oz:=top 8
def rC:FnScope ["thing","many"] ["thing","many"] (kO dN):=qN
abbrev gQ:oz:=top 9
def tX:FnScope ["web"] ["web"] (kO gQ):=qN
abbrev kKR:oz:=top 10
def kOJ:FnScope ["web"] ["web"] (kO kKR):=qN
abbrev kAF:oz:=top 11
def kHP:FnScope ["web","step","p","q","row"] ["web","step"] (kO kAF):=qN
abbrev uZ:oz:=top 12
def gN:FnScope ["web","step","steps","further"] ["web","step"] (kO uZ):=qN
abbrev kFB:oz:=top 13
def kKQ:FnScope ["web","told","seen","step","steps"] ["web"] (kO kFB):=qN
abbrev oE:oz:=top 14
def kCS:FnScope ["web"] ["web"] (kO oE):=qN
abbrev uD:oz:=top 15
def fG:FnScope ["web"] ["web"] (kO uD):=qN
abbrev zV:oz:=top 17
def aH:FnScope ["web","some"] ["web"] (kO zV):=qN
abbrev dO:oz:=top 18
def rD:FnScope ["web","p","q","r"] ["web","p","q","r"] (kO dO):=qN
abbrev oG:oz:=top 19
def kCT:FnScope ["web","thing","a","b","c"] ["web","thing"] (kO oG):=qN
abbrev wM:oz:=top 20
def aW:FnScope ["web","base","face"] ["web","base"] (kO wM):=qN
abbrev hG:oz:=top 22
def kAD:FnScope ["web","base","thing","a","b","c"] ["web","base","thing"] (kO hG):=qN
abbrev vR:oz:=top 23
def cM:FnScope ["web","top","ahead","place","below","stretch","start"] ["web","top","ahead","place"] (kO vR):=qN
abbrev gR:oz:=top 24
def tY:FnScope ["top","stretch","place","start","end"] ["top","stretch","place"] (kO gR):=qN
abbrev kKS:oz:=top 25
def kOK:FnScope ["web","base","thing","found","tops","at","stretch"] ["web","base","thing"] (kO kKS):=qN
abbrev uB:oz:=top 26
def fE:FnScope ["web","base","order","both"] ["web","base","order"] (kO uB):=qN
abbrev aA:oz:=top 28
def gO:FnScope ["spots","hung","places","by","gone"] ["spots","hung","places","by"] (kO aA):=qN
abbrev dI:oz:=top 29
def pY:FnScope ["left","right","x","y","further","higher","way"] ["left","right"] (kO dI):=qN
abbrev hJ:oz:=top 30
def kAE:FnScope ["order","found","tops","spots","hung","told","v","stretch","top","right"] ["order","found","tops"] (kO hJ):=qN
abbrev kFA:oz:=top 31
def kKP:FnScope ["web","base","order","found","tops"] ["web","base","order"] (kO kFA):=qN
abbrev kKT:oz:=top 32
def kOL:FnScope ["web","base","order","found","tops","spots"] ["web","base","order"] (kO kKT):=qN
abbrev nZ:oz:=top 34
def kCQ:FnScope ["_law_script","_law_k","_law_cell"] ["_law_script","_law_k"] (kO nZ):=qN
abbrev dL:oz:=top 35
def rA:FnScope ["_law_pot_here","_law_many","_law_digit_here"] ["_law_pot_here","_law_many"] (kO dL):=qN
abbrev dM:oz:=top 36
def rB:FnScope ["_law_rows","_law_p","_law_q","_law_row"] ["_law_rows","_law_p","_law_q"] (kO dM):=qN
abbrev bB:oz:=top 37
def mZ:FnScope ["_law_rows","_law_p","_law_v","_law_new","_law_row"] ["_law_rows","_law_p","_law_v","_law_new"] (kO bB):=qN
abbrev oA:oz:=top 38
def kCR:FnScope ["_law_rows","_law_p","_law_q","_law_r","_law_new"] ["_law_rows","_law_p","_law_q"] (kO oA):=qN
abbrev gX:oz:=top 39
def kAA:FnScope ["_law_rows","_law_p","_law_q","_law_r","_law_s"] ["_law_rows","_law_p","_law_q"] (kO gX):=qN
abbrev gW:oz:=top 40
def tZ:FnScope ["_law_pot_here","_law_rows","_law_p"] ["_law_pot_here","_law_rows"] (kO gW):=qN
abbrev uG:oz:=top 41
def fI:FnScope ["_law_pot_here","_law_n","_law_rows","_law_k","_law_p","_law_q"] ["_law_pot_here","_law_n"] (kO uG):=qN
abbrev dJ:oz:=top 42
def pZ:FnScope ["_law_pot_here","_law_n","_law_found","_law_k"] ["_law_pot_here","_law_n"] (kO dJ):=qN
abbrev nX:oz:=top 43
def kCO:FnScope ["_law_rows","_law_names_here","_law_found","_law_p","_law_row","_law_called_here","_law_k"] ["_law_rows","_law_names_here"] (kO nX):=qN
abbrev gY:oz:=top 44
def kAB:FnScope ["_law_pot_here","_law_web_here","_law_a","_law_c"] ["_law_pot_here","_law_web_here"] (kO gY):=qN
abbrev nY:oz:=top 45
def kCP:FnScope ["_law_web_here","_law_ahead_here","_law_v","_law_row","_law_begins"] ["_law_web_here","_law_ahead_here","_law_v"] (kO nY):=qN
abbrev aB:oz:=top 46
def gP:FnScope ["_law_pot_here","_law_web_here","_law_base_here","_law_order","_law_runs","_law_k","_law_some","_law_v","_law_row","_law_first"] ["_law_pot_here","_law_web_here","_law_base_here"] (kO aB):=qN
abbrev uE:oz:=top 47
def fH:FnScope ["_law_web_here"] ["_law_web_here"] (kO uE):=qN
abbrev wN:oz:=top 48
def aZ:FnScope ["_law_order"] ["_law_order"] (kO wN):=qN
abbrev bA:oz:=top 49
def mY:FnScope ["_law_names_here","_law_some"] ["_law_names_here","_law_some"] (kO bA):=qN
abbrev kEZ:oz:=top 50
def sc_law:FnScope ["_law_script","_law_pot_here","_law_n","_law_web_here","_law_base_here","_law_order","_law_runs","_law_names_here","_law_told","_law_last","_law_mirror","_law_across","_law_called_here","_law_k","_law_found"] ["_law_script"] (kO kEZ):=qN
structure FxG(K:be)(mg:Str->Option au):Prop where
 X:∃ h:iV,K.In h/\h.Ns gn mg
 d0:jK K "is_whole" gZ
 d1:jK K "are_whole" dN
 d2:jK K "steps_of" gQ
 d3:jK K "ties" kKR
 d4:jK K "behind" kAF
 d5:jK K "steps_round" uZ
 d6:jK K "faces" kFB
 d7:jK K "is_flat" oE
 d8:jK K "must_be_flat" uD
 d9:jK K "uncornered_face" zV
 d10:jK K "are_round" dO
 d11:jK K "is_base" oG
 d12:jK K "must_have_base" wM
 d13:jK K "has_ends" hG
 d14:jK K "stretch_under" vR
 d15:jK K "put_over" gR
 d16:jK K "laid" kKS
 d17:jK K "must_be_laid" uB
 d18:jK K "moved_right" aA
 d19:jK K "spot_over" dI
 d20:jK K "grids_by" hJ
 d21:jK K "grids" kFA
 d22:jK K "grid" kKT
 d23:jK K "_law_pot" nZ
 d24:jK K "_law_digit" dL
 d25:jK K "_law_ahead" dM
 d26:jK K "_law_behind" bB
 d27:jK K "_law_add" oA
 d28:jK K "_law_flip" gX
 d29:jK K "_law_step" gW
 d30:jK K "_law_cornered" uG
 d31:jK K "_law_names" dJ
 d32:jK K "_law_web" nX
 d33:jK K "_law_base" gY
 d34:jK K "_law_run" nY
 d35:jK K "_law_ordered" aB
 d36:jK K "_law_mirrored" uE
 d37:jK K "_law_other_hand" wN
 d38:jK K "_law_called" bA
 d39:jK K "law" kEZ
 y0:ju K gn "len" = some none
 y1:ju K gn "max" = some none
 y2:ju K gn "abs" = some none
 y3:ju K gn "range" = some none
 y4:ju K gn "enumerate" = some none
 y5:ju K gn "min" = some none
 y6:ju K gn "tuple" = some none
 y7:ju K gn "sorted" = some none
 y8:ju K gn "isinstance" = some none
 y9:ju K gn "bool" = some none
 y10:ju K gn "int" = some none
 y11:ju K gn "all" = some none
 y12:ju K gn "list" = some none
 y13:ju K gn "zip" = some none
def FxG.z{K:be}{mg:Str->Option au}(B:FxG K mg){n:Str}(y:ju K gn n=some none):mg n=none:=by
 obtain⟨h,x,g⟩:=B.X;exact PySem.W.mg_none_of x g y
def Bad(c:Cn):Prop:=FxG c.K c.mg/\∃ f a,Fun c.K "law" "law" kEZ f a/\¬ FnOk c.P c.w c.K c.mg c.base CX0 11 f a ["_law_script"] (nU c.K)
noncomputable def c0:Cn:=Classical.epsilon Bad
noncomputable def P:eX:=c0.P
noncomputable def w:iN:=c0.w
noncomputable def K:be:=c0.K
noncomputable def mg:Str->Option au:=c0.mg
noncomputable def base:iV:=c0.base
abbrev Fx:=FxG K mg
abbrev Hs:=Own.Has P w K mg base
def kC{H:Hp}{p:av}(h:H p=none)(o:HO):Same H (upd H p o):=λ b u q=>by rw[kL (kP q h)];exact q
def SameBut(a:av)(H H':Hp):Prop:=∀ b o,b≠a->H b=some o->H' b=some o
inductive kQV(K:be)(vs:List V)(H:Hp)(Q:VK)(Y:XK):Prop
 | mk:∀(a:av)(ns:List Int)(k:Int),(vs=[.ref a,.int k])->(SqL K H a (ns.map V.int))->(ns.length<=63)->(0<=k)->(k<=63)->(∀(p:av)(x y:Int)(H':Hp),0<=x->Same H H'->H p=none->H' p=some (.lst [.int x,.int y])->Q (.ref p) H')->kQV K vs H Q Y
def PotAt(H:Hp)(a:av):Prop:=∃ x y:Int,H a=some (.lst [.int x,.int y])/\0<=x
inductive kEV(vs:List V)(H:Hp)(Q:VK)(Y:XK):Prop
 | mk:∀(a:av)(m:Int),(vs=[.ref a,.int m])->(PotAt H a)->(0<m)->(m.natAbs<2 ^ 9000)->(∀(d:Int)(H':Hp),0<=d->d<m->SameBut a H H'->PotAt H' a->Q (.int d) H')->kEV vs H Q Y
def vn(n:Nat):V:=.int (n:Int)
def ci(n:Nat):Int:=n
structure RowsAt(H:Hp)(r:av)(A:List av)(L:Rows):Prop where
 top:H r=some (.lst (A.map V.ref))
 len:A.length=L.length
 nd:A.Nodup
 out:r∉A
 row:∀(i:Nat)(a:av)(ns:List Nat),A[i]?=some a->L[i]?=some ns->H a=some (.lst (ns.map vn))
def xJ(a:List Nat):a.map vn=(a.map ci).map V.int:=by
 rw[sh]
 rfl
def qQ{a:List Nat}{n:Nat}(h:n∈a):cJ (a.map ci) (n:Int) (a.idxOf n):=by
 have c:=fq h;refine⟨?_,λ m f e=>?_⟩
 ·rw[bb,ae c,AF c]
  rfl
 ·have b:m<a.length:=by omega
  rw[bb,ae b]at e
  have d:a[m]=n:=by
   have z:((a[m]:Nat):Int)=(n:Int):=bh e;omega
  have q:=List.not_of_lt_findIdx (p:=(· == n)) (xs:=a) f;rw[d]at q;simp at q
def RowsAt.at{H:Hp}{r:av}{A:List av}{L:Rows}(x:RowsAt H r A L){i:Nat}{c:List Nat}(h:L[i]?=some c):∃ a,A[i]?=some a/\H a=some (.lst (c.map vn))/\atI (A.map V.ref) (i:Int)=some (.ref a):=by
 have b:i<A.length:=by rw[x.len];exact(ak.mp h).1
 refine⟨A[i],ae b,x.row i _ c (ae b) h,qP ?_⟩;rw[bb,ae b]
 rfl
inductive kEX(vs:List V)(H:Hp)(Q:VK)(Y:XK):Prop
 | mk:∀(r b:av)(xs:List V)(p q:Nat)(row:List Nat)(v:Nat),(vs=[.ref r,vn p,vn q])->((H r=some (.lst xs)/\H b=some (.lst (row.map vn))\/H r=some (.tup xs)/\H b=some (.tup (row.map vn))))->(atI xs (q:Int)=some (.ref b))->(p∈row)->(xI row p=some v)->(Q (vn v) H)->kEX vs H Q Y
def sW{row:List Nat}{p v:Nat}(hp:p∈row)(h:xI row p=some v):atI (row.map vn) ((row.idxOf p:Int)-1)=some (vn v):=by
 have b:=fq hp;unfold xI at h;by_cases h0:row.idxOf p=0
 ·rw[if_pos h0]at h
  rw[h0]
  have e:row=row.dropLast++[v]:=by
   have a:row≠[]:=λ z=>by rw[z]at hp;cases hp
   rw[eo a]at h;rw[<-bh h];exact(eK a).symm
  rw[e,cu];exact zC _ _
 ·rw[if_neg h0]at h
  have e:((row.idxOf p:Int)-1)=((row.idxOf p-1:Nat):Int):=by omega
  rw[e];exact qP (by rw[bb,h];rfl)
section
def at0{x y:V}:atI [x,y] 0=some x:=rfl
def at1{x y:V}:atI [x,y] 1=some y:=rfl
def zJ(B:Fx):Hs "_law_ahead" ["_law_rows","_law_p","_law_q"] 1 (kEX):=by
 refine qO B.X B.d25 rB λ f j A c s H n Q E d l h=>?_;obtain⟨r,b,m,p,q,row,v,rfl,⟨h1,a⟩ | ⟨h1,a⟩,g,hp,i,k⟩:=h
 ·refine⟨_,(kH (pst 3 d (pix kX (pv 0) (pv 2)))
   (kJ (kW (pix kX (pv 3) (kY yN (jU mf mh zR (pv 3) (p1 (pv 1))) kI))))),?_⟩
  try dsimp only[qX]
  refine⟨_,rfl,_,rfl,r,_,_,_,rfl,rfl,SqL.of h1,g,?_⟩;refine⟨_,rfl,_,rfl,.inl ⟨rfl,_,SqL.of a⟩,_,rfl,b,row.map ci,p,row.idxOf p,rfl,rfl,by rw[a,xJ],qQ hp,_,_,rfl,rfl,?_⟩;exact⟨b,_,_,_,rfl,rfl,SqL.of a,sW hp i,k⟩
 ·refine⟨_,(kH (pst 3 d (pix qB (pv 0) (pv 2)))
   (kJ (kW (pix qB (pv 3) (kY yN (kAN zt zu zw cX (pv 3) (p1 (pv 1))) kI))))),?_⟩
  try dsimp only[qX]
  refine⟨_,rfl,_,rfl,r,_,_,_,rfl,rfl,SqT.of h1,g,?_⟩;refine⟨_,rfl,_,rfl,.inr (.inl ⟨rfl,.inr ⟨_,a⟩⟩),_,rfl,b,row.map ci,p,row.idxOf p,rfl,rfl,SqT.of (by rw[a,xJ]),qQ hp,_,_,rfl,rfl,?_⟩;exact⟨b,_,_,_,rfl,rfl,SqT.of a,sW hp i,k⟩
theorem RowsAt.set{H:Hp}{r:av}{A:List av}{L:Rows}(x:RowsAt H r A L){i:Nat}{a:av}(h:A[i]?=some a)(f:List Nat):RowsAt (upd H a (.lst (f.map vn))) r A (L.set i f):=by
 have m:r≠a:=λ z=>x.out (z ▸ dh h);have l:i<L.length:=by rw[<-x.len];exact(ak.mp h).1
 refine⟨by rw[kL m];exact x.top,by rw[BA];exact x.len,x.nd,x.out,λ j b o c d=>?_⟩;rcases zZ l d with⟨rfl,rfl⟩ | ⟨g,d⟩
 ·rw[h]at c
  cases c
  exact kA
 ·have n:b≠a:=λ z=>by
   subst z;have:=(yj (ak.mp c).1 x.nd).mp (c.trans h.symm);exact g this
  rw[kL n];exact x.row j b o c d
def ButRows(r:av)(A:List av)(H H':Hp):Prop:=∀ b o,b≠r->b∉A->H b=some o->H' b=some o
inductive tV(vs:List V)(H:Hp)(Q:VK)(Y:XK):Prop
 | mk:∀(r:av)(A:List av)(L:Rows)(p v n:Nat)(row:List Nat),(vs=[.ref r,vn p,vn v,vn n])->(RowsAt H r A L)->(L[p]?=some row)->(v∈row)->(row.length<=1000)->(∀ H',ButRows r A H H'->RowsAt H' r A (L.set p (jI row v n))->Q .non H')->tV vs H Q Y
def xP(B:Fx):Hs "_law_behind" ["_law_rows","_law_p","_law_v","_law_new"] 1 (tV):=by
 refine qO B.X B.d26 mZ λ f y A d s H I Q E u C h=>?_;obtain⟨r,D,L,p,v,n,row,rfl,X,hp,g,m,k⟩:=h
 refine⟨_,(kH (pst 4 u (pix kX (pv 0) (pv 1)))
   (kJ (qR (jU CC CD oS (pv 4) (p2 (kY xL (jU mf mh zR (pv 4) (p1 (pv 2))) kI) (pv 3)))))),?_⟩
 try dsimp only[qX]
 obtain⟨a,i,c,x⟩:=X.at hp;have G:=fq g;refine⟨_,rfl,_,rfl,r,_,_,_,rfl,rfl,SqL.of X.top,x,?_⟩;refine⟨_,rfl,.inl ⟨rfl,_,SqL.of c⟩,_,rfl,.inl ⟨rfl,_,SqL.of c⟩,_,rfl,a,row.map ci,v,row.idxOf v,rfl,rfl,by rw[c,xJ],qQ g,_,_,rfl,rfl,_,rfl,a,_,_,_,rfl,rfl,c,by omega,by omega,by rw[aj];exact kQ m,?_⟩
 have e:Fy ((row.idxOf v:Int)+1).toNat (row.map vn)++vn n::Gm ((row.idxOf v:Int)+1).toNat (row.map vn)=(jI row v n).map vn:=by
  have z:((row.idxOf v:Int)+1).toNat=row.idxOf v+1:=by omega
  rw[z];unfold jI;rw[cu,xb,eZ,Aa]
 have q:=k (upd H a (.lst ((jI row v n).map vn))) (λ b o _ l h=>by
  have j:b≠a:=λ z=>l (by rw[z];exact dh i);rw[kL j];exact h) (X.set i _)
 rw[<-e]at q;exact q
def ButRows.trans{r:av}{A:List av}{H a d:Hp}(x:ButRows r A H a)(y:ButRows r A a d):ButRows r A H d:=λ b o h1 c h=>y b o h1 c (x b o h1 c h)
def cP{L:Rows}(G:Good L){p:Nat}{row:List Nat}(h:L[p]?=some row):row.length<=6*L.length:=by
 have q:=zH L p row [] h;have t:=G.tot;simp only[yo]at q;omega
def RowsAt.app{H:Hp}{r:av}{A:List av}{L:Rows}(x:RowsAt H r A L){a:av}(h:H a=none)(j:List Nat):RowsAt (upd (upd H a (.lst (j.map vn))) r (.lst (A.map V.ref++[V.ref a]))) r (A++[a]) (L++[j]):=by
 have n:r≠a:=kP x.top h
 have p:∀ b,b∈A->b≠a:=λ b d=>by
  obtain⟨i,f,rfl⟩:=eO.mp d;have g:i<L.length:=by rw[<-x.len];exact f
  exact kP (x.row i _ _ (ae f) (ae g)) h
 refine⟨by rw[kA,cu];rfl,by simp[x.len],?_,?_,λ i b s d f=>?_⟩
 ·rw[cy]
  exact⟨x.nd,by simp,λ b d c m=>by simp at m;rw[m];exact p b d⟩
 ·intro z
  rcases bz.mp z with z | z
  ·exact x.out z
  ·exact n (by simpa using z)
 ·by_cases l:i<A.length
  ·rw[bq l]at d
   rw[bq (by rw[<-x.len];exact l)]at f;have o:=dh d;have q:b≠r:=λ z=>x.out (by rw[<-z];exact o);rw[kL q,kL (p b o)];exact x.row i b s d f
  ·have e:i=A.length:=by
    have:=(ak.mp d).1;simp at this;omega
   subst e;rw[cq (bf _)]at d;rw[cq (by rw[x.len];exact bf _)]at f;rw[x.len]at f;simp at d f;subst d f;rw[kL n.symm,kA]
inductive kQW(vs:List V)(H:Hp)(Q:VK)(Y:XK):Prop
 | mk:∀(r:av)(A:List av)(L:Rows)(p q:Nat),(vs=[.ref r,vn p,vn q])->(RowsAt H r A L)->(Good L)->(L.length<=150)->(E L p q)->(∀(x:av)(L':Rows)(H':Hp),H x=none->ButRows r A H H'->RowsAt H' r (A++[x]) L'->Good L'->L'.length=L.length+1->Q .non H')->kQW vs H Q Y
def kDE(B:Fx):Hs "_law_add" ["_law_rows","_law_p","_law_q"] 2 (kQW):=by
 refine qO B.X B.d27 kCR λ f a0 A D s H vs Q E U v h=>?_;obtain⟨r,a,L,p,q,rfl,X,G,hL,T,k⟩:=h
 refine⟨_,(kH (pst 3 U (pf (zJ B) v (kE (pv 0) (kE (pv 1) (kE (pv 2) kU)))))
   (kH (pst 4 U (kS kR rfl (B.z B.y0) fb (p1 (pv 0))))
   (kH (qR (pf (xP B) v (kE (pv 0) (kE (pv 1) (kE (pv 2) (kE (pv 4) kU))))))
   (kH (qR (pf (xP B) v (kE (pv 0) (kE (pv 2) (kE (pv 3) (kE (pv 4) kU))))))
   (kH (qR (pf (xP B) v (kE (pv 0) (kE (pv 3) (kE (pv 1) (kE (pv 4) kU))))))
   (kJ (qR (jU jo jq xG (pv 0) (p1 (jJ (kE (pv 1) (kE (pv 2) (kE (pv 3) kU))))))))))))),?_⟩
 try dsimp only[qX]
 obtain⟨g,m,M⟩:=G.sym T;obtain⟨u,hp,mp⟩:=T;obtain⟨t,Z⟩:=vF M;have f:=zI (G.nd q g m) M Z;have Fq:R L q t p:=⟨g,m,f⟩;have Fr:=G.tri _ _ _ Fq;obtain⟨y,j,nr⟩:=id Fr;have gd:=kNS G hp m j f;obtain⟨lq,lt,lp,tq,pq⟩:=wO G Fq;obtain⟨_,_,_,pt,_⟩:=wO G Fr;have mr:=(kT nr).1;have d:(a.map V.ref).length=L.length:=by rw[aj];exact X.len
 obtain⟨aX,_,N,O⟩:=X.at m;refine⟨_,rfl,_,rfl,_,rfl,r,aX,_,p,q,g,t,rfl,.inl ⟨X.top,N⟩,O,M,Z,?_⟩;refine⟨_,rfl,r,_,rfl,.inl (SqL.of X.top),?_⟩;refine⟨_,rfl,_,rfl,_,rfl,_,rfl,r,a,L,p,q,(a.map V.ref).length,u,rfl,X,hp,mp,(by have:=cP G hp;omega),λ H1 b1 X1=>?_⟩;have C:(L.set p (jI u q (a.map V.ref).length))[q]?=some g:=by rw[eW pq];exact m
 refine⟨_,rfl,_,rfl,_,rfl,_,rfl,r,a,_,q,t,(a.map V.ref).length,g,rfl,X1,C,(kT f).1,(by have:=cP G m;omega),λ H2 b2 X2=>?_⟩;have I:((L.set p (jI u q (a.map V.ref).length)).set q (jI g t (a.map V.ref).length))[t]?=some y:=by rw[eW (λ z=>tq z.symm),eW pt];exact j
 refine⟨_,rfl,_,rfl,_,rfl,_,rfl,r,a,_,t,p,(a.map V.ref).length,y,rfl,X2,I,mr,(by have:=cP G j;omega),λ H3 b3 l=>?_⟩;refine⟨_,rfl,.inl ⟨rfl,_,SqL.of l.top⟩,_,rfl,_,rfl,_,rfl,yS3,λ x n=>?_⟩;have rx:r≠x:=kP l.top n;have c:=b1.trans (b2.trans b3)
 have S:H x=none:=by
  cases e:H x with
  | none=>rfl
  | some o =>
   have xA:x∉a:=λ z=>by
    obtain⟨i,hi,rfl⟩:=eO.mp z;have J:i<(((L.set p (jI u q (a.map V.ref).length)).set q (jI g t (a.map V.ref).length)).set t (jI y p (a.map V.ref).length)).length:=by rw[<-l.len];exact hi
    rw[l.row i _ _ (ae hi) (ae J)]at n;cases n
   rw[c x o (λ z=>rx z.symm) xA e]at n;cases n
 refine⟨r,_,_,rfl,rfl,(by rw[kL rx];exact l.top),(by rw[d];exact kQ (by omega)),?_⟩;have Y:=l.app n [p,q,t];rw[d]at Y;refine k x (aR L p q t u g y) _ S (λ b o h1 h2 h=>?_) Y gd (by simp[aR]);have bx:b≠x:=λ z=>by rw[z,S]at h;cases h
 rw[kL h1,kL bx];exact c b o h1 h2 h
def kNJ(a:List Int)(lo hi:Option Int):∃ ms:List Int,yD (a.map V.int) lo hi=ms.map V.int/\ms.length<=a.length:=by
 refine⟨(a.drop (HT.sIx (a.map V.int).length 0 lo)).take (HT.sIx (a.map V.int).length (a.map V.int).length hi-HT.sIx (a.map V.int).length 0 lo),?_,?_⟩
 ·unfold yD
  rw[xb,Aa]
 ·rw[dq,iZ]
  omega
def kIV(a:List Int):∃ c:Int,atI (a.map V.int++[V.int 0]) 0=some (V.int c):=by
 cases a with
 | nil=>exact⟨0,rfl⟩
 | cons x r=>exact⟨x,qP (j:=0) rfl⟩
def xM{n:Nat}(h:n<=20000):n<sizeLine:=jj h (by rw[Br];decide)
def kUL{n:Nat}(h:n<=1000):n<=sizeLine:=gk (kQ h)
def kDD(B:Fx):Hs "_law_pot" ["_law_script","_law_k"] 1 (kQV K):=by
 refine qO B.X B.d23 kCQ λ f G A b s H M Q E u I h=>?_;obtain⟨a,d,k,rfl,m,x,N,J,q⟩:=h
 refine⟨_,(kH (pst 2 u (pix kX (kY cU (qL yS (pv 0) (qK (pv 1)) (qK (kY xL (pv 1) kI))) (jJ (p1 kI))) kI))
   (kJ (kW (jJ (p2 (kS (kJD rfl) rfl (B.z B.y1) GM (p2 kI (kY yN (pv 2) (kY kSO kI kI)))) (kY xL (kY lI (kY xL (kY xL (kS kNO rfl (B.z B.y2) GN (p1 (pv 2))) (kY lH kI (pv 1))) kI) kI) kI)))))),?_⟩
 try dsimp only[qX]
 obtain⟨r,em,L⟩:=kNJ d (some k) (some (k+1));obtain⟨c,C⟩:=kIV r;refine⟨_,rfl,_,rfl,k,rfl,_,rfl,_,_,rfl,rfl,k+1,rfl,a,_,rfl,m,λ p1 h1=>?_⟩;refine⟨yS1,λ p2 j=>?_⟩;have i:p1≠p2:=kP kA j;refine⟨p1,p2,_,_,rfl,rfl,(by rw[kL i];exact kA),kA,(by rw[em,aj,fj];exact kUL (by omega)),λ D o=>?_⟩;refine⟨D,_,_,_,rfl,rfl,SqL.of kA,(by rw[em];exact C),?_⟩;have y:Same H (upd H p1 (.lst (yD (d.map V.int) (some k) (some (k+1))))):=kC h1 _;have v:=kC j (.lst [V.int 0]);have n:=kC o (.lst (yD (d.map V.int) (some k) (some (k+1))++[V.int 0]));have g:=y.trans (v.trans n);refine⟨_,rfl,_,_,rfl,rfl,⟨by decide,by decide,by decide⟩,_,_,rfl,rfl,_,_,rfl,_,rfl,c,rfl,_,rfl,_,_,rfl,rfl,.inl ⟨by decide,by decide⟩,_,_,rfl,rfl,_,_,rfl,rfl,_,_,rfl,rfl,(by show(0:Int)<2147483629;decide),_,_,rfl,rfl,yS2,λ p l=>?_⟩;refine q p _ _ _ ?_ (g.trans (kC l _)) (g.free l) kA
 split<;>omega
def SameBut.trans{a:av}{H c d:Hp}(x:SameBut a H c)(y:SameBut a c d):SameBut a H d:=λ b o n h=>y b o n (x b o n h)
def SameBut.of{a:av}{H H':Hp}(h:Same H H'):SameBut a H H':=λ b o _ e=>h b o e
def kGL{a:av}{H:Hp}{o:HO}:SameBut a H (upd H a o):=λ b u n h=>by rw[kL n];exact h
def jH(B:Fx):Hs "_law_digit" ["_law_pot_here","_law_many"] 1 (kEV):=by
 refine qO B.X B.d24 rA λ f n A g s H r Q E l o h=>?_;obtain⟨a,m,rfl,⟨x,y,b,i⟩,d,j,q⟩:=h
 refine⟨_,(kH (yM (qG kRD (pix kX (pv 0) kI) kI (jA _)) (kH (pst 2 l (kY lI (pix kX (pv 0) kI) (pv 1)))
   (kH (yH (kY Own.op_fdivW (pix kX (pv 0) kI) (pv 1)) (kCY (pv 0) kI gM))
   (kJ (kW (pv 2))))) jD)
   (kH (yH (kY lI (kY xL (kY lH (pix kX (pv 0) kI) kI) kI) kI) (kCY (pv 0) kI gM))
   (kJ (kW (kY lI (kY kFO (kY lI (kY lH (pix kX (pv 0) kI) (pix kX (pv 0) kI)) kI) kI) (pv 1)))))),?_⟩
 try dsimp only[qX]
 refine⟨_,rfl,a,_,_,_,rfl,rfl,SqL.of b,at0,_,_,rfl,rfl,_,rfl,?_⟩;refine kIO (λ c=>?_) (λ c=>?_)
 ·refine⟨_,rfl,a,_,_,_,rfl,rfl,SqL.of b,at0,_,rfl,_,_,rfl,rfl,d,?_⟩
  refine⟨_,rfl,a,_,_,_,rfl,rfl,SqL.of b,at0,_,rfl,_,_,rfl,rfl,⟨by omega,j⟩,?_⟩;refine⟨_,rfl,a,_,_,0,rfl,rfl,b,rfl,?_⟩;refine⟨_,rfl,?_⟩;refine q _ _ (Cq _ (by omega)) (Bi _ d) kGL ⟨_,_,kA,?_⟩;rw[BR _ (by omega)];exact Int.ediv_nonneg i (by omega)
 ·refine⟨_,rfl,a,_,_,_,rfl,rfl,SqL.of b,at1,_,_,rfl,rfl,.inr ⟨by decide,by decide⟩,_,_,rfl,rfl,_,_,rfl,rfl,(by show(0:Int)<2147483647;decide),?_⟩
  refine⟨_,rfl,a,_,_,1,rfl,rfl,b,rfl,?_⟩;have u:0<=(y*48271+39373) % 2147483647:=Cq _ (by decide);have p:(y*48271+39373) % 2147483647<2147483647:=Bi _ (by decide);refine⟨_,rfl,a,_,_,_,rfl,rfl,SqL.of kA,at1,_,rfl,a,_,_,_,rfl,rfl,SqL.of kA,at1,_,_,rfl,rfl,.inl ⟨?_,?_⟩,_,_,rfl,rfl,(by show(0:Int)<2147483629;decide),_,_,rfl,rfl,⟨by decide,by decide⟩,_,rfl,_,_,rfl,rfl,d,?_⟩
  ·show -(2 ^ 64)<(y*48271+39373) % 2147483647
   omega
  ·show(y*48271+39373) % 2147483647<2 ^ 64
   omega
  ·exact q _ _ (Cq _ (by omega)) (Bi _ d) kGL ⟨_,_,kA,i⟩
def PotAt.kept{H H':Hp}{p:av}(h:PotAt H p)(g:Same H H'):PotAt H' p:=by
 obtain⟨x,y,e,z⟩:=h;exact⟨x,y,g _ _ e,z⟩
def nA{i:Int}(h:i.natAbs<2 ^ 200):i.natAbs<2 ^ 9000:=cv h (Nat.pow_le_pow_right (by decide) (by decide))
def PotAt.other{H:Hp}{a l:av}{o:HO}(h:PotAt H a)(n:a≠l):PotAt (upd H l o) a:=by
 obtain⟨x,y,e,z⟩:=h;exact⟨x,y,by rw[kL n];exact e,z⟩
def kTG(s:Nat)(row:List Nat):inV (vn s) (row.map vn)=decide (s∈row):=by
 unfold inV;rw[iX,EO,decide_eq_true_iff];constructor
 ·rintro⟨x,a,e⟩
  obtain⟨n,b,rfl⟩:=fe.mp a;have:((n:Int) == (s:Int))=true:=e
  have:n=s:=by
   have:=eq_of_beq this;omega
  subst this;exact b
 ·intro h
  exact⟨vn s,fe.mpr ⟨s,h,rfl⟩,(beq_self_eq_true (s:Int))⟩
def kQG(row:List Nat):(row.map vn).all aE=true:=by
 rw[GF,vg];intro x _
 rfl
def kNA(row:List Nat)(q:Nat):((row.map ci).eraseIdx (row.idxOf q)).map V.int=(jW row q).map vn:=by
 unfold jW;rw[xJ,vJ ci]
def kHM{L:Rows}{i j:Nat}{r:List Nat}{row:List Nat}(h:L[j]?=some row)(n:i≠j):(L.set i r)[j]?=some row:=by rw[eW n];exact h
inductive kKJ(vs:List V)(H:Hp)(Q:VK)(Y:XK):Prop
 | mk:∀(r:av)(A:List av)(L:Rows)(p q:Nat),(vs=[.ref r,vn p,vn q])->(RowsAt H r A L)->(Good L)->(L.length<=150)->(E L p q)->(∀(L':Rows)(H':Hp),ButRows r A H H'->RowsAt H' r A L'->Good L'->L'.length=L.length->Q .non H')->kKJ vs H Q Y
def kAR(B:Fx):Hs "_law_flip" ["_law_rows","_law_p","_law_q"] 2 (kKJ):=by
 refine qO B.X B.d28 kAA λ f a6 A O s H vs Q E nN y h=>?_;obtain⟨r,Y,L,p,q,rfl,X,G,hL,hE,k⟩:=h
 refine⟨_,(kH (pst 3 nN (pf (zJ B) y (kE (pv 0) (kE (pv 1) (kE (pv 2) kU)))))
   (kH (pst 4 nN (pf (zJ B) y (kE (pv 0) (kE (pv 2) (kE (pv 1) kU)))))
   (kJ (yM (PW.pt (rG (qG kAP (pv 3) (pv 4) (jA _)) (rF (qG vH (pv 4) (pix kX (pv 0) (pv 3)) rfl)))) (kH (qR (jU CF CG oR (pix kX (pv 0) (pv 1)) (p1 (pv 2))))
   (kH (qR (jU CF CG oR (pix kX (pv 0) (pv 2)) (p1 (pv 1))))
   (kH (qR (pf (xP B) y (kE (pv 0) (kE (pv 3) (kE (pv 1) (kE (pv 4) kU))))))
   (kJ (qR (pf (xP B) y (kE (pv 0) (kE (pv 4) (kE (pv 2) (kE (pv 3) kU)))))))))) jD)))),?_⟩
 try dsimp only[qX]
 obtain⟨d,m,C⟩:=G.sym hE;obtain⟨a,hp,mp⟩:=hE;obtain⟨t,ht⟩:=vF C;obtain⟨u,hu⟩:=vF mp;have f:=zI (G.nd q d m) C ht;have f':=zI (G.nd p a hp) mp hu;have Fq:R L q t p:=⟨d,m,f⟩;have Fp:R L p u q:=⟨a,hp,f'⟩;have Ft:=G.tri _ _ _ Fq;have Fu:=G.tri _ _ _ Fp;obtain⟨I,g,nt⟩:=id Ft;obtain⟨ru,j,nu⟩:=id Fu;obtain⟨lq,lt,lp,tq,pq⟩:=wO G Fq;obtain⟨_,lu,_,a4,qp⟩:=wO G Fp;obtain⟨_,_,_,pt,qt⟩:=wO G Ft;obtain⟨_,_,_,qu,pu⟩:=wO G Fu;obtain⟨aX,_,a3,a0⟩:=X.at m;refine⟨_,rfl,_,rfl,_,rfl,r,aX,_,p,q,d,t,rfl,.inl ⟨X.top,a3⟩,a0,C,ht,?_⟩;obtain⟨aY,_,S,Z⟩:=X.at hp;refine⟨_,rfl,_,rfl,_,rfl,r,aY,_,q,p,a,u,rfl,.inl ⟨X.top,S⟩,Z,mp,hu,?_⟩;have stay:=k L H (λ _ _ _ _ h=>h) X G rfl;refine⟨_,rfl,_,rfl,rfl,_,rfl,?_⟩;refine kIO (λ c=>?_) (λ c=>yC stay);have tu:t≠u:=λ z=>by subst z;simp[vn]at c
 obtain⟨at',a5,a1,D⟩:=X.at g;refine⟨_,rfl,_,rfl,_,rfl,r,_,_,_,rfl,rfl,SqL.of X.top,D,at',_,rfl,.inl (SqL.of a1),rfl,kQG _,_,rfl,?_⟩;rw[kTG];refine kIO (λ c2=>?_) (λ c2=>stay);have ut:u∉I:=λ z=>by simp[z]at c2
 have gd:=kIU G hp m g j f f' tu ut
 obtain⟨U,l,x,N⟩:=X.at hp;refine⟨_,rfl,_,rfl,r,_,_,_,rfl,rfl,SqL.of X.top,N,.inl ⟨rfl,_,SqL.of x⟩,_,rfl,U,a.map ci,q,a.idxOf q,rfl,rfl,(by rw[x,xJ]),qQ mp,?_⟩;rw[kNA];have X1:=X.set l (jW a q);have M:=kHM (i:=p) (r:=jW a q) m pq;obtain⟨aq,n,v,T⟩:=X1.at M;refine⟨_,rfl,_,rfl,r,_,_,_,rfl,rfl,SqL.of X1.top,T,.inl ⟨rfl,_,SqL.of v⟩,_,rfl,aq,d.map ci,p,d.idxOf p,rfl,rfl,(by rw[v,xJ]),qQ C,?_⟩;rw[kNA];have X2:=X1.set n (jW d p)
 have b2:ButRows r Y H (upd (upd H U (.lst ((jW a q).map vn))) aq (.lst ((jW d p).map vn))):=λ b o h1 h2 h=>by
  rw[kL (λ z=>h2 (by rw[z];exact dh n)),kL (λ z=>h2 (by rw[z];exact dh l))];exact h
 generalize upd (upd H U (.lst ((jW a q).map vn))) aq (.lst ((jW d p).map vn))=H2 at *;have J:=kHM (i:=q) (r:=jW d p) (kHM (i:=p) (r:=jW a q) g pt) qt;refine⟨_,rfl,_,rfl,_,rfl,_,rfl,r,Y,_,t,p,u,I,rfl,X2,J,(kT nt).1,(by have:=cP G g;omega),λ H3 b3 X3=>?_⟩;have a2:=kHM (i:=t) (r:=jI I p u) (kHM (i:=q) (r:=jW d p) (kHM (i:=p) (r:=jW a q) j pu) qu) tu;refine⟨_,rfl,_,rfl,_,rfl,_,rfl,r,Y,_,u,q,t,ru,rfl,X3,a2,(kT nu).1,(by have:=cP G j;omega),λ H4 b4 X4=>?_⟩;exact k _ H4 (b2.trans (b3.trans b4)) X4 gd (by simp[zS])
structure Some'(L:Rows):Prop where
 pos:0<L.length
 le:L.length<=150
 ne:∀(p:Nat)(row:List Nat),L[p]?=some row->row≠[]/\row.length<=1000
def RowsAt.but{H H':Hp}{r a:av}{A:List av}{L:Rows}(x:RowsAt H r A L)(h1:a≠r)(f:a∉A)(g:SameBut a H H'):RowsAt H' r A L :=
 ⟨g _ _ h1.symm x.top,x.len,x.nd,x.out,λ i b d c h=>g _ _ (λ z=>f (z ▸ dh c)) (x.row i b d c h)⟩
def fX{row:List Nat}{j:Nat}(h:j<row.length):atI (row.map vn) (j:Int)=some (vn row[j]):=qP (by rw[bb,ae h];rfl)
inductive kKF(vs:List V)(H:Hp)(Q:VK)(Y:XK):Prop
 | mk:∀(a r:av)(A:List av)(L:Rows),(vs=[.ref a,.ref r])->(PotAt H a)->(RowsAt H r A L)->(a≠r)->(a∉A)->(Some' L)->(∀(t:av)(p q:Nat)(H':Hp),SameBut a H H'->PotAt H' a->H t=none->H' t=some (.tup [vn p,vn q])->E L p q->Q (.ref t) H')->kKF vs H Q Y
def WebAt(H:Hp)(t:av)(W:Rows):Prop:=∃ b:List av,H t=some (.tup (b.map V.ref))/\b.length=W.length/\∀(j:Nat)(a:av)(row:List Nat),b[j]?=some a->W[j]?=some row->H a=some (.tup (row.map vn))
def WebAt.at{H:Hp}{t:av}{W:Rows}(h:WebAt H t W):∃ ts:List av,H t=some (.tup (ts.map V.ref))/\ts.length=W.length/\∀(q:Nat)(row:List Nat),W[q]?=some row->∃ b,atI (ts.map V.ref) (q:Int)=some (.ref b)/\H b=some (.tup (row.map vn)):=by
 obtain⟨ts,h1,c,d⟩:=h;refine⟨ts,h1,c,λ q row e=>?_⟩;have a:q<ts.length:=by rw[c];exact(ak.mp e).1
 exact⟨ts[q],qP (by rw[bb,ae a];rfl),d q _ row (ae a) e⟩
def kCW{H:Hp}{a b:av}{o:HO}(hp:PotAt H a)(e:H b=some o)(n:∀ xs,o≠.lst xs):b≠a:=λ z=>by
 obtain⟨x,y,h,_⟩:=hp;rw[z,h]at e;exact n _ (bh e).symm
def WebAt.pot{H H':Hp}{a t:av}{W:Rows}(h:WebAt H t W)(g:SameBut a H H')(hp:PotAt H a):WebAt H' t W:=by
 obtain⟨i,h1,l,c⟩:=h;exact⟨i,g _ _ (kCW hp h1 (by simp)) h1,l,λ j b row f d=>g _ _ (kCW hp (c j b row f d) (by simp)) (c j b row f d)⟩
def WebAt.kept{H H':Hp}{t:av}{W:Rows}(h:WebAt H t W)(g:Same H H'):WebAt H' t W:=by
 obtain⟨c,h1,d,b⟩:=h;exact⟨c,g _ _ h1,d,λ j a row i f=>g _ _ (b j a row i f)⟩
inductive kEM(vs:List V)(H:Hp)(Q:VK)(Y:XK):Prop
 | mk:∀(a r:av)(W:Rows),(vs=[.ref a,.ref r])->(PotAt H a)->(WebAt H r W)->(0<W.length)->(W.length<=150)->((∀(p:Nat)(row:List Nat),W[p]?=some row->row≠[]/\row.length<=1000))->(∀(t:av)(p q:Nat)(H':Hp),SameBut a H H'->PotAt H' a->H t=none->H' t=some (.tup [vn p,vn q])->E W p q->Q (.ref t) H')->kEM vs H Q Y
def kOF:Sp:=λ a H Q E=>kKF a H Q E\/kEM a H Q E
def uK(B:Fx):Hs "_law_step" ["_law_pot_here","_law_rows"] 2 (kOF):=by
 refine qO B.X B.d29 tZ λ f a5 A T s H vs Q E nN M h=>?_;rcases h with h | h
 ·obtain⟨a,r,A1,L,rfl,N,X,C,n,S,k⟩:=h
  refine⟨_,(kH (pst 2 nN (pf (jH B) M (p2 (pv 0) (kS kR rfl (B.z B.y0) fb (p1 (pv 1))))))
   (kJ (kW (qS (p2 (pv 2) (pix kX (pix kX (pv 1) (pv 2)) (pf (jH B) M (p2 (pv 0) (kS kR rfl (B.z B.y0) fb (p1 (pix kX (pv 1) (pv 2)))))))))))),?_⟩
  try dsimp only[qX]
  have lA:((A1.map V.ref).length:Int)=L.length:=by rw[aj,X.len]
  have sp:=S.pos;have sl:=S.le;refine⟨_,rfl,_,rfl,r,_,rfl,.inl (SqL.of X.top),a,_,rfl,N,(by omega),nA (by rw[lA];exact jj (m:=150) (by omega) (by decide)),λ d H1 d0 U u p1=>?_⟩;rw[lA]at U;obtain⟨p,rfl⟩:=qc d0;have hp:p<L.length:=by omega
  have O:=X.but C n u;have b:=ae hp;obtain⟨ap,e1,e2,e3⟩:=O.at b;obtain⟨q,Z⟩:=S.ne p _ b;have I:0<L[p].length:=wo.mpr q;have G:((L[p].map vn).length:Int)=L[p].length:=by rw[aj]
  refine⟨_,rfl,_,rfl,_,rfl,r,_,_,_,rfl,rfl,SqL.of O.top,e3,_,rfl,_,rfl,_,rfl,r,_,_,_,rfl,rfl,SqL.of O.top,e3,ap,_,rfl,.inl (SqL.of e2),a,_,rfl,p1,(by omega),nA (by rw[G];exact jj (m:=1000) (by omega) (by decide)),λ d' H2 c0 c1 i p2=>?_⟩;rw[G]at c1;obtain⟨j,rfl⟩:=qc c0;have D:j<L[p].length:=by omega
  have X2:=O.but C n i;have Y:ap≠a:=λ z=>n (z ▸ dh e1);refine⟨ap,_,_,_,rfl,rfl,SqL.of (i _ _ Y e2),fX D,yS2,λ t g=>?_⟩;have v:=kC g (.tup [vn p,vn L[p][j]])
  have l:H t=none:=by
   cases e:H t with
   | none=>rfl
   | some o =>
    have ta:t≠a:=λ z=>by
     obtain⟨x,y,w,_⟩:=p2;rw[z,w]at g;cases g
    rw[(u.trans i) t o ta e]at g;cases g
  exact k t p L[p][j] _ (u.trans (i.trans (.of v))) (p2.kept v) l kA ⟨_,b,iR D⟩
 ·obtain⟨a,r,W,rfl,N,hW,w0,w1,wl,k⟩:=h
  refine⟨_,(kH (pst 2 nN (pf (jH B) M (p2 (pv 0) (kS kR rfl (B.z B.y0) fb (p1 (pv 1))))))
   (kJ (kW (qS (p2 (pv 2) (pix qB (pix qB (pv 1) (pv 2)) (pf (jH B) M (p2 (pv 0) (kS kR rfl (B.z B.y0) fb (p1 (pix qB (pv 1) (pv 2)))))))))))),?_⟩
  try dsimp only[qX]
  obtain⟨ts,h1,a2,h3⟩:=hW.at;have eL:((ts.map V.ref).length:Int)=(W.length:Int):=by rw[aj,a2]
  refine⟨_,rfl,_,rfl,r,_,rfl,.inr (SqT.of h1),a,_,rfl,N,(by omega),nA (by rw[eL];exact jj (m:=150) (by omega) (by decide)),λ d H1 d0 U u p1=>?_⟩;rw[eL]at U;obtain⟨p,rfl⟩:=qc d0;have hp:p<W.length:=by omega
  have W1:=hW.pot u N;obtain⟨a4,J,a3,a1⟩:=W1.at;have b:=ae hp;obtain⟨b1,f1,f2⟩:=a1 p W[p] b;obtain⟨q,Z⟩:=wl p _ b;have I:0<W[p].length:=wo.mpr q;have G:((W[p].map vn).length:Int)=W[p].length:=by rw[aj]
  refine⟨_,rfl,_,rfl,_,rfl,r,_,_,_,rfl,rfl,SqT.of J,f1,_,rfl,_,rfl,_,rfl,r,_,_,_,rfl,rfl,SqT.of J,f1,b1,_,rfl,.inr (SqT.of f2),a,_,rfl,p1,(by omega),nA (by rw[G];exact jj (m:=1000) (by omega) (by decide)),λ c H2 c0 c1 i p2=>?_⟩;rw[G]at c1;obtain⟨j,rfl⟩:=qc c0;have D:j<W[p].length:=by omega
  have a0:=i _ _ (kCW p1 f2 (by simp)) f2;refine⟨b1,_,_,_,rfl,rfl,SqT.of a0,fX D,yS2,λ t g=>?_⟩;have v:=kC g (.tup [vn p,vn W[p][j]])
  have l:H t=none:=by
   cases e:H t with
   | none=>rfl
   | some o =>
    have ta:t≠a:=λ z=>by
     obtain⟨x,y,w,_⟩:=p2;rw[z,w]at g;cases g
    rw[(u.trans i) t o ta e]at g;cases g
  exact k t p W[p][j] _ (u.trans (i.trans (.of v))) (p2.kept v) l kA ⟨_,b,iR D⟩
def wV{L:Rows}(G:Good L)(h:L.length<=150):Some' L :=
 ⟨by have:=G.three;omega,h,λ p row e=>⟨G.ne p row e,by have:=cP G e;omega⟩⟩
structure New(H:Hp)(a r:av)(A:List av):Prop where
 top:H r=none
 all:∀ x∈A,H x=none
 pot:a≠r/\a∉A
def New.but{H d f:Hp}{a r:av}{A:List av}(n:New H a r A)(s:SameBut a H d)(b:ButRows r A d f):SameBut a H f:=λ c o g e =>
 b c o (kP e n.top) (λ z=>by rw[n.all c z]at e;cases e) (s c o g e)
def PotAt.rows{H H':Hp}{a r:av}{A:List av}(h:PotAt H a)(h1:a≠r)(c:a∉A)(b:ButRows r A H H'):PotAt H' a:=by
 obtain⟨x,y,e,z⟩:=h;exact⟨x,y,b _ _ h1 c e,z⟩
inductive gJ(vs:List V)(H:Hp)(Q:VK)(Y:XK):Prop
 | mk:∀(a:av)(n:Nat),(vs=[.ref a,vn n])->(PotAt H a)->(3<=n)->(n<=40)->(∀(r:av)(A:List av)(L:Rows)(H':Hp),SameBut a H H'->PotAt H' a->RowsAt H' r A L->Good L->L.length=n->New H a r A->Q (.ref r) H')->gJ vs H Q Y
def kDQ{H:Hp}{c d f r:av}(D:H c=none)(A:upd H c (.lst [vn 1,vn 2]) d=none)(q:upd (upd H c (.lst [vn 1,vn 2])) d (.lst [vn 2,vn 0]) f=none)
  (h:upd (upd (upd H c (.lst [vn 1,vn 2])) d (.lst [vn 2,vn 0])) f (.lst [vn 0,vn 1]) r=none) :
  RowsAt (upd (upd (upd (upd H c (.lst [vn 1,vn 2])) d (.lst [vn 2,vn 0])) f (.lst [vn 0,vn 1])) r (.lst [.ref c,.ref d,.ref f])) r [c,d,f] [[1,2],[2,0],[0,1]]/\Same H (upd (upd (upd (upd H c (.lst [vn 1,vn 2])) d (.lst [vn 2,vn 0])) f (.lst [vn 0,vn 1])) r (.lst [.ref c,.ref d,.ref f])):=by
 have G:=kC D (.lst [vn 1,vn 2]);have l:=kC A (.lst [vn 2,vn 0]);have g:=kC q (.lst [vn 0,vn 1]);have m:=kC h (.lst [.ref c,.ref d,.ref f]);have h1:=m _ _ (g _ _ (l _ _ (kA (H:=H) (a:=c) (o:=.lst [vn 1,vn 2]))));have C:=m _ _ (g _ _ (kA (H:=upd H c (.lst [vn 1,vn 2])) (a:=d) (o:=.lst [vn 2,vn 0])));have B:=m _ _ (kA (H:=upd (upd H c (.lst [vn 1,vn 2])) d (.lst [vn 2,vn 0])) (a:=f) (o:=.lst [vn 0,vn 1]));have n:c≠d:=kP (kA (H:=H) (a:=c) (o:=.lst [vn 1,vn 2])) A;have v:c≠f:=kP (l _ _ (kA (H:=H) (a:=c) (o:=.lst [vn 1,vn 2]))) q;have p:d≠f:=kP (kA (H:=upd H c (.lst [vn 1,vn 2])) (a:=d) (o:=.lst [vn 2,vn 0])) q;have s:c≠r:=kP (g _ _ (l _ _ (kA (H:=H) (a:=c) (o:=.lst [vn 1,vn 2])))) h;have u:d≠r:=kP (g _ _ (kA (H:=upd H c (.lst [vn 1,vn 2])) (a:=d) (o:=.lst [vn 2,vn 0]))) h;have x:f≠r:=kP (kA (H:=upd (upd H c (.lst [vn 1,vn 2])) d (.lst [vn 2,vn 0])) (a:=f) (o:=.lst [vn 0,vn 1])) h;refine⟨⟨kA,rfl,?_,?_,λ i b I j y=>?_⟩,G.trans (l.trans (g.trans m))⟩
 ·simp[n,v,p]
 ·simp[s.symm,u.symm,x.symm]
 ·match i with
  | 0=>cases j;cases y;exact h1
  | 1=>cases j;cases y;exact C
  | 2=>cases j;cases y;exact B
  | i+3=>simp at j
def fL(B:Fx):Hs "_law_cornered" ["_law_pot_here","_law_n"] 3 (gJ):=by
 refine qO B.X B.d30 fI λ f a9 A a4 s H vs Q E D N h=>?_;obtain⟨a,n,rfl,ha,n3,a7,k⟩:=h
 refine⟨_,(kH (pst 2 D (jJ (kE (jJ (p2 kI kI)) (kE (jJ (p2 kI kI)) (kE (jJ (p2 kI kI)) kU)))))
   (kH (rK (xE rfl (B.z B.y3) (p1 (kY yN (pv 1) kI))) (pgn 3 D) (kH (yH (pf (uK B) N (p2 (pv 0) (pv 2))) (qW (n:=2) rfl (kN (pgn 4 D) (kN (pgn 5 D) qM))))
   (kJ (qR (pf (kDE B) N (kE (pv 2) (kE (pv 4) (kE (pv 5) kU))))))))
   (kH (rK (xE rfl (B.z B.y3) (p1 (pf (jH B) N (p2 (pv 0) (kY Own.op_mulW kI (pv 1)))))) (pgn 3 D) (kH (yH (pf (uK B) N (p2 (pv 0) (pv 2))) (qW (n:=2) rfl (kN (pgn 4 D) (kN (pgn 5 D) qM))))
   (kJ (qR (pf (kAR B) N (kE (pv 2) (kE (pv 4) (kE (pv 5) kU))))))))
   (kJ (kW (pv 2)))))),?_⟩
 try dsimp only[qX]
 refine⟨yS2,λ S m1=>⟨yS2,λ Y m2=>⟨yS2,λ Z m3=>⟨yS3,λ r m4=>?_⟩⟩⟩⟩;obtain⟨X0,g0⟩:=kDQ m1 m2 m3 m4;have p0:=ha.kept g0
 have a2:New H a r [S,Y,Z]:=by
  obtain⟨x,y,j,_⟩:=ha;have g1:=kC m1 (.lst [vn 1,vn 2]);have g2:=kC m2 (.lst [vn 2,vn 0]);have g3:=kC m3 (.lst [vn 0,vn 1]);have f2:=g1.free m2;have f3:=(g1.trans g2).free m3;have f4:=(g1.trans (g2.trans g3)).free m4;refine⟨f4,λ x l=>?_,kP j f4,λ z=>?_⟩
  ·simp at l
   rcases l with rfl | rfl | rfl
   ·exact m1
   ·exact f2
   ·exact f3
  ·simp at z
   rcases z with rfl | rfl | rfl
   ·rw[m1]at j;cases j
   ·rw[f2]at j;cases j
   ·rw[f3]at j;cases j
 generalize a3:upd (upd (upd (upd H S (.lst [vn 1,vn 2])) Y (.lst [vn 2,vn 0])) Z (.lst [vn 0,vn 1])) r (.lst [.ref S,.ref Y,.ref Z])=H1 at *;have a0:upd (upd (upd (upd H S (.lst [.int 1,.int 2])) Y (.lst [.int 2,.int 0])) Z (.lst [.int 0,.int 1])) r (.lst [.ref S,.ref Y,.ref Z])=H1:=a3;rw[a0]
 refine⟨_,rfl,_,_,rfl,rfl,_,rfl,by omega,by omega,zN (lo:=0) (n:=((n:Int)-3).toNat) (λ i C T=>∃(x y z:Option V)(A:List av)(L:Rows),C=[some (.ref a),some (vn n),some (.ref r),x,y,z]/\RowsAt T r A L/\Good L/\L.length=3+i/\SameBut a H T/\PotAt T a/\New H a r A)
  ⟨none,none,none,_,_,rfl,X0,kDR,rfl,.of g0,p0,a2⟩ ?_ ?_⟩
 ·rintro i C T hi ⟨x,y,z,u,L,rfl,X,G,hl,s2,p2,c⟩
  have g:L.length<=150:=by omega
  refine⟨_,rfl,_,rfl,.inl ⟨a,r,u,L,rfl,p2,X,c.pot.1,c.pot.2,wV G g,λ t p q H3 J p3 nt ht hE=>?_⟩⟩;have X3:=X.but c.pot.1 c.pot.2 J;refine⟨t,_,rfl,SqT.of ht,rfl,_,_,rfl,_,_,rfl,rfl,?_⟩;refine⟨_,rfl,_,rfl,_,rfl,r,u,L,p,q,rfl,X3,G,g,hE,λ nx L' I l b4 M G' a5=>?_⟩;have s4:=c.but (s2.trans J) b4;have O:=p3.rows c.pot.1 c.pot.2 b4
  have a6:H nx=none:=by
   cases e:H nx with
   | none=>rfl
   | some o =>
    have na:nx≠a:=λ z=>by
     obtain⟨v,w,j,_⟩:=p3;rw[z,j]at l;cases l
    rw[(s2.trans J) nx o na e]at l;cases l
  refine⟨_,_,_,u++[nx],L',rfl,M,G',by omega,s4,O,c.top,λ b hb=>?_,c.pot.1,λ z=>?_⟩
  ·rcases bz.mp hb with w | w
   ·exact c.all b w
   ·rw[cg.mp w];exact a6
  ·rcases bz.mp z with w | w
   ·exact c.pot.2 w
   ·have e:=cg.mp w
    obtain⟨v,w',j,_⟩:=p3;rw[<-e,j]at l;cases l
 ·rintro C T ⟨x,y,z,u,L,rfl,X,G,hl,s2,p2,c⟩
  have hn:L.length=n:=by omega
  refine⟨_,rfl,_,rfl,_,_,rfl,rfl,⟨nA (by decide),nA (jj (m:=40) (by show((n:Int)).natAbs<=40;omega) (by decide))⟩,a,_,rfl,p2,(by show(0:Int)<2*(n:Int);omega),nA (jj (m:=80) (by show(2*(n:Int)).natAbs<=80;omega) (by decide)),λ d H3 d0 d1 J p3=>?_⟩;have a8:d<2*(n:Int):=d1
  refine⟨d,rfl,by omega,by omega,zN (lo:=0) (n:=d.toNat) (λ i C I=>∃(x y z:Option V)(L:Rows),C=[some (.ref a),some (vn n),some (.ref r),x,y,z]/\RowsAt I r u L/\Good L/\L.length=n/\SameBut a H I/\PotAt I a)
   ⟨_,_,_,L,rfl,X.but c.pot.1 c.pot.2 J,G,hn,s2.trans J,p3⟩ ?_ ?_⟩
  ·rintro i C I hi ⟨x,y,z,U,rfl,M,G4,a1,s4,O⟩
   have g:U.length<=150:=by omega
   refine⟨_,rfl,_,rfl,.inl ⟨a,r,u,U,rfl,O,M,c.pot.1,c.pot.2,wV G4 g,λ t p q H5 s5 p5 nt ht hE=>?_⟩⟩;have X5:=M.but c.pot.1 c.pot.2 s5;refine⟨t,_,rfl,SqT.of ht,rfl,_,_,rfl,_,_,rfl,rfl,?_⟩;refine⟨_,rfl,_,rfl,_,rfl,r,u,U,p,q,rfl,X5,G4,g,hE,λ L' H6 b6 X6 G' a5=>?_⟩;exact⟨_,_,_,L',rfl,X6,G',by omega,c.but (s4.trans s5) b6,p5.rows c.pot.1 c.pot.2 b6⟩
  ·rintro C I ⟨x,y,z,U,rfl,M,G4,a1,s4,O⟩
   exact⟨_,rfl,k r u U I s4 O M G4 a1 c⟩
inductive kEP(vs:List V)(H:Hp)(Q:VK)(Y:XK):Prop
 | mk:∀(a:av)(n:Nat),(vs=[.ref a,vn n])->(PotAt H a)->(n<=150)->(∀(l:av)(ns:List Nat)(H':Hp),SameBut a H H'->PotAt H' a->H l=none->l≠a->H' l=some (.lst (ns.map vn))->ns.Perm (cf n)->Q (.ref l) H')->kEP vs H Q Y
def kLM{b:List Nat}{i d:Nat}(h:b.Perm (cf i)):(b.take d++i::b.drop d).Perm (cf (i+1)):=by
 rw[BY]
 have e:(b.take d++i::b.drop d).Perm (i::b):=by
  have:=CL (a:=i) (l₁:=b.take d) (l₂:=b.drop d);rw[fv]at this;exact this
 exact e.trans ((List.Perm.cons i h).trans (List.perm_append_singleton i _).symm)
def bG(B:Fx):Hs "_law_names" ["_law_pot_here","_law_n"] 2 (kEP):=by
 refine qO B.X B.d31 pZ λ f T A q s H vs Q E G M h=>?_;obtain⟨a,n,rfl,J,Y,k⟩:=h
 refine⟨_,(kH (pst 2 G (jJ kU))
   (kH (rK (xE rfl (B.z B.y3) (p1 (pv 1))) (pgn 3 G) (kJ (qR (jU CC CD oS (pv 2) (p2 (pf (jH B) M (p2 (pv 0) (kY xL (pv 3) kI))) (pv 3))))))
   (kJ (kW (pv 2))))),?_⟩
 try dsimp only[qX]
 refine⟨yS0,λ l p=>?_⟩
 have u:l≠a:=by
  obtain⟨x,y,z,_⟩:=J;exact(kP z p).symm
 have I:=kC p (.lst [])
 refine⟨_,rfl,(n:Int),rfl,by omega,by omega,zN (lo:=0) (n:=(n:Int).toNat) (λ i v g=>∃(x:Option V)(c:List Nat),v=[some (.ref a),some (vn n),some (.ref l),x]/\g l=some (.lst (c.map vn))/\c.Perm (cf i)/\SameBut a H g/\PotAt g a)
  ⟨none,[],rfl,kA,.nil,.of I,J.kept I⟩ ?_ ?_⟩
 ·rintro i v g hi ⟨x,c,rfl,j,hp,r,p2⟩
  have N:c.length=i:=by rw[hp.length_eq,fu]
  refine⟨_,rfl,.inl ⟨rfl,_,SqL.of j⟩,_,rfl,_,rfl,_,_,rfl,rfl,a,_,rfl,p2,(by omega),nA (jj (m:=151) (by omega) (by decide)),λ d Z O U D S=>?_⟩;have C:=D _ _ u j;refine⟨_,rfl,l,_,_,_,rfl,rfl,C,O,(by omega),(by rw[aj,N];exact kQ (by omega)),?_⟩;refine⟨_,c.take d.toNat++i::c.drop d.toNat,rfl,?_,kLM hp,(λ b o L e=>?_),S.other u.symm⟩
  ·rw[cu,xb,eZ,Aa,show vn i=V.int (0+(i:Int)) by rw[wc];rfl]
   exact kA
  ·rw[kL (kP e p)]
   exact D b o L (r b o L e)
 ·rintro v g ⟨x,c,rfl,j,hp,r,p2⟩
  exact⟨_,rfl,k l c g r p2 p u j hp⟩
def yZ(xs:List V){k:Nat}(h:k<=xs.length):yD xs (some (k:Int)) none=xs.drop k:=by
 unfold yD;rw[HT.sIx_none,HT.sIx_nat,ni h,md];rw[iZ];exact bf _
def aP(xs:List V){k:Nat}(h:k<=xs.length):yD xs none (some (k:Int))=xs.take k:=by
 unfold yD;rw[HT.sIx_none,HT.sIx_nat,ni h,Ey,EE]
def kGU(L:Rows)(a:List Nat)(W:Rows)(p:Nat):Prop:=∀ row,L[p]?=some row->∃ n M,a[p]?=some n/\M∈row.map (λ q=>a.getD q 0)/\(∀ i∈row.map (λ q=>a.getD q 0),M<=i)/\W[n]?=some (rot (row.map λ q=>a.getD q 0) M)
structure RowsK(kk:Bool)(H:Hp)(r:av)(A:List av)(L:Rows):Prop where
 top:H r=some (.lst (A.map V.ref))
 len:A.length=L.length
 row:∀(i:Nat)(a:av)(ns:List Nat),A[i]?=some a->L[i]?=some ns->H a=some (HoX kk (ns.map vn))
def RowsAt.k{H:Hp}{r:av}{A:List av}{L:Rows}(h:RowsAt H r A L):RowsK true H r A L:=⟨h.top,h.len,h.row⟩
inductive kQT(vs:List V)(H:Hp)(Q:VK)(Y:XK):Prop
 | mk:∀(kk:Bool)(r l:av)(A:List av)(L:Rows)(ns:List Nat),(vs=[.ref r,.ref l])->(RowsK kk H r A L)->(H l=some (.lst (ns.map vn)))->(ns.Perm (cf L.length))->(Some' L)->((∀(p:Nat)(row:List Nat),L[p]?=some row->∀ x∈row,x<L.length))->(∀(t:av)(W:Rows)(H':Hp),Same H H'->WebAt H' t W->W.length=L.length->(∀ p,p<L.length->kGU L ns W p)->Q (.ref t) H')->kQT vs H Q Y
def kPX{n j:Nat}(h:j<n):ixN n (j:Int)=some j:=by
 unfold ixN;rw[if_pos (by omega),if_pos (by omega),kg]
def kZ{H a:Hp}{D:av}{o:HO}(n:H D=none)(g:Same H a):Same H (upd a D o):=λ b u e=>by
 rw[kL (kP e n)];exact g b u e
def kLC(n:Nat)(e:av):(gj n [V.ref e]).flatten=(gj n e).map V.ref:=by
 induction n with
 | zero=>rfl
 | succ n ih=>rw[wu,wu,yf,ih];rfl
end
section
def kKU{n k:Nat}(h:k<=n):HT.sIx n n (some (k:Int))=k:=by rw[HT.sIx_nat,ni h]
end
section
def wC(s:Nat)(row:List Nat):inV (vn s) (row.map vn)=decide (s∈row):=by
 unfold inV;rw[iX,EO,decide_eq_true_iff];constructor
 ·rintro⟨y,b,e⟩
  obtain⟨n,a,rfl⟩:=fe.mp b;have:(n:Int)=s:=by simpa[eqV,vn] using e
  rw[show s=n by omega];exact a
 ·intro h
  exact⟨vn s,fe.mpr ⟨s,h,rfl⟩,by simp[eqV,vn]⟩
def yY(row:List Nat):(row.map vn).all aE=true:=by
 rw[vg];intro y a;obtain⟨n,b,rfl⟩:=fe.mp a
 rfl
inductive nW(vs:List V)(H:Hp)(Q:VK)(Y:XK):Prop
 | mk:∀(t z:av)(W:Rows)(p q:Nat),(vs=[.ref t,.ref z])->(WebAt H t W)->(H z=some (.tup [vn p,vn q]))->(Nb W)->(E W p q)->(∀(y:av)(H':Hp),Same H H'->H y=none->H' y=some (.tup [vn (nxt W (p,q)).1,vn (nxt W (p,q)).2])->Q (.ref y) H')->nW vs H Q Y
def kOT{W:Rows}(S:Nb W){q v p:Nat}(h:R W q v p):∃ row,W[q]?=some row/\p∈row/\xI row p=some v:=by
 obtain⟨row,e,n⟩:=h;exact⟨row,e,(kT n).2,rH (S.nd _ _ e) n⟩
def oO(B:Fx):Hs "behind" ["web","step"] 1 (nW):=by
 refine qO B.X B.d4 kHP λ f C A a s H J Q E d G h=>?_;obtain⟨t,z,W,p,q,rfl,u,r,S,o,k⟩:=h
 refine⟨_,(kH (yH (pv 1) (qW (n:=2) rfl (kN (pgn 2 d) (kN (pgn 3 d) qM))))
   (kH (pst 4 d (pix qB (pv 0) (pv 3)))
   (kJ (kW (qS (p2 (pv 3) (pix qB (pv 4) (kY yN (kAN zt zu zw cX (pv 4) (p1 (pv 2))) kI)))))))),?_⟩
 try dsimp only[qX]
 obtain⟨v,m,j,_⟩:=xK S o;obtain⟨row,l,hp,x⟩:=kOT S m;obtain⟨I,h1,_,i⟩:=u.at;obtain⟨b,D,c⟩:=i q row l;rw[j]at k;refine⟨_,rfl,z,_,rfl,SqT.of r,rfl,_,_,rfl,_,_,rfl,rfl,?_⟩;refine⟨_,rfl,_,rfl,t,_,_,_,rfl,rfl,SqT.of h1,D,?_⟩;refine⟨_,rfl,_,rfl,_,rfl,.inr (.inl ⟨rfl,.inr ⟨_,c⟩⟩),_,rfl,b,row.map ci,p,row.idxOf p,rfl,rfl,SqT.of (by rw[c,xJ]),qQ hp,_,_,rfl,rfl,b,_,_,_,rfl,rfl,SqT.of c,sW hp x,yS2,λ y g=>?_⟩;exact k y _ (kC g _) g kA
def prD(x y:Nat):CY:=.tuple [.int (x:Int),.int (y:Int)]
def lE(x y:Nat):jg (prD x y)=true:=by
 first | rfl | simp[prD,jg,ka,jh,nj,kq]
def kFJ(x y u v:Nat):ie (prD x y) (prD u v)=decide (x=u/\y=v):=by
 have e:∀ i j:Nat,((i:Int) == (j:Int))=decide (i=j):=λ i j=>by
  rw[iX,beq_iff_eq,decide_eq_true_iff];omega
 simp[prD,ie,iU,e]
def kND{K:be}{H:Hp}{z:av}{x y:Nat}(h:H z=some (.tup [vn x,vn y])):Dt K H (prD x y) (.ref z):=by
 unfold prD Dt;exact⟨z,_,rfl,SqT.of h,by simp only[DtAll,Dt];exact⟨_,_,rfl,rfl,_,_,rfl,rfl,rfl⟩⟩
def PairsAt(H:Hp)(s:av)(T:List (Nat×Nat)):Prop:=∃ a:List av,H s=some (.lst (a.map V.ref))/\a.length=T.length/\∀(i:Nat)(b:av)(t:Nat×Nat),a[i]?=some b->T[i]?=some t->H b=some (.tup [vn t.1,vn t.2])
def PairsAt.kept{H H':Hp}{s:av}{T:List (Nat×Nat)}(h:PairsAt H s T)(g:Same H H'):PairsAt H' s T:=by
 obtain⟨d,h1,c,a⟩:=h;exact⟨d,g _ _ h1,c,λ i b t j f=>g _ _ (a i b t j f)⟩
def PairsAt.app{H H':Hp}{s b:av}{a:List av}{T:List (Nat×Nat)}{t:Nat×Nat}(h1:H s=some (.lst (a.map V.ref)))(g:a.length=T.length)(l:∀(i:Nat)(b:av)(t:Nat×Nat),a[i]?=some b->T[i]?=some t->H b=some (.tup [vn t.1,vn t.2]))(j:H b=some (.tup [vn t.1,vn t.2])) :
  PairsAt (upd H s (.lst (a.map V.ref++[.ref b]))) s (T++[t]):=by
 refine⟨a++[b],by rw[cu];exact kA,by simp[g],λ i c u d f=>?_⟩;have h:c≠s->upd H s (.lst (a.map V.ref++[.ref b])) c=H c:=λ z=>kL z;by_cases m:i<a.length
 ·rw[bq m]at d
  rw[bq (by omega)]at f;have:=l i c u d f;rw[h (wP this h1 (by simp))];exact this
 ·have:i=a.length:=by
   have:=(ak.mp d).1;simp at this;omega
  subst this;rw[dr]at d;rw[g,dr]at f;cases d
  cases f
  rw[h (wP j h1 (by simp))];exact j
def orb(W:Rows)(p q k:Nat):List (Nat×Nat):=(cf k).map λ i=>it (nxt W) i (p,q)
def kLP(W:Rows)(p q k:Nat):orb W p q (k+1)=orb W p q k++[it (nxt W) k (p,q)]:=by
 unfold orb;rw[BY,cu]
 rfl
def rQ(W:Rows)(p q k:Nat):(orb W p q k).length=k:=by simp[orb]
structure Turns(W:Rows)(p q k:Nat):Prop where
 pos:0<k
 back:it (nxt W) k (p,q)=(p,q)
 first:∀ j,0<j->j<k->it (nxt W) j (p,q)≠(p,q)
 few:k<=(kM W).length
def kJL{W:Rows}(S:Nb W){p q:Nat}(h:E W p q):∃ k,Turns W p q k:=by
 obtain⟨k,h1,b,c,a⟩:=(lU S.nd S.sym).comes (mem_steps.mpr h);exact⟨k,h1,c,a,b⟩
def aU{W:Rows}(S:Nb W)(h:W.length<=42):(kM W).length<=1764:=by
 rw[jX]
 have:∀(L:List (List Nat))(n:Nat),(∀ r∈L,r.length<=n)->(L.map jb).sum<=L.length*n:=λ L n b=>by
  induction L with
  | nil=>simp
  | cons r L ih =>
   have h1:=b r (by simp);have d:=ih λ r a=>b r (by simp[a]);simp only[eZ,Ap,iJ,Nat.add_mul,Nat.one_mul];omega
 have h1:=this W W.length λ r a=>by
  obtain⟨i,c,rfl⟩:=eO.mp a;exact S.len (ae c)
 have d:W.length*W.length<=42*42:=Nat.mul_le_mul h h;omega
inductive tS(vs:List V)(H:Hp)(Q:VK)(Y:XK):Prop
 | mk:∀(w z:av)(W:Rows)(p q:Nat),(vs=[.ref w,.ref z])->(WebAt H w W)->(Nb W)->(W.length<=42)->(H z=some (.tup [vn p,vn q]))->(E W p q)->(∀(s:av)(k:Nat)(H':Hp),Same H H'->Turns W p q k->PairsAt H' s (orb W p q k)->Q (.ref s) H')->tS vs H Q Y
def lO:Option HO->Nat
 | some (.lst xs)=>xs.length
 | some (.dK kvs)=>kvs.length
 | _=>0
def kUY(b:Nat)(a:St)(H:Hp):Nat:=match a with
 | [_,_,some (.ref s),_]=>b-lO (H s)
 | _=>0
def uI(B:Fx):Hs "steps_round" ["web","step"] 2 (tS):=by
 refine qO B.X B.d5 gN λ f a2 A N s0 H vs Q E nN M h=>?_;obtain⟨w,z,W,p,q,rfl,hW,S,O,hz,hE,k⟩:=h
 refine⟨_,(kH (pst 2 nN (jJ (p1 (pv 1))))
   (kH (pst 3 nN (pf (oO B) M (p2 (pv 0) (pv 1))))
   (kH (kLK Ea (qG (cS M.units) (pv 3) (pv 1) (jA _)) (kH (qR (jU jo jq xG (pv 2) (p1 (pv 3))))
   (kJ (pst 3 nN (pf (oO B) M (p2 (pv 0) (pv 3)))))))
   (kJ (kW (pv 2)))))),?_⟩
 try dsimp only[qX]
 obtain⟨n,T⟩:=kJL S hE;have I:=aU S O;have n9:=T.few;refine⟨_,rfl,yS1,λ s ns=>?_⟩;have gs:=kC ns (.lst [.ref z]);refine⟨_,rfl,_,rfl,w,z,W,p,q,rfl,hW.kept gs,gs _ _ hz,S,hE,λ y H1 g1 ny x=>?_⟩;have a0:=g1 _ _ (kA (H:=H) (a:=s) (o:=.lst [.ref z]));have D:=gs.trans g1
 refine kJJ (λ σ g=>∃(y:av)(i:Nat)(r:List av),σ=[some (.ref w),some (.ref z),some (.ref s),some (.ref y)]/\Same H g/\0<i/\i<=n /\
   g s=some (.lst (r.map V.ref))/\r.length=i/\(∀(j:Nat)(b:av)(t:Nat×Nat),r[j]?=some b->(orb W p q i)[j]?=some t->g b=some (.tup [vn t.1,vn t.2]))/\g y=some (.tup [vn (it (nxt W) i (p,q)).1,vn (it (nxt W) i (p,q)).2])) (kUY (n+1))
  ⟨y,1,[z],rfl,D,by omega,T.pos,a0,rfl,(λ j b t J L=>?_),x⟩ ?_ ?_
 ·match j,J with
  | 0,J =>
   cases J
   have:t=(p,q):=by
    have:(orb W p q 1)[0]?=some (p,q):=rfl;rw[this]at L;exact(bh L).symm
   rw[this];exact D _ _ hz
 ·rintro σ g ⟨y,i,r,rfl,g2,i0,i1,C,ls,u,x⟩
  have Z:=g2 _ _ hz;refine⟨_,rfl,_,rfl,_,prD p q,kND x,kND Z,lE _ _,lE _ _,_,rfl,?_⟩;rw[kFJ];by_cases c:it (nxt W) i (p,q)=(p,q)
  ·rw[decide_eq_true (by rw[c];exact⟨rfl,rfl⟩)]
   have:i=n:=by
    rcases iY i n with l | l
    ·exact absurd c (T.first i i0 l)
    ·omega
   subst this;exact⟨_,rfl,k s i g g2 T ⟨r,C,by rw[rQ];exact ls,u⟩⟩
  ·rw[decide_eq_false (λ z=>c (qv z.1 z.2))]
   have lt:i<n:=by
    rcases iY i n with l | l
    ·exact l
    ·exact absurd (by rw[show i=n by omega];exact T.back) c
   refine⟨_,rfl,.inl ⟨rfl,_,SqL.of C⟩,_,rfl,s,_,_,rfl,rfl,C,(by rw[aj];exact xM (by omega)),?_⟩;have A1:=PairsAt.app (H':=g) C (by rw[rQ];exact ls) u (t:=it (nxt W) i (p,q)) x;rw[<-kLP]at A1;have gu:Same H (upd g s (.lst (r.map V.ref++[V.ref y]))):=kZ ns g2;have sy:y≠s:=wP x C (by simp);have Y:upd g s (.lst (r.map V.ref++[V.ref y])) y=some (.tup [vn (it (nxt W) i (p,q)).1,vn (it (nxt W) i (p,q)).2]):=by rw[kL sy];exact x
   generalize upd g s (.lst (r.map V.ref++[V.ref y]))=H3 at *;refine⟨_,rfl,_,rfl,w,y,W,_,_,rfl,hW.kept gu,Y,S,kFW S hE i,λ y' H4 g4 a1 U=>?_⟩;obtain⟨G,b1,b2,b3⟩:=A1.kept g4;rw[rQ]at b2;refine⟨⟨y',i+1,G,rfl,gu.trans g4,by omega,lt,b1,b2,b3,U⟩,?_⟩;show n+1-lO (H4 s)<n+1-lO (g s);rw[b1,C];show n+1-(G.map V.ref).length<n+1-(r.map V.ref).length;rw[aj,aj,b2,ls];clear u b3 I;omega
 ·rintro σ H1 Q1 Q2 m ⟨v,J,v2,L,d,e,h1,h2,h3,h4,kk,e5,q1⟩
  exact⟨v,J,v2,L,d,e,h1,h2,h3,h4,kk,e5,m _ _ q1⟩
end
section
end
section
theorem kBP{H:Hp}:∀{a:List av}{T:List (Nat×Nat)},a.length=T.length->(∀(i:Nat)(b:av)(t:Nat×Nat),a[i]?=some b->T[i]?=some t->H b=some (.tup [vn t.1,vn t.2]))->DtAll K H (T.map λ t=>prD t.1 t.2) (a.map V.ref)
 | [],[],_,_=>by unfold DtAll;rfl
 | s::a,t::T,hl,h=>by
  rw[eZ,eZ];unfold DtAll;exact⟨_,_,rfl,kND (h 0 s t rfl rfl),kBP (by simpa using hl) λ i b u d c=>h (i+1) b u (by simpa using d) (by simpa using c)⟩
 | [],_::_,hl,_=>by simp at hl
 | _::_,[],hl,_=>by simp at hl
end
section
end
section
end
section
def kMJ(l:List Nat):iU (l.map λ n:Nat=>kb (n:Int)) (l.map λ n:Nat=>kb (n:Int))=true:=by
 induction l with
 | nil=>rfl
 | cons x l ih=>simp[iU,ie,ih]
def kGF{H:Hp}(row:List Nat):DtAll K H (row.map λ n:Nat=>kb (n:Int)) (row.map vn):=by
 induction row with
 | nil=>unfold DtAll;rfl
 | cons x r ih =>
  rw[eZ,eZ];unfold DtAll;exact⟨_,_,rfl,(by unfold Dt;rfl),ih⟩
end
section
end
section
end
section
end
section
end
section
def aK(B:Fx):Hs "_law_web" ["_law_rows","_law_names_here"] 1 (kQT):=by
 refine qO B.X B.d32 kCO λ f b8 A b0 s H vs Q E nN hr h=>?_;obtain⟨kk,r,l,A1,L,d,rfl,X,hl,hp,S,af,k⟩:=h
 refine⟨_,(kH (pst 2 nN (kY kSN (jJ (p1 (qS kU))) (kS kR rfl (B.z B.y0) fb (p1 (pv 0)))))
   (kH (rK (kFK true rfl (B.z B.y4) (p1 (pv 0))) (qW (n:=2) rfl (kN (pgn 3 nN) (kN (pgn 4 nN) qM))) (kH (bC (i:=5) (Nc:=["_law_q","_law_names_here"]) (js:=[none,some 1]) rfl rfl nN rfl (ui rfl) ((kWH kk) (pv 4)) (CS.of rfl rfl) rfl (λ C a5 ac fp a6=>(pgc 0)) (λ C a5 ac fp a6 D L=>(qF (qV (pix (show IxR _ (kHV K) from kX) (pv 1) (pv 0))))))
   (kH (pst 6 nN (jU mf mh zR (pv 5) (p1 (kS (kJC rfl) rfl (B.z B.y5) GO (p1 (pv 5))))))
   (kJ (yH (qU qE rfl (B.z B.y6) gy (p1 (kY cU (qL yS (pv 5) (qK (pv 6)) jL) (qL yS (pv 5) jL (qK (pv 6)))))) (kCY (pv 2) (pix kX (pv 1) (pv 3)) gM))))))
   (kJ (kW (qU qE rfl (B.z B.y6) gy (p1 (pv 2))))))),?_⟩
 try dsimp only[qX]
 have b1:d.length=L.length:=by rw[hp.length_eq,fu]
 have ax:∀{j:Nat}{n:Nat},d[j]?=some n->n<L.length:=λ{j n} e=>iP.mp (hp.mem_iff.mp (dh e));have b3:d.Nodup:=hp.nodup_iff.mpr qk;have lA:((A1.map V.ref).length:Int)=L.length:=by rw[aj,X.len]
 have b5:=S.le;refine⟨yS0,λ e ne=>⟨yS1,λ l1 n1=>?_⟩⟩;have g1:=(kC ne (.tup [])).trans (kC n1 (.lst [.ref e]));have he:=(kC n1 (.lst [.ref e])) _ _ (kA (H:=H) (a:=e) (o:=.tup []));have am:=kA (H:=upd H e (.tup [])) (a:=l1) (o:=.lst [.ref e]);generalize upd (upd H e (.tup [])) l1 (.lst [.ref e])=H1 at *;refine⟨_,rfl,r,_,rfl,.inl (SqL.of (g1 _ _ X.top)),l1,_,_,rfl,rfl,am,(by omega),(by omega),(by rw[lA];exact gk (kQ (by simp;omega))),λ f nf=>?_⟩;rw[lA,kg,kLC];have gf:=kC nf (.lst ((gj L.length e).map V.ref));have g2:=g1.trans gf;have aq:=gf _ _ he;have as:=kA (H:=H1) (a:=f) (o:=.lst ((gj L.length e).map V.ref));generalize upd H1 f (.lst ((gj L.length e).map V.ref))=H2 at *
 refine⟨_,rfl,r,rfl,⟨_,SqL.of (g2 _ _ X.top)⟩,kMW (k:=true) (xs:=A1.map V.ref) (λ i v O=>∃(x3 x4 x5 x6:Option V)(u:List av)(W:Rows),v=[some (.ref r),some (.ref l),some (.ref f),x3,x4,x5,x6]/\O f=some (.lst (u.map V.ref))/\u.length=L.length/\W.length=L.length /\
   (∀(j:Nat)(a:av)(row:List Nat),u[j]?=some a->W[j]?=some row->O a=some (.tup (row.map vn)))/\(∀ p,p<i->kGU L d W p)/\Same H O/\H f=none)
  ⟨none,none,none,none,gj L.length e,gj L.length [],rfl,as,uo,uo,(λ j a row e1 e2=>?_),(λ p b2=>by omega),g2,g1.free nf⟩ ?_ ?_ ?_⟩
 ·have a1:=(Bj.mp (dh e1)).2
  have a2:=(Bj.mp (dh e2)).2;subst a1 a2;exact aq
 ·rintro i v O _ ⟨x3,x4,x5,x6,u,W,rfl,hf,lt,lW,G,hW,g3,J⟩
  exact SqL.of (g3 _ _ X.top)
 ·rintro i x T v O hx nT ⟨x3,x4,x5,x6,u,W,rfl,hf,lt,lW,G,hW,g3,J⟩
  rw[bb]at hx;obtain⟨a,ea,rfl⟩:=bp.mp hx;have hi:i<L.length:=by rw[<-X.len];exact(ak.mp ea).1
  have g:=ae hi;have a7:=X.row i a _ ea g;obtain⟨ap,b7⟩:=S.ne i _ g;have rb:=af i _ g;have gT:=g3.trans (kC nT (.tup [.int i,.ref a]));have b4:=(kC nT (.tup [.int i,.ref a])) _ _ hf;have a4:∀(j:Nat)(b:av)(row:List Nat),u[j]?=some b->W[j]?=some row->upd O T (.tup [.int i,.ref a]) b=some (.tup (row.map vn)):=λ j b row Y w2=>(kC nT (.tup [.int i,.ref a])) _ _ (G j b row Y w2);refine⟨T,_,rfl,SqT.of kA,rfl,_,_,rfl,_,_,rfl,rfl,?_⟩;generalize upd O T (.tup [.int i,.ref a])=H4 at *
  generalize b6:L[i]=row at *
  refine⟨_,rfl,a,rfl,⟨_,SqX.of (gT _ _ a7)⟩,λ D nD=>?_⟩;refine kRR (xs:=row.map vn) (λ j v Z=>∃ x:Option V,v=[x,some (.ref l)]/\Z D=some (.lst (((row.take j).map λ q=>d.getD q 0).map vn))/\Same H4 Z) ⟨none,rfl,kA,kC nD _⟩ ?_ ?_ ?_
  ·rintro j v Z _ ⟨x,rfl,I,N⟩
   exact SqX.of (N _ _ (gT _ _ a7))
  ·rintro j x v Z hx ⟨y,rfl,I,N⟩
   rw[bb]at hx;obtain⟨q,eq,rfl⟩:=bp.mp hx;have hj:j<row.length:=(ak.mp eq).1;have hq:q<d.length:=by rw[b1];exact rb q (dh eq)
   refine⟨_,rfl,_,rfl,l,_,_,_,rfl,rfl,SqL.of (N _ _ (gT _ _ hl)),fX hq,_,I,(by rw[aj,aj,dq];exact kQ (by omega)),?_⟩;refine⟨_,rfl,?_,kZ nD N⟩;rw[jd,eq];simp only[rh,cu,eZ,Do];rw[show d.getD q 0=d[q] by simp[ao,hq]];exact kA
  ·rintro v Z ⟨x,rfl,I,N⟩
   rw[aj,iL]at I;generalize hc:(row.map λ q=>d.getD q 0)=c at *;have ag:c.length=row.length:=by rw[<-hc,aj]
   have a3:0<c.length:=by rw[ag];exact wo.mpr ap
   refine⟨_,rfl,.inl ⟨rfl,_,SqL.of I⟩,_,rfl,D,c.map ci,rfl,SqL.of (by rw[I,xJ]),(by rw[aj];exact a3),λ M hM an=>?_⟩;obtain⟨m,hm,rfl⟩:=fe.mp hM
   have al:∀ j∈c,m<=j:=λ j hj=>by
    have:=an (ci j) (fe.mpr ⟨j,hj,rfl⟩);simp only[ci]at this;omega
   have il:=fq hm
   refine⟨D,c.map ci,m,c.idxOf m,rfl,rfl,(by rw[I,xJ]),qQ hm,?_⟩
   have lv:(c.map vn).length=c.length:=aj _;refine⟨_,rfl,_,rfl,_,rfl,D,_,rfl,SqL.of I,λ p1 m1=>?_⟩;rw[yZ _ (by rw[lv];omega)];have h1:=kC m1 (.lst ((c.map vn).drop (c.idxOf m)));refine⟨_,rfl,_,rfl,_,rfl,D,_,rfl,SqL.of (h1 _ _ I),λ p2 m2=>?_⟩;rw[aP _ (by rw[lv];omega)];have h2:=kC m2 (.lst ((c.map vn).take (c.idxOf m)));refine⟨p1,p2,_,_,rfl,rfl,h2 _ _ kA,kA,(by rw[iZ,dq,lv];exact gk (kQ (by omega))),λ p3 m3=>?_⟩;have h3:=kC m3 (.lst ((c.map vn).drop (c.idxOf m)++(c.map vn).take (c.idxOf m)));refine⟨p3,_,rfl,.inl ⟨SqL.of kA,λ t m4=>?_⟩⟩;have h4:=kC m4 (.tup ((c.map vn).drop (c.idxOf m)++(c.map vn).take (c.idxOf m)));have er:(c.map vn).drop (c.idxOf m)++(c.map vn).take (c.idxOf m)=(rot c m).map vn:=by unfold rot;rw[cu,Aa,xb]
   have hh:=h1.trans (h2.trans (h3.trans h4));have ht:upd (upd (upd (upd Z p1 (.lst ((c.map vn).drop (c.idxOf m)))) p2 (.lst ((c.map vn).take (c.idxOf m)))) p3 (.lst ((c.map vn).drop (c.idxOf m)++(c.map vn).take (c.idxOf m)))) t (.tup ((c.map vn).drop (c.idxOf m)++(c.map vn).take (c.idxOf m))) t=some (.tup ((rot c m).map vn)):=by rw[<-er];exact kA
   generalize upd (upd (upd (upd Z p1 (.lst ((c.map vn).drop (c.idxOf m)))) p2 (.lst ((c.map vn).take (c.idxOf m)))) p3 (.lst ((c.map vn).drop (c.idxOf m)++(c.map vn).take (c.idxOf m)))) t (.tup ((c.map vn).drop (c.idxOf m)++(c.map vn).take (c.idxOf m)))=H6 at *;have g6:=gT.trans (N.trans hh);have a0:=hh _ _ (N _ _ b4);have aa:i<d.length:=by omega
   have U:=ae aa;have ah:=ax U;refine⟨_,rfl,_,rfl,_,rfl,l,_,_,_,rfl,rfl,SqL.of (g6 _ _ hl),fX aa,f,_,_,d[i],rfl,rfl,a0,kPX (by rw[aj,lt];exact ah),?_⟩;refine⟨_,_,_,_,u.set d[i] t,W.set d[i] (rot c m),rfl,(by rw[List.map_set];exact kA),(by rw[BA];exact lt),(by rw[BA];exact lW),(λ j b aw e1 e2=>?_),(λ p b2=>?_),kZ J g6,J⟩
   ·have bt:b≠f->upd H6 f (.lst ((u.map V.ref).set d[i] (.ref t))) b=H6 b:=λ z=>kL z
    by_cases ej:d[i]=j
    ·subst ej
     rw[kl (by omega)]at e1;rw[kl (by omega)]at e2;cases e1
     cases e2
     rw[bt (wP ht a0 (by intro z;cases z))];exact ht
    ·rw[eW ej]at e1 e2
     have hb:=hh _ _ (N _ _ (a4 j b aw e1 e2));rw[bt (wP hb a0 (by intro z;cases z))];exact hb
   ·intro a8 a9
    by_cases ab:p=i
    ·subst ab
     have e0:=g.symm.trans a9;cases e0
     refine⟨d[p],m,U,(by rw[hc];exact hm),(λ j hj=>al j (by rw[hc]at hj;exact hj)),?_⟩;rw[hc,kl (by omega)]
    ·obtain⟨n',M',Y,w2,w3,w4⟩:=hW p (by omega) a8 a9
     refine⟨n',M',Y,w2,w3,?_⟩
     have:d[i]≠n':=λ z=>by
      have ay:=(ak.mp Y).1;have:=(yj ay b3).mp (Y.trans (by rw[<-z];exact U.symm));exact ab this
     rw[eW this];exact w4
 ·rintro v O ⟨x3,x4,x5,x6,u,W,rfl,hf,lt,lW,G,hW,g3,J⟩
  rw[aj,X.len]at hW;refine⟨_,rfl,f,_,rfl,.inl ⟨SqL.of hf,λ t nt=>?_⟩⟩;have gt:=kC nt (.tup (u.map V.ref));exact k t W _ (g3.trans gt) ⟨u,kA,by omega,λ j b row Y w2=>gt _ _ (G j b row Y w2)⟩ lW hW
def oQ{L W:Rows}{a:List Nat}(hp:a.Perm (cf L.length))(c:W.length=L.length)(h:∀ p,p<L.length->kGU L a W p):Ren L W a:=⟨hp,c,λ p row e=>by
 obtain⟨n,M,h1,_,_,b⟩:=h p (ak.mp e).1 row e;exact⟨n,(row.map λ q=>a.getD q 0).take ((row.map λ q=>a.getD q 0).idxOf M),(row.map λ q=>a.getD q 0).drop ((row.map λ q=>a.getD q 0).idxOf M),h1,(fv _ _).symm,b⟩⟩
end
section
def prZ(t:Nat×Nat):List Int:=[(t.1:Int),(t.2:Int)]
def kCL{H:Hp}{s:av}{T:List (Nat×Nat)}(h:PairsAt H s T):∃ ps:List (av×List Int),H s=some (.lst (ps.map λ q=>V.ref q.1))/\kNT H ps /\
  ∀(l:av)(c:List (av×List Int)),H l=none->c.Perm ps->c.Pairwise (λ a b=>Srt.lexLt b.2 a.2=false)->PairsAt (upd H l (.lst (c.map λ q=>V.ref q.1))) l (Fc.sortP T):=by
 obtain⟨g,h1,S,C⟩:=h
 have f:(g.zip (T.map prZ)).map (λ q=>V.ref q.1)=g.map V.ref:=by
  rw[show(λ q:av×List Int=>V.ref q.1)=V.ref∘BZ from rfl,<-sh,Am (by rw[aj];omega)]
 have mem:∀ q∈g.zip (T.map prZ),∃ t:Nat×Nat,q.2=prZ t/\H q.1=some (.tup [vn t.1,vn t.2]):=λ q o=>by
  obtain⟨i,A,rfl⟩:=eO.mp o;rw[An,aj]at A;refine⟨T[i]'(by omega),by simp,?_⟩;have:=C i (g[i]'(by omega)) (T[i]'(by omega)) (ae _) (ae _);simpa using this
 refine⟨g.zip (T.map prZ),by rw[f];exact h1,λ q o=>?_,λ l c Q B L=>?_⟩
 ·obtain⟨t,e,n⟩:=mem q o
  rw[e];exact⟨n,by simp[prZ]⟩
 ·have back:∃ j:List (Nat×Nat),c.map (·.2)=j.map prZ/\j.Perm T:=by
   have M:(c.map (·.2)).Perm (T.map prZ):=by
    have:=B.map (λ q:av×List Int=>q.2);rwa[zd (by rw[aj];omega)]at this
   obtain⟨m,a,b⟩:=Srt.perm_back M rfl;exact⟨m,b,a⟩
  obtain⟨j,r,I⟩:=back
  have u:j.Pairwise (λ a b=>Fc.leP a b=true):=by
   have y:(c.map (·.2)).Pairwise (λ a b=>Srt.lexLt b a=false):=me.mpr L;rw[r]at y;refine(me.mp y).imp λ{a b} N=>?_;rw[<-Fc.leP_leL,Fc.leL_iff];exact N
  have x:=Fc.sortP_is I u
  have G:c.length=j.length:=by
   have:=congrArg jb r;simpa using this
  refine⟨c.map (·.1),by rw[sh];exact kA,by rw[<-x,aj,G],λ i b t f p=>?_⟩;rw[<-x]at p;have A:=(ak.mp p).1;have d:i<c.length:=by omega
  rw[bb,ae d]at f;have f:c[i].1=b:=bh f
  have v:c[i].2=prZ t:=by
   have:=congrArg (λ l=>l[i]?) r;rw[bb,bb,p,ae d]at this;exact bh this
  obtain⟨J,D,n⟩:=mem c[i] (B.mem_iff.mp (iR d))
  have O:J=t:=by
   rw[D]at v;unfold prZ at v;injection v with z1 z2
   injection z2 with z2 _
   exact qv (by omega) (by omega)
  rw[<-f,kL (kP n Q),n,O]
inductive kEL(vs:List V)(H:Hp)(Q:VK)(Y:XK):Prop
 | mk:∀(t:av)(W:Rows),(vs=[.ref t])->(WebAt H t W)->(Nb W)->(W.length<=42)->(∀(s:av)(H':Hp),Same H H'->H s=none->PairsAt H' s (Fc.stepsS W)->Q (.ref s) H')->kEL vs H Q Y
def kCJ(W:Rows)(i:Nat)(hi:i<W.length):kM (W.take (i+1))=kM (W.take i)++(W[i].map λ q=>(i,q)):=by
 unfold kM;rw[dq,dq,ni (by omega),ni (by omega),BY,qi]
 congr 1
 ·rw[ER,ER]
  congr 1
  refine um λ p hp=>?_;have:=iP.mp hp;simp only[ao];rw[sd (by omega),sd (by omega)]
 ·rw[xu]
  simp only[ao];rw[sd (by omega),ae hi]
  rfl
def Nb.take_len{W:Rows}(S:Nb W)(h:W.length<=42)(i:Nat):(kM (W.take i)).length<=1764:=by
 have a:=aU S h
 have:(kM (W.take i)).length<=(kM W).length:=by
  rw[jX,jX]
  conv=>rhs;rw[<-fv i W]
  rw[cu,Ec];omega
 omega
def dQ(B:Fx):Hs "steps_of" ["web"] 1 (kEL):=by
 refine qO B.X B.d2 tX λ f a2 A U s0 H vs Q E nN hr h=>?_;obtain⟨t,W,rfl,hW,S,Y,k⟩:=h;refine⟨_,(kJ (kW (kS vO rfl (B.z B.y7) si (p1 (rO (Nc:=["p","row","q"]) (js:=[none,none,none]) rfl rfl (kFK false rfl (B.z B.y4) (p1 (pv 0))) (CS.of rfl rfl) rfl (λ C d c fp g=>(show PG _ _ (aO K 2 _) from qW rfl (kN (pgc 0) (kN (pgc 1) qM)))) (λ C d c fp g=>(show PI _ _ _ (kTH K _) from(yI (pv 1)))) (λ C d c fp g=>(pgc 2)) (λ C d c fp g D L=>(qF (qV (qS (p2 (pv 0) (pv 2))))))))))),?_⟩
 try dsimp only[qX]
 obtain⟨ts,h1,J,h3⟩:=id hW;refine⟨_,rfl,t,rfl,⟨_,SqT.of h1⟩,λ D nD=>?_⟩
 refine kHA (k:=false) (xs:=ts.map V.ref) (λ i p u=>∃(M O m:Option V),p=[M,O,m]/\Same H u/\PairsAt u D (kM (W.take i)))
  ⟨none,none,none,rfl,kC nD _,⟨[],kA,rfl,λ i b t e=>by simp at e⟩⟩ ?_ ?_ ?_
 ·rintro i p u _ ⟨M,O,m,rfl,s,_⟩
  exact SqT.of (s _ _ h1)
 ·rintro i x T p u hx nT ⟨M,O,m,rfl,s,N⟩
  rw[bb]at hx;obtain⟨a,ea,rfl⟩:=bp.mp hx;have hi:i<W.length:=by rw[<-J];exact(ak.mp ea).1
  have I:=h3 i a _ ea (ae hi);have rl:=S.len (ae hi);have gT:=kC nT (.tup [.int i,.ref a]);refine⟨T,_,rfl,SqT.of kA,rfl,_,_,rfl,_,_,rfl,rfl,?_⟩;have g3:=s.trans gT;have Z:=N.kept gT;generalize upd u T (.tup [.int i,.ref a])=H3 at *;refine⟨_,rfl,a,rfl,⟨_,SqT.of (g3 _ _ I)⟩,?_⟩;refine jM (xs:=W[i].map vn) (λ j p r=>∃(m:Option V),p=[some (vn i),some (.ref a),m]/\Same H r/\PairsAt r D (kM (W.take i)++((W[i].take j).map λ q=>(i,q)))) ⟨m,rfl,g3,by simpa using Z⟩ ?_ ?_ ?_
  ·rintro j p r _ ⟨m,rfl,G,_⟩
   exact SqT.of (G _ _ I)
  ·rintro j v p r hv ⟨m,rfl,G,n⟩
   rw[bb]at hv;obtain⟨q,y,rfl⟩:=bp.mp hv;have hj:=(ak.mp y).1;refine⟨_,rfl,_,rfl,yS2,λ b nb=>?_⟩;have gb:=kC nb (.tup [vn i,vn q]);have hb:=kA (H:=r) (a:=b) (o:=.tup [vn i,vn q]);have a1:=n.kept gb;have g5:=G.trans gb;refine(λ(z:upd r b (.tup [vn i,vn q]) b=some (.tup [vn i,vn q]))=>?_) hb;generalize upd r b (.tup [vn i,vn q])=H5 at *;obtain⟨ss,c1,c2,c3⟩:=id a1;have l1:=Nb.take_len S Y i
   have l2:ss.length<=1764+42:=by
    rw[c2,bu,aj,dq];omega
   refine⟨_,c1,(by rw[aj];exact xM (by omega)),?_⟩;have A1:=PairsAt.app (H':=H5) c1 c2 c3 (t:=(i,q)) z;refine⟨_,rfl,kZ nD g5,?_⟩;have tk:(W[i].take (j+1)).map (λ q=>(i,q))=(W[i].take j).map (λ q=>(i,q))++[(i,q)]:=by rw[jd,y,cu];rfl
   rw[tk,<-di];exact A1
  ·rintro p r ⟨m,rfl,G,n⟩
   rw[aj,iL]at n;exact⟨_,_,_,rfl,G,by rw[kCJ W i hi];exact n⟩
 ·rintro p u ⟨M,O,m,rfl,s,N⟩
  rw[aj,J,iL]at N;obtain⟨ps,e1,e2,e3⟩:=kCL N;refine⟨D,ps,rfl,.inl (SqL.of e1),e2,λ l a0 nl pm sr=>?_⟩;exact k l _ (s.trans (kC nl _)) (s.free nl) (e3 l a0 nl pm sr)
end
section
def RowsT(H:Hp)(s:av)(T:List (List Nat)):Prop:=∃ a:List av,H s=some (.lst (a.map V.ref))/\a.length=T.length/\∀(i:Nat)(b:av)(t:List Nat),a[i]?=some b->T[i]?=some t->H b=some (.tup (t.map vn))
def RowsT.app{H:Hp}{s b:av}{a:List av}{T:List (List Nat)}{t:List Nat}(h1:H s=some (.lst (a.map V.ref)))(h:a.length=T.length)(m:∀(i:Nat)(b:av)(t:List Nat),a[i]?=some b->T[i]?=some t->H b=some (.tup (t.map vn)))(l:H b=some (.tup (t.map vn))) :
  RowsT (upd H s (.lst (a.map V.ref++[.ref b]))) s (T++[t]):=by
 refine⟨a++[b],by rw[cu];exact kA,by simp[h],λ i c u d f=>?_⟩;have j:c≠s->upd H s (.lst (a.map V.ref++[.ref b])) c=H c:=λ z=>kL z;rcases iY i a.length with g | g
 ·rw[bq g]at d
  rw[bq (by omega)]at f;have:=m i c u d f;rw[j (wP this h1 (by simp))];exact this
 ·obtain rfl:i=a.length:=by
   have:=(ak.mp d).1;simp at this;omega
  rw[dr]at d;rw[h,dr]at f;cases d
  cases f
  rw[j (wP l h1 (by simp))];exact l
def kHJ{H:Hp}{s:av}{T:List (List Nat)}(h:RowsT H s T)(v:∀ t∈T,t≠[]):∃ ps:List (av×List Int),H s=some (.lst (ps.map λ q=>V.ref q.1))/\kNT H ps /\
  ∀(l:av)(c:List (av×List Int)),H l=none->c.Perm ps->c.Pairwise (λ a b=>Srt.lexLt b.2 a.2=false)->RowsT (upd H l (.lst (c.map λ q=>V.ref q.1))) l (Fc.sortL T):=by
 obtain⟨g,h1,X,D⟩:=h
 have f:(g.zip (T.map Fc.zl)).map (λ q=>V.ref q.1)=g.map V.ref:=by
  rw[show(λ q:av×List Int=>V.ref q.1)=V.ref∘BZ from rfl,<-sh,Am (by rw[aj];omega)]
 have G:∀ t:List Nat,(Fc.zl t).map V.int=t.map vn:=λ t=>by unfold Fc.zl;rw[sh];rfl
 have mem:∀ q∈g.zip (T.map Fc.zl),∃ t:List Nat,t∈T/\q.2=Fc.zl t/\H q.1=some (.tup (t.map vn)):=λ q o=>by
  obtain⟨i,B,rfl⟩:=eO.mp o;rw[An,aj]at B;refine⟨T[i]'(by omega),iR _,by simp,?_⟩;have:=D i (g[i]'(by omega)) (T[i]'(by omega)) (ae _) (ae _);simpa using this
 refine⟨g.zip (T.map Fc.zl),by rw[f];exact h1,λ q o=>?_,λ l c U C N=>?_⟩
 ·obtain⟨t,m,e,n⟩:=mem q o
  rw[e,G];refine⟨n,λ z=>v t m ?_⟩;unfold Fc.zl at z;exact DJ.mp z
 ·have back:∃ j:List (List Nat),c.map (·.2)=j.map Fc.zl/\j.Perm T:=by
   have O:(c.map (·.2)).Perm (T.map Fc.zl):=by
    have:=C.map (λ q:av×List Int=>q.2);rwa[zd (by rw[aj];omega)]at this
   obtain⟨m,a,b⟩:=Srt.perm_back O rfl;exact⟨m,b,a⟩
  obtain⟨j,r,L⟩:=back
  have u:j.Pairwise (λ a b=>Fc.leL a b=true):=by
   have A:(c.map (·.2)).Pairwise (λ a b=>Srt.lexLt b a=false):=me.mpr N;rw[r]at A;refine(me.mp A).imp λ{a b} Q=>?_;rw[Fc.leL_iff];exact Q
  have x:=Fc.sortL_is L u
  have J:c.length=j.length:=by
   have:=congrArg jb r;simpa using this
  refine⟨c.map (·.1),by rw[sh];exact kA,by rw[<-x,aj,J],λ i b t f p=>?_⟩;rw[<-x]at p;have B:=(ak.mp p).1;have d:i<c.length:=by omega
  rw[bb,ae d]at f;have f:c[i].1=b:=bh f
  have y:c[i].2=Fc.zl t:=by
   have:=congrArg (λ l=>l[i]?) r;rw[bb,bb,p,ae d]at this;exact bh this
  obtain⟨M,m,I,n⟩:=mem c[i] (C.mem_iff.mp (iR d))
  have S:M=t:=by
   rw[I]at y;exact Fc.zl_inj y
  rw[<-f,kL (kP n U),n,S]
inductive kKE(vs:List V)(H:Hp)(Q:VK)(Y:XK):Prop
 | mk:∀(t:av)(W:Rows),(vs=[.ref t])->(WebAt H t W)->(Nb W)->(W.length<=42)->(∀(s:av)(H':Hp),Same H H'->H s=none->PairsAt H' s (Fc.tiesS W)->Q (.ref s) H')->kKE vs H Q Y
def gD{W:Rows}(S:Nb W)(h:W.length<=42):(Fc.stepsS W).length<=1764:=by
 have:=aU S h;rw[show(Fc.stepsS W).length=(kM W).length from(Fc.sortP_perm _).length_eq];exact this
def kPG(B:Fx):Hs "ties" ["web"] 2 (kKE):=by
 refine qO B.X B.d3 kOJ λ f a0 A G s0 H vs Q E nN hr h=>?_;obtain⟨t,W,rfl,hW,S,l,k⟩:=h;refine⟨_,(kJ (kW (jG (Nc:=["p","q"]) (js:=[none,none]) rfl rfl (xW (pf (dQ B) hr (p1 (pv 0)))) (CS.of rfl rfl) rfl (λ C n m fp p=>(show PG _ _ (aO K 2 _) from qW rfl (kN (pgc 0) (kN (pgc 1) qM)))) (λ C n m fp p D L=>(zQ (qG kLQ (pv 0) (pv 1) (jA _)) (qV (qS (p2 (pv 0) (pv 1))))))))),?_⟩
 try dsimp only[qX]
 have l1:=gD S l;refine⟨_,rfl,t,W,rfl,hW,S,l,λ s H1 Y ns pr=>?_⟩;obtain⟨ss,h1,T,h3⟩:=id pr;refine⟨s,rfl,⟨_,SqL.of h1⟩,λ D J=>?_⟩
 refine jN (xs:=ss.map V.ref) (λ i u g=>∃(r v:Option V),u=[r,v]/\Same H1 g/\PairsAt g D (((Fc.stepsS W).take i).filter λ t=>decide (t.1<t.2)))
  ⟨none,none,rfl,kC J _,⟨[],kA,rfl,λ i b t e=>by simp at e⟩⟩ ?_ ?_ ?_
 ·rintro i u g _ ⟨r,v,rfl,j,_⟩
  exact SqL.of (j _ _ h1)
 ·rintro i x u g Z ⟨r,v,rfl,j,d⟩
  rw[bb]at Z;obtain⟨b,eb,rfl⟩:=bp.mp Z;have hi:i<(Fc.stepsS W).length:=by rw[<-T];exact(ak.mp eb).1
  have M:=ae hi;have hb:=h3 i b _ eb M;have tk:(Fc.stepsS W).take (i+1)=(Fc.stepsS W).take i++[(Fc.stepsS W)[i]]:=by rw[jd,M];rfl
  generalize(Fc.stepsS W)[i]=t at *;refine⟨b,_,rfl,SqT.of (j _ _ hb),rfl,_,_,rfl,_,_,rfl,rfl,?_⟩;refine⟨_,rfl,_,rfl,_,_,rfl,rfl,_,rfl,?_⟩;rw[tk];refine kIO (λ z=>?_) (λ z=>?_)
  ·have z:=of_decide_eq_true z
   refine⟨_,rfl,_,rfl,yS2,λ c nc=>?_⟩;have O:=kC nc (.tup [vn t.1,vn t.2]);have hc:=kA (H:=g) (a:=c) (o:=.tup [vn t.1,vn t.2]);have I:=d.kept O;have g3:=j.trans O;refine(λ(y:upd g c (.tup [vn t.1,vn t.2]) c=some (.tup [vn t.1,vn t.2]))=>?_) hc;generalize upd g c (.tup [vn t.1,vn t.2])=H3 at *;obtain⟨cs,U,N,c3⟩:=id I
   have lc:cs.length<=1764:=by
    rw[N];have:=og (λ t:Nat×Nat=>decide (t.1<t.2)) ((Fc.stepsS W).take i);rw[dq]at this;omega
   refine⟨_,U,(by rw[aj];exact xM (by omega)),?_⟩;refine⟨_,_,rfl,kZ J g3,?_⟩;rw[ud,vy,if_pos (by exact decide_eq_true (by omega))];exact PairsAt.app (H':=H3) U N c3 y
  ·have z:¬ (t.1:Int)<(t.2:Int):=λ q=>z (decide_eq_true q)
   refine⟨_,_,rfl,j,?_⟩;rw[ud,vy,if_neg (by intro q;have:=of_decide_eq_true q;omega)];simpa using d
 ·rintro u g ⟨r,v,rfl,j,d⟩
  rw[aj,T,iL]at d;exact k D g (Y.trans j) (Y.free J) d
end
section
def pk(t:Nat×Nat):List Key:=[gw (t.1:Int),gw (t.2:Int)]
def kSJ{a b:Nat×Nat}(h:pk a=pk b):a=b:=by
 unfold pk at h;injection h with h1 h2
 injection h2 with h2 _
 have:=AG h1;have:=AG h2;exact qv (by omega) (by omega)
def SeenAt(H:Hp)(d:av)(X:List (Nat×Nat)):Prop:=∃ a:List (List Key×V),H d=some (.dT a)/\(∀ t:Nat×Nat,(jS a (pk t)).isSome=decide (t∈X))/\a.length<=X.length/\∀ y∈a,∃ t∈X,y.1=pk t
def SeenAt.kept{H H':Hp}{d:av}{X:List (Nat×Nat)}(h:SeenAt H d X)(g:Same H H'):SeenAt H' d X:=by
 obtain⟨c,a,b⟩:=h;exact⟨c,g _ _ a,b⟩
def tW{H:Hp}{d:av}:SeenAt (upd H d (.dT [])) d []:=⟨[],kA,λ t=>by simp[jS],bf _,λ y a=>nomatch a⟩
def kBA{kvs:List (List Key×V)}{k:List Key}{v:V}{y:List Key×V}(h:y∈xC kvs k v):y.1=k\/∃ z∈kvs,z.1=y.1:=by
 unfold xC at h
 split at h
 ·obtain⟨z,a,rfl⟩:=fe.mp h
  split
  ·exact .inr ⟨z,a,rfl⟩
  ·exact .inr ⟨z,a,rfl⟩
 ·rcases bz.mp h with z | z
  ·exact .inr ⟨y,z,rfl⟩
  ·exact .inl (by rw[cg.mp z])
def kHN{kvs:List (List Key×V)}{X:List (Nat×Nat)}{t:Nat×Nat}{v:V}(h1:∀ t:Nat×Nat,(jS kvs (pk t)).isSome=decide (t∈X))(g:kvs.length<=X.length)(b:∀ y∈kvs,∃ t∈X,y.1=pk t) :
  (∀ u:Nat×Nat,(jS (xC kvs (pk t) v) (pk u)).isSome=decide (u∈X++[t]))/\(xC kvs (pk t) v).length<=(X++[t]).length/\∀ y∈xC kvs (pk t) v,∃ u∈X++[t],y.1=pk u:=by
 refine⟨λ u=>?_,?_,λ y f=>?_⟩
 ·rw[fY]
  by_cases e:pk u=pk t
  ·rw[if_pos e,kSJ e]
   simp
  ·rw[if_neg e,h1 u]
   have:u≠t:=λ z=>e (by rw[z]);simp[this]
 ·have:=xY kvs (pk t) v
  rw[bu,fj];omega
 ·rcases kBA f with e | ⟨z,a,e⟩
  ·exact⟨t,by simp,e⟩
  ·obtain⟨u,c,d⟩:=b z a
   exact⟨u,df _ c,by rw[<-e,d]⟩
theorem pE:∀(more kvs:List (List Key×V))(k:List Key),(jS (yK kvs more) k).isSome=((jS kvs k).isSome || (jS more k).isSome)
 | [],kvs,k=>by simp[yK,jS]
 | m::more,kvs,k=>by
  have:=pE more (xC kvs m.1 m.2) k;unfold yK at this ⊢;rw[wg,this,fY];by_cases e:m.1=k
  ·rw[if_pos e.symm,jO e]
   simp
  ·rw[if_neg (λ z=>e z.symm),jP e]
theorem pF:∀(more kvs:List (List Key×V)),(yK kvs more).length<=kvs.length+more.length
 | [],kvs=>bf _
 | m::more,kvs=>by
  have:=pF more (xC kvs m.1 m.2);have:=xY kvs m.1 m.2;unfold yK at *;rw[wg,iJ];omega
theorem mL:∀(more kvs:List (List Key×V))(y:List Key×V),y∈yK kvs more->(∃ z∈kvs,z.1=y.1)\/∃ z∈more,z.1=y.1
 | [],kvs,y,h=>.inl ⟨y,h,rfl⟩
 | m::more,kvs,y,h=>by
  have h:y∈yK (xC kvs m.1 m.2) more:=h;rcases mL more _ y h with⟨z,b,e⟩ | ⟨z,b,e⟩
  ·rcases kBA b with c | ⟨d,a,c⟩
   ·exact .inr ⟨m,eP ..,by rw[<-e,c]⟩
   ·exact .inl ⟨d,a,by rw[c,e]⟩
  ·exact .inr ⟨z,du _ b,e⟩
theorem SeenAt.upd{H:Hp}{d:av}{X Y:List (Nat×Nat)}{kvs more:List (List Key×V)}(h1:∀ t:Nat×Nat,(jS kvs (pk t)).isSome=decide (t∈X))(l:kvs.length<=X.length)(g:∀ y∈kvs,∃ t∈X,y.1=pk t)
  (i:∀ t:Nat×Nat,(jS more (pk t)).isSome=decide (t∈Y)) (j:more.length<=Y.length) (f:∀ y∈more,∃ t∈Y,y.1=pk t):SeenAt (L2.upd H d (.dT (yK kvs more))) d (X++Y):=by
 refine⟨_,kA,λ t=>?_,?_,λ y h=>?_⟩
 ·rw[pE,h1,i,iX,Co,decide_eq_true_iff,decide_eq_true_iff,decide_eq_true_iff,bz]
 ·have:=pF more kvs
  rw[bu];omega
 ·rcases mL more kvs y h with⟨z,a,e⟩ | ⟨z,a,e⟩
  ·obtain⟨u,b,c⟩:=g z a
   exact⟨u,df _ b,by rw[<-e,c]⟩
  ·obtain⟨u,b,c⟩:=f z a
   exact⟨u,dc _ b,by rw[<-e,c]⟩
def nO{W:Rows}{p q k:Nat}(T:Turns W p q k):Fc.per W (p,q)=k:=Fc.per_is T.pos T.back T.first
def kHC{W:Rows}{p q k:Nat}(T:Turns W p q k):orb W p q k=Fc.rnd W (p,q):=by
 unfold orb Fc.rnd;rw[nO T]
end
section
inductive kEU(vs:List V)(H:Hp)(Q:VK)(Y:XK):Prop
 | mk:∀(t:av)(W:Rows),(vs=[.ref t])->(WebAt H t W)->(Nb W)->(W.length<=42)->(∀(s:av)(H':Hp),Same H H'->H s=none->RowsT H' s (Fc.facesS W)->Q (.ref s) H')->kEU vs H Q Y
def kSD{W:Rows}(S:Nb W){t:Nat×Nat}(h:t∈kM W):(Fc.rnd W t).map (·.1)≠[]:=λ z=>by
 have:=Fc.rnd_self S h;rw[DJ.mp z]at this;cases this
def kMZ{W:Rows}(S:Nb W){T:List (Nat×Nat)}(b:∀ t∈T,t∈kM W):∀ f∈(Fc.fgo W T).1,f≠[]:=λ f a=>by
 obtain⟨R,d,g,_⟩:=(Fc.fgo_ok S T b).reps;rw[g]at a;obtain⟨r,c,rfl⟩:=fe.mp a;exact kSD S (b r (d r c))
def aG{W:Rows}:∀ t∈Fc.stepsS W,t∈kM W:=λ t h=>(Fc.sortP_perm _).mem_iff.mp h
def kOG{W:Rows}(S:Nb W)(h:W.length<=42){t:Nat×Nat}(a:t∈kM W):t.1<42/\t.2<42:=by
 have:=S.e (mem_steps.mp (show(t.1,t.2)∈kM W from a));omega
def kAV(B:Fx):Hs "faces" ["web"] 3 (kEU):=by
 refine qO B.X B.d6 kKQ λ f ba A b4 s0 H vs Q E nN hr h=>?_;obtain⟨t,W,rfl,hW,S,N,k⟩:=h
 refine⟨_,(kH (pst 1 nN (jJ kU))
   (kH (pst 2 nN kLN)
   (kH (rK (xW (pf (dQ B) hr (p1 (pv 0)))) (pgn 3 nN) (kJ (yM (kSG (kIA (wU hr) (pv 3) (pv 2))) (kH (pst 4 nN (pf (uI B) hr (p2 (pv 0) (pv 3))))
   (kH (qR (kAN PySem.F.plainAttrs_dict CB PySem.F.type_dict_update (kPK (wU hr)) (pv 2) (p1 (kPA (Nc:=["one"]) (js:=[none]) rfl rfl (xW (pv 4)) (CS.of rfl rfl) rfl (λ C J U fp M=>(pgc 0)) (λ C J U fp M D L=>(qF (fP (wU hr) (pv 0) oM)))))))
   (kJ (qR (jU jo jq xG (pv 1) (p1 (qU qE rfl (B.z B.y6) gy (p1 (jG (Nc:=["p","q"]) (js:=[none,none]) rfl rfl (xW (pv 4)) (CS.of rfl rfl) rfl (λ C J U fp M=>(show PG _ _ (aO K 2 _) from qW rfl (kN (pgc 0) (kN (pgc 1) qM)))) (λ C J U fp M D L=>(qF (qV (pv 0))))))))))))) jD)))
   (kJ (kW (kS vO rfl (B.z B.y7) si (p1 (pv 1)))))))),?_⟩
 try dsimp only[qX]
 have l1:=gD S N;have l0:=aU S N;refine⟨yS0,λ l nl=>?_⟩;have gl:=kC nl (.lst []);have hl:=kA (H:=H) (a:=l) (o:=.lst []);refine λ d nd=>?_;have gd:=kC nd (.dT []);have hd:=tW (H:=upd H l (.lst [])) (d:=d);have ac:l≠d:=λ z=>by rw[<-z,hl]at nd;cases nd
 have Z:=gd _ _ hl;have g1:=gl.trans gd;have b8:H d=none:=gl.free nd;refine(λ(a4:SeenAt (upd (upd H l (.lst [])) d (.dT [])) d [])=>?_) hd;generalize upd (upd H l (.lst [])) d (.dT [])=H1 at *;refine⟨_,rfl,t,W,rfl,hW.kept g1,S,N,λ s H2 g2 ns pr=>?_⟩;obtain⟨ss,h1,h2,h3⟩:=id pr;have af:=g1.trans g2;have aw:s≠l:=λ z=>by rw[z,Z]at ns;cases ns
 have b2:s≠d:=λ z=>by obtain⟨g,a,_⟩:=a4;rw[z,a]at ns;cases ns
 refine⟨s,rfl,⟨_,SqL.of h1⟩,?_⟩
 refine kMV (xs:=ss.map V.ref) (λ i G Y=>∃(x3 x4:Option V),G=[some (.ref t),some (.ref l),some (.ref d),x3,x4]/\(∀ b o,b≠l->b≠d->H2 b=some o->Y b=some o)/\RowsT Y l (Fc.fgo W ((Fc.stepsS W).take i)).1/\SeenAt Y d (Fc.fgo W ((Fc.stepsS W).take i)).2)
  ⟨none,none,rfl,(λ b o _ _ e=>e),⟨[],g2 _ _ Z,rfl,λ i b t e=>by simp at e⟩,a4.kept g2⟩ ?_ ?_ ?_
 ·rintro i G Y _ ⟨x3,x4,rfl,f3,_⟩
  exact SqL.of (f3 _ _ aw b2 h1)
 ·rintro i x G Y hx ⟨x3,x4,rfl,f3,rt,sn⟩
  rw[bb]at hx;obtain⟨b,eb,rfl⟩:=bp.mp hx;have hi:i<(Fc.stepsS W).length:=by rw[<-h2];exact(ak.mp eb).1
  have et:=ae hi;have hb:=h3 i b _ eb et;have tk:(Fc.stepsS W).take (i+1)=(Fc.stepsS W).take i++[(Fc.stepsS W)[i]]:=by rw[jd,et];rfl
  have mt:=aG _ (iR hi);have fi:=Fc.fgo_ok S ((Fc.stepsS W).take i) λ t h=>aG t (uz h);have lX:=fi.len;rw[tk,Fc.fgo_snoc]
  have lF:(Fc.fgo W ((Fc.stepsS W).take i)).1.length<=1764:=by
   have:∀ T:List (Nat×Nat),(Fc.fgo W T).1.length<=T.length:=λ T=>by
    have:∀ n,n<=T.length->(Fc.fgo W (T.take n)).1.length<=n:=λ n=>by
     induction n with
     | zero=>intro _;rw[CM];exact bf _
     | succ n ih =>
      intro hn;rw[show T.take (n+1)=T.take n++[T[n]] by rw[jd,ae (by omega)];rfl,Fc.fgo_snoc];have:=ih (by omega);unfold Fc.fstep
      split
      ·omega
      ·rw[bu]
       show _+1<=_;omega
    have:=this T.length (bf _);rwa[iL]at this
   have:=this ((Fc.stepsS W).take i);rw[dq]at this;omega
  generalize(Fc.stepsS W)[i]=u at *;generalize Fc.fgo W ((Fc.stepsS W).take i)=st at *
  have aq:b≠l:=λ z=>by
   have a:=g2 _ _ Z;rw[z,a]at hb;cases hb
  have b6:b≠d:=λ z=>by
   obtain⟨g,a,_⟩:=a4.kept g2;rw[z,a]at hb;cases hb
  have am:=f3 _ _ aq b6 hb;obtain⟨g,k1,k2,k3,k4⟩:=id sn;refine⟨_,rfl,_,rfl,d,_,rfl,DGet.t (k:=pk u) k1 am,_,rfl,?_⟩;rw[k2 u];unfold Fc.fstep;by_cases c:u∈st.2
  ·rw[decide_eq_true c,if_pos c]
   exact yC ⟨_,_,rfl,f3,rt,sn⟩
  rw[decide_eq_false c,if_neg c];obtain⟨r,p⟩:=u;have hE:Tri.E W r p:=mem_steps.mp mt
  have a7:WebAt Y t W:=by
   obtain⟨ts,q1,q2,q3⟩:=hW.kept af;have ok:∀(b:av)(xs:List V),H2 b=some (.tup xs)->Y b=some (.tup xs):=λ b xs e=>f3 b _ (λ z=>by rw[z,g2 _ _ Z]at e;cases e) (λ z=>by obtain⟨g,a,_⟩:=a4.kept g2;rw[z,a]at e;cases e) e;exact⟨ts,ok _ _ q1,q2,λ j a row e1 e2=>ok _ _ (q3 j a row e1 e2)⟩
  refine wQ ⟨_,rfl,_,rfl,t,b,W,r,p,rfl,a7,S,N,am,hE,λ q m H4 g4 T al=>?_⟩;rw[kHC T]at al;have ax:=T.few;have lm:=nO T;obtain⟨qs,q1,q2,q3⟩:=id al
  have lq:(Fc.rnd W (r,p)).length=m:=by rw[Fc.rnd_len,lm]
  refine⟨_,rfl,.inr (.inr (.inl ⟨rfl,.inr ⟨_,g4 _ _ k1⟩⟩)),_,rfl,q,rfl,⟨_,SqL.of q1⟩,λ D nD=>?_⟩;refine jN (xs:=qs.map V.ref) (λ j G I=>∃(x0:Option V),G=[x0]/\Same H4 I/\SeenAt I D ((Fc.rnd W (r,p)).take j)) ⟨none,rfl,kC nD _,tW⟩ ?_ ?_ ?_
  ·rintro j G I _ ⟨x0,rfl,g5,_⟩
   exact SqL.of (g5 _ _ q1)
  ·rintro j v G I hv ⟨x0,rfl,g5,sD⟩
   rw[bb]at hv;obtain⟨c',ec,rfl⟩:=bp.mp hv;have hj:j<(Fc.rnd W (r,p)).length:=by rw[<-q2];exact(ak.mp ec).1
   have ej:=ae hj;have hc:=g5 _ _ (q3 j c' _ ec ej);have a6:(Fc.rnd W (r,p)).take (j+1)=(Fc.rnd W (r,p)).take j++[(Fc.rnd W (r,p))[j]]:=by rw[jd,ej];rfl
   rw[a6];generalize(Fc.rnd W (r,p))[j]=y at *;obtain⟨O,d1,d2,d3,d4⟩:=sD;have ld:O.length<=1764:=by rw[dq]at d3;omega
   refine⟨_,rfl,_,DPut.t (k:=pk y) d1 hc (xM (by omega)),?_⟩;obtain⟨a1,a2,a3⟩:=kHN (t:=y) (v:=.bl true) d2 d3 d4;exact⟨_,rfl,kZ nD g5,⟨_,kA,a1,a2,a3⟩⟩
  ·rintro G I ⟨x0,rfl,g5,sD⟩
   rw[aj,q2,iL]at sD;obtain⟨O,d1,d2,d3,d4⟩:=sD;have aa:=g4.trans g5;have a5:=aa _ _ k1;have as:d≠D:=λ z=>by rw[<-z,g4 _ _ k1]at nD;cases nD
   refine⟨d,D,g,O,rfl,rfl,as,a5,d1,(λ y hy=>?_),?_,?_⟩
   ·obtain⟨v,hv,e⟩:=d4 y hy
    have:=kOG S N (Fc.rnd_sub S mt hv);exact⟨v.1,v.2,e,this.1,this.2⟩
   ·have:g.length+O.length<=20000:=by omega
    exact gk (xM this)
   have b5:=SeenAt.upd (H:=I) (d:=d) k2 k3 k4 d2 d3 d4;have f6:∀ b o,b≠d->Y b=some o->upd I d (.dT (yK g O)) b=some o:=λ b o nb e=>by rw[kL nb];exact aa _ _ e
   have ag:upd I d (.dT (yK g O)) q=some (.lst (qs.map V.ref)):=by
    rw[kL (wP (g5 _ _ q1) a5 (by simp))];exact g5 _ _ q1
   have b3:∀(i:Nat)(b:av)(t:Nat×Nat),qs[i]?=some b->(Fc.rnd W (r,p))[i]?=some t->upd I d (.dT (yK g O)) b=some (.tup [vn t.1,vn t.2]):=λ i b t e1 e2=>by
    have:=g5 _ _ (q3 i b t e1 e2);rw[kL (wP this a5 (by simp))];exact this
   obtain⟨ls,r1,r2,r3⟩:=id rt;have a9:upd I d (.dT (yK g O)) l=some (.lst (ls.map V.ref)):=f6 l _ ac r1
   have b7:∀(i:Nat)(b:av)(t:List Nat),ls[i]?=some b->st.1[i]?=some t->upd I d (.dT (yK g O)) b=some (.tup (t.map vn)):=λ i b t e1 e2=>by
    have:=r3 i b t e1 e2;exact f6 b _ (wP this k1 (by simp)) this
   have b1:∀ b o,b≠l->b≠d->H2 b=some o->upd I d (.dT (yK g O)) b=some o:=λ b o n1 n2 e=>f6 b o n2 (f3 b o n1 n2 e)
   generalize upd I d (.dT (yK g O))=H6 at *
   refine⟨_,rfl,.inl ⟨rfl,_,SqL.of a9⟩,_,rfl,q,rfl,⟨_,SqL.of ag⟩,λ D2 an=>?_⟩;refine jN (xs:=qs.map V.ref) (λ j G H7=>∃(x0 x1:Option V),G=[x0,x1]/\Same H6 H7/\H7 D2=some (.lst ((((Fc.rnd W (r,p)).take j).map (·.1)).map vn))) ⟨none,none,rfl,kC an _,kA⟩ ?_ ?_ ?_
   ·rintro j G H7 _ ⟨x0,x1,rfl,g7,_⟩
    exact SqL.of (g7 _ _ ag)
   ·rintro j v G H7 hv ⟨x0,x1,rfl,g7,a0⟩
    rw[bb]at hv;obtain⟨c',ec,rfl⟩:=bp.mp hv;have hj:j<(Fc.rnd W (r,p)).length:=by rw[<-q2];exact(ak.mp ec).1
    have ej:=ae hj;have hc:=g7 _ _ (b3 j c' _ ec ej);have a6:(Fc.rnd W (r,p)).take (j+1)=(Fc.rnd W (r,p)).take j++[(Fc.rnd W (r,p))[j]]:=by rw[jd,ej];rfl
    rw[a6];generalize(Fc.rnd W (r,p))[j]=y at *;refine⟨c',_,rfl,SqT.of hc,rfl,_,_,rfl,_,_,rfl,rfl,?_⟩;refine⟨_,rfl,_,a0,(by rw[aj,aj,dq];exact xM (by omega)),?_⟩;refine⟨_,_,rfl,kZ an g7,?_⟩;rw[cu,cu];exact kA
   ·rintro G H7 ⟨x0,x1,rfl,g7,a0⟩
    rw[aj,q2,iL]at a0;refine⟨D2,_,rfl,.inl ⟨SqL.of a0,λ f nf=>?_⟩⟩;have gf:=kC nf (.tup (((Fc.rnd W (r,p)).map (·.1)).map vn));have g8:=g7.trans gf;have hf:=kA (H:=H7) (a:=f) (o:=.tup (((Fc.rnd W (r,p)).map (·.1)).map vn));generalize b9:upd H7 f (.tup (((Fc.rnd W (r,p)).map (·.1)).map vn))=H8 at *;have ah:=g8 _ _ a9;have ap:∀(i:Nat)(b:av)(t:List Nat),ls[i]?=some b->st.1[i]?=some t->H8 b=some (.tup (t.map vn)):=λ i b t e1 e2=>g8 _ _ (b7 i b t e1 e2);refine⟨l,_,_,rfl,rfl,ah,(by rw[aj,r2];exact xM (by omega)),?_⟩;refine⟨_,_,rfl,(λ b o n1 n2 e=>by rw[kL n1];exact g8 _ _ (b1 b o n1 n2 e)),RowsT.app ah r2 ap hf,?_⟩;obtain⟨b0,z1,z2⟩:=b5.kept g8;exact⟨b0,by rw[kL ac.symm];exact z1,z2⟩
 ·rintro G Y ⟨x3,x4,rfl,f3,rt,sn⟩
  rw[aj,h2,iL]at rt;obtain⟨ps,e1,e2,e3⟩:=kHJ rt (kMZ S aG);have ab:Same H Y:=λ b o e=>f3 b o (kP e nl) (kP e b8) (af b o e);refine⟨_,rfl,l,ps,rfl,.inl (SqL.of e1),e2,λ l' ay a8 pm sr=>?_⟩;exact k l' _ (ab.trans (kC a8 _)) (ab.free a8) (e3 l' ay a8 pm sr)
inductive kKK(vs:List V)(H:Hp)(Q:VK)(Y:XK):Prop
 | mk:∀(t:av)(W:Rows),(vs=[.ref t])->(WebAt H t W)->(Nb W)->(W.length<=42)->(∀(H':Hp),Same H H'->Q (.bl (decide (W.length+(Fc.facesS W).length=(Fc.tiesS W).length+2))) H')->kKK vs H Q Y
def kDF(B:Fx):Hs "is_flat" ["web"] 4 (kKK):=by
 refine qO B.X B.d7 kCS λ f v A b G H L Q E D g h=>?_;obtain⟨t,W,rfl,c,S,a,k⟩:=h;refine⟨_,(kJ (kW (uS kRE (kY xL (kS kR rfl (B.z B.y0) fb (p1 (pv 0))) (kS kR rfl (B.z B.y0) fb (p1 (pf (kAV B) g (p1 (pv 0)))))) (kY xL (kS kR rfl (B.z B.y0) fb (p1 (pf (kPG B) g (p1 (pv 0))))) kI) (jA _)))),?_⟩
 try dsimp only[qX]
 obtain⟨l,h1,d,C⟩:=id c;refine⟨_,rfl,t,_,rfl,.inr (SqT.of h1),_,rfl,t,W,rfl,c,S,a,λ s y i J x=>?_⟩;obtain⟨m,j,n,_⟩:=x;refine⟨s,_,rfl,.inl (SqL.of j),_,_,rfl,rfl,_,rfl,t,W,rfl,c.kept i,S,a,λ u q p I o=>?_⟩;obtain⟨r,p1,p2,_⟩:=o;refine⟨u,_,rfl,.inl (SqL.of p1),_,_,rfl,rfl,rfl,?_⟩
 have e:decide (V.int (((l.map V.ref).length:Int)+((m.map V.ref).length:Int))=V.int (((r.map V.ref).length:Int)+2))=decide (W.length+(Fc.facesS W).length=(Fc.tiesS W).length+2):=by
  rw[iX,decide_eq_true_iff,decide_eq_true_iff,aj,aj,aj,d,n,p2];constructor
  ·intro z
   have:=V.int.inj z;omega
  ·intro z
   congr 1
   omega
 rw[e];exact k q (i.trans p)
end
section
inductive tQ(vs:List V)(H:Hp)(Q:VK)(Y:XK):Prop
 | mk:∀(n:Nat),(vs=[vn n])->(Q (.bl true) H)->tQ vs H Q Y
def kAT(B:Fx):Hs "is_whole" ["thing"] 1 (tQ):=by
 refine qO B.X B.d0 kAC λ f b A a g H i Q E d c h=>?_;obtain⟨n,rfl,q⟩:=h;refine⟨_,(kJ (kW (lG (kS Own.call_isi rfl (B.z B.y8) xx (p2 (pv 0) (rP (v:=.ty "int") rfl (B.z B.y10) GP rfl))) (kDA (kSL (kS Own.call_isi rfl (B.z B.y8) xx (p2 (pv 0) (rP (v:=.ty "bool") rfl (B.z B.y9) GH rfl)))))))),?_⟩
 try dsimp only[qX]
 exact⟨_,rfl,_,_,_,_,rfl,.int _,rfl,_,rfl,wQ ⟨_,rfl,_,_,_,_,rfl,.int _,rfl,_,rfl,q⟩⟩
inductive kKM(vs:List V)(H:Hp)(Q:VK)(Y:XK):Prop
 | mk:∀(a:av)(ns:List Nat),(vs=[.ref a,vn ns.length])->(H a=some (.tup (ns.map vn)))->(ns.length<=1000)->(∀ H',Same H H'->Q (.bl true) H')->kKM vs H Q Y
def bH(B:Fx):Hs "are_whole" ["thing","many"] 2 (kKM):=by
 refine qO B.X B.d1 rC λ f J A p N H O Q E M s h=>?_;obtain⟨a,o,rfl,e,l,k⟩:=h;refine⟨_,(kJ (kW (lG (kS Own.call_isi rfl (B.z B.y8) xx (p2 (pv 0) (rP (v:=.ty "tuple") rfl (B.z B.y6) gy rfl))) (lG (uS kRE (kS kR rfl (B.z B.y0) fb (p1 (pv 0))) (pv 1) (jA _)) (kDA (kS (dE rfl) rfl (B.z B.y11) Ad (p1 (jG (Nc:=["one"]) (js:=[none]) rfl rfl (yI (pv 0)) (CS.of rfl rfl) rfl (λ C d c I i=>(pgc 0)) (λ C d c I i D L=>(qF (qV (pf (kAT B) s (p1 (pv 0)))))))))))))),?_⟩
 try dsimp only[qX]
 refine⟨_,rfl,_,_,_,_,rfl,.tup e,rfl,_,rfl,wQ ⟨_,rfl,a,_,rfl,.inr (SqT.of e),_,rfl,rfl,_,rfl,?_⟩⟩;rw[decide_eq_true (show V.int (((o.map vn).length:Nat):Int)=vn o.length by rw[aj];rfl)];refine wQ ⟨_,rfl,a,rfl,⟨_,SqT.of e⟩,λ D r=>?_⟩;refine jM (xs:=o.map vn) (λ n j b=>∃(u:Option V),j=[u]/\b D=some (.lst ((gj n true).map V.bl))/\Same H b) ⟨none,rfl,kA,kC r _⟩ ?_ ?_ ?_
 ·rintro n j b _ ⟨u,rfl,m,g⟩
  exact SqT.of (g _ _ e)
 ·rintro n v j b q ⟨u,rfl,m,g⟩
  have y:=(ak.mp q).1;rw[aj]at y;rw[bb]at q;obtain⟨x,_,rfl⟩:=bp.mp q;refine⟨_,rfl,x,rfl,_,m,(by rw[aj,uo];exact kQ (by omega)),?_⟩;exact⟨_,rfl,(by rw[DF,cu];exact kA),kZ r g⟩
 ·rintro j b ⟨u,rfl,m,g⟩
  refine⟨D,_,rfl,SqL.of m,?_⟩
  have:(gj (o.map vn).length true).all id=true:=by
   rw[vg];intro x G;rw[List.eq_of_mem_replicate G]
   rfl
  rw[this];exact k b g
structure Tr(W:Rows):Prop where
 nb:Nb W
 le:W.length<=42
 three:∀ t∈kM W,(nxt W (nxt W t)).2=t.1
 cnt:(kM W).length+12=6*W.length
def Tr.flat{W:Rows}(T:Tr W):W.length+(Fc.facesS W).length=(Fc.tiesS W).length+2:=((Fc.three_cornered T.nb).mpr ⟨T.three,T.cnt⟩).1
def Tr.faces{W:Rows}(T:Tr W):∀ f∈Fc.facesS W,f.length=3:=((Fc.three_cornered T.nb).mpr ⟨T.three,T.cnt⟩).2
def Tr.turns{W:Rows}(T:Tr W){p q k:Nat}(a:Tri.E W p q)(Y:Turns W p q k):orb W p q k=[(p,q),(q,(nxt W (p,q)).2),((nxt W (p,q)).2,p)]:=by
 have i:(p,q)∈kM W:=mem_steps.mpr a;have c:p≠q:=λ z=>(T.nb.e a).2.2 z.symm;have d:=T.three _ i;have g:=T.three _ (mem_steps.mpr (kFW T.nb a 1):((nxt W (p,q)).1,(nxt W (p,q)).2)∈kM W);have m:nxt W (p,q)=(q,(nxt W (p,q)).2):=rfl;have f:nxt W (nxt W (p,q))=((nxt W (p,q)).2,p):=qv rfl d;have l:nxt W (nxt W (nxt W (p,q)))=(p,q):=qv d g
 have j:k=3:=by
  rcases yg k 3 with h | h | h
  ·exfalso
   have b:=Y.back;have:=Y.pos;have:k=1\/k=2:=by omega
   rcases this with rfl | rfl
   ·have b:nxt W (p,q)=(p,q):=b
    have:=congrArg BZ b;exact c this.symm
   ·have b:nxt W (nxt W (p,q))=(p,q):=b
    rw[f]at b;exact c (congrArg qh b)
  ·exact h
  ·exact absurd l (Y.first 3 (by decide) h)
 subst j;show[(p,q),nxt W (p,q),nxt W (nxt W (p,q))]=_;rw[f]
 rfl
def aI(T:List (Nat×Nat)):CY:=.list (T.map λ t=>prD t.1 t.2)
def kIB(T:List (Nat×Nat)):jh (T.map λ t=>prD t.1 t.2)=true/\kq (T.map λ t=>prD t.1 t.2)<=1:=by
 induction T with
 | nil=>exact⟨rfl,by decide⟩
 | cons t T ih =>
  have h1:ka (prD t.1 t.2)=true:=by simp[prD,ka,jh]
  have a:nj (prD t.1 t.2)<=1:=by simp[prD,nj,kq]
  simp only[eZ,jh,kq,h1,ih.1];have:=ih.2;refine⟨rfl,?_⟩;omega
def oN(T:List (Nat×Nat)):jg (aI T)=true:=by
 obtain⟨h1,a⟩:=kIB T;unfold aI jg;simp only[ka,nj,h1]
 first | (simp;omega) | (rw[iI];exact⟨rfl,decide_eq_true (by omega)⟩) | simp_all
def PairsAt.dt{H:Hp}{s:av}{T:List (Nat×Nat)}(h:PairsAt H s T):Dt K H (aI T) (.ref s):=by
 obtain⟨c,h1,a,b⟩:=h;unfold aI Dt;exact⟨s,_,rfl,SqL.of h1,kBP a b⟩
def kDB:∀(T U:List (Nat×Nat)),ie (aI T) (aI U)=decide (T=U):=by
 have b:∀(T U:List (Nat×Nat)),iU (T.map λ t=>prD t.1 t.2) (U.map λ t=>prD t.1 t.2)=decide (T=U):=λ T=>by
  induction T with
  | nil=>intro U;cases U<;>simp[iU]
  | cons t T ih =>
   intro U
   cases U with
   | nil=>simp[iU]
   | cons u U =>
    rw[eZ,eZ,iU,kFJ,ih U,iX,iI,decide_eq_true_iff,decide_eq_true_iff,decide_eq_true_iff];constructor
    ·rintro⟨⟨h1,a⟩,rfl⟩
     rw[show t=u from qv h1 a]
    ·intro h
     injection h with h1 a
     exact⟨⟨congrArg _ h1,congrArg _ h1⟩,a⟩
 intro T U;unfold aI;rw[ie];exact b T U
inductive kKN(vs:List V)(H:Hp)(Q:VK)(Y:XK):Prop
 | mk:∀(w:av)(W:Rows)(a c b:Nat),(vs=[.ref w,vn a,vn c,vn b])->(WebAt H w W)->(Tr W)->(Tri.E W a c)->(∀ H',Same H H'->Q (.bl (decide ((nxt W (a,c)).2=b))) H')->kKN vs H Q Y
def bI(B:Fx):Hs "are_round" ["web","p","q","r"] 3 (kKN):=by
 refine qO B.X B.d10 rD λ f a0 A r s0 H vs Q E nN C h=>?_;obtain⟨w,W,a,c,b,rfl,hW,T,G,k⟩:=h;refine⟨_,(kJ (kW (uS (kDC C.units) (pf (uI B) C (p2 (pv 0) (qS (p2 (pv 1) (pv 2))))) (jJ (kE (qS (p2 (pv 1) (pv 2))) (kE (qS (p2 (pv 2) (pv 3))) (kE (qS (p2 (pv 3) (pv 1))) kU)))) (jA _)))),?_⟩
 try dsimp only[qX]
 refine⟨_,rfl,_,rfl,_,rfl,yS2,λ z nz=>?_⟩;have D:=kC nz (.tup [vn a,vn c]);have hz:=kA (H:=H) (a:=z) (o:=.tup [vn a,vn c]);refine⟨w,z,W,a,c,rfl,hW.kept D,T.nb,T.le,hz,G,λ s m n g1 Y J=>?_⟩;rw[T.turns G Y]at J;have x:=D.trans g1;refine⟨_,rfl,_,rfl,yS2,λ g n1=>⟨_,rfl,_,rfl,yS2,λ j n2=>⟨_,rfl,_,rfl,yS2,λ l Z=>⟨yS3,λ u U=>?_⟩⟩⟩⟩;have S:=kC n1 (.tup [vn a,vn c]);have L:=kC n2 (.tup [vn c,vn b]);have y:=kC Z (.tup [vn b,vn a]);have p:=kC U (.lst [.ref g,.ref j,.ref l]);have q1:=p _ _ (y _ _ (L _ _ (kA (H:=n) (a:=g) (o:=.tup [vn a,vn c]))));have M:=p _ _ (y _ _ (kA (H:=upd n g (.tup [vn a,vn c])) (a:=j) (o:=.tup [vn c,vn b])));have O:=p _ _ (kA (H:=upd (upd n g (.tup [vn a,vn c])) j (.tup [vn c,vn b])) (a:=l) (o:=.tup [vn b,vn a]));have q4:=kA (H:=upd (upd (upd n g (.tup [vn a,vn c])) j (.tup [vn c,vn b])) l (.tup [vn b,vn a])) (a:=u) (o:=.lst [.ref g,.ref j,.ref l]);have I:=S.trans (L.trans (y.trans p))
 have N:PairsAt (upd (upd (upd (upd n g (.tup [vn a,vn c])) j (.tup [vn c,vn b])) l (.tup [vn b,vn a])) u (.lst [.ref g,.ref j,.ref l])) u [(a,c),(c,b),(b,a)] :=
  ⟨[g,j,l],q4,rfl,λ i d t q v=>by
   match i with
   | 0=>cases q;cases v;exact q1
   | 1=>cases q;cases v;exact M
   | 2=>cases q;cases v;exact O
   | i+3=>simp at q⟩
 refine⟨_,_,(J.kept I).dt,N.dt,oN _,oN _,?_⟩;rw[if_neg (by decide),kDB]
 have e:decide ([(a,c),(c,(nxt W (a,c)).2),((nxt W (a,c)).2,a)]=[(a,c),(c,b),(b,a)])=decide ((nxt W (a,c)).2=b):=by
  rw[iX,decide_eq_true_iff,decide_eq_true_iff];constructor
  ·intro h
   injection h with _ h
   injection h with h _
   exact congrArg qh h
  ·intro h
   rw[h]
 rw[e];exact k _ (x.trans I)
inductive gG(vs:List V)(H:Hp)(Q:VK)(Y:XK):Prop
 | mk:∀(t:av)(W:Rows),(vs=[.ref t])->(WebAt H t W)->(Tr W)->(∀ H',Same H H'->Q .non H')->gG vs H Q Y
def fJ(B:Fx):Hs "must_be_flat" ["web"] 5 (gG):=by
 refine qO B.X B.d8 fG λ f i A a l H m Q E j b h=>?_;obtain⟨t,W,rfl,d,T,k⟩:=h;refine⟨_,(kJ (yM (cR (cQ (pf (kDF B) b (p1 (pv 0))))) (kJ fO) jD)),?_⟩
 try dsimp only[qX]
 refine⟨_,rfl,t,W,rfl,d,T.nb,T.le,λ c g=>⟨_,rfl,?_⟩⟩;rw[decide_eq_true T.flat];exact yC (k c g)
inductive tR(vs:List V)(H:Hp)(Q:VK)(Y:XK):Prop
 | mk:∀(t:av)(W:Rows),(vs=[.ref t])->(WebAt H t W)->(Tr W)->(∀ H',Same H H'->Q .non H')->tR vs H Q Y
def aJ(B:Fx):Hs "uncornered_face" ["web"] 4 (tR):=by
 refine qO B.X B.d9 aH λ f a0 A n s0 H vs Q E J u h=>?_;obtain⟨t,W,rfl,S,T,k⟩:=h
 refine⟨_,(kH (bC (i:=1) (Nc:=["face"]) (js:=[none]) rfl rfl J rfl (ui rfl) (xW (pf (kAV B) u (p1 (pv 0)))) (CS.of rfl rfl) rfl (λ C g d Y j=>(pgc 0)) (λ C g d Y j D L=>(zQ (qG kAP (kS (show zD _ _ (yU K) from kR) rfl (B.z B.y0) fb (p1 (pv 0))) kI (jA _)) (qV (pv 0)))))
   (kJ (kW (kAM (kLI (pv 1) (λ _=>rfl)) (pix kX (pv 1) kI) vG)))),?_⟩
 try dsimp only[qX]
 refine⟨_,rfl,t,W,rfl,S,T.nb,T.le,λ s y U ns Z=>?_⟩;obtain⟨M,h1,N,v⟩:=id Z;refine⟨s,rfl,⟨_,SqL.of h1⟩,λ D O=>?_⟩
 refine jN (xs:=M.map V.ref) (λ i m c=>∃(l:Option V),m=[l]/\Same y c/\c D=some (.lst []))
  ⟨none,rfl,kC O _,kA⟩ ?_ ?_ ?_
 ·rintro i m c _ ⟨l,rfl,a,_⟩
  exact SqL.of (a _ _ h1)
 ·rintro i x m c p ⟨l,rfl,a,o⟩
  rw[bb]at p;obtain⟨b,r,rfl⟩:=bp.mp p;have q:i<(Fc.facesS W).length:=by rw[<-N];exact(ak.mp r).1
  have I:=ae q;have G:=v i b _ r I;have l3:=T.faces _ (iR q);refine⟨_,rfl,b,_,rfl,.inr (SqT.of (a _ _ G)),rfl,_,rfl,?_⟩;rw[aj,l3];exact yC ⟨_,rfl,a,o⟩
 ·rintro m c ⟨l,rfl,a,o⟩
  exact⟨_,rfl,false,.inl ⟨_,SqL.of o,rfl⟩,k c (U.trans a)⟩
inductive kEW(vs:List V)(H:Hp)(Q:VK)(Y:XK):Prop
 | mk:∀(w z:av)(W:Rows)(a b c:Nat),(vs=[.ref w,.ref z])->(WebAt H w W)->(Tr W)->(H z=some (.tup [vn a,vn b,vn c]))->(Tri.E W a c)->((nxt W (a,c)).2=b)->(∀ H',Same H H'->Q (.bl true) H')->kEW vs H Q Y
def kDG(B:Fx):Hs "is_base" ["web","thing"] 4 (kEW):=by
 refine qO B.X B.d11 kCT λ f I A d N H S Q E i p h=>?_;obtain⟨w,z,W,a,b,c,rfl,G,T,q,g,x,k⟩:=h
 refine⟨_,(kH (yM (cR (cQ (pf (bH B) p (p2 (pv 1) kI)))) (kJ (kW oM)) jD)
   (kH (yH (pv 1) (qW (n:=3) rfl (kN (pgn 2 i) (kN (pgn 3 i) (kN (pgn 4 i) qM)))))
   (kJ (kW (lG (kLO kUW kLQ kI (pv 2) (kS kR rfl (B.z B.y0) fb (p1 (pv 0)))) (lG (uS zM (pv 4) (pix qB (pv 0) (pv 2)) rfl) (kDA (pf (bI B) p (kE (pv 0) (kE (pv 2) (kE (pv 4) (kE (pv 3) kU)))))))))))),?_⟩
 try dsimp only[qX]
 refine⟨_,rfl,z,[a,b,c],rfl,q,(by show 3<=1000;decide),λ L j=>⟨_,rfl,yC ?_⟩⟩;have l:=j _ _ q;have r:=G.kept j;obtain⟨y,h1,o,u⟩:=r.at;obtain⟨row,s,m⟩:=id g;obtain⟨C,J,v⟩:=u a row s;have M:=(T.nb.e g).1;refine⟨_,rfl,z,_,rfl,SqT.of l,rfl,_,_,rfl,_,_,rfl,_,_,rfl,rfl,?_⟩;refine⟨_,rfl,_,_,rfl,rfl,_,rfl,?_⟩;rw[decide_eq_true (show(0:Int)<=(a:Int) by omega)];refine wQ ⟨_,rfl,w,_,rfl,.inr (SqT.of h1),_,_,rfl,rfl,_,rfl,?_⟩;rw[decide_eq_true (show(a:Int)<(((y.map V.ref).length:Nat):Int) by rw[aj,o];omega)];refine wQ ⟨_,rfl,_,rfl,_,rfl,w,_,_,_,rfl,rfl,SqT.of h1,J,C,_,rfl,.inr (SqT.of v),rfl,yY _,_,rfl,?_⟩;rw[wC,decide_eq_true m];refine wQ ⟨_,rfl,_,rfl,_,rfl,_,rfl,w,W,a,c,b,rfl,r,T,g,λ O D=>?_⟩;rw[decide_eq_true x];exact k _ (j.trans D)
inductive gI(vs:List V)(H:Hp)(Q:VK)(Y:XK):Prop
 | mk:∀(w z:av)(W:Rows)(a b c:Nat),(vs=[.ref w,.ref z])->(WebAt H w W)->(Tr W)->(H z=some (.tup [vn a,vn b,vn c]))->(Tri.E W a c)->((nxt W (a,c)).2=b)->(∀ H',Same H H'->Q .non H')->gI vs H Q Y
def bF(B:Fx):Hs "must_have_base" ["web","base"] 6 (gI):=by
 refine qO B.X B.d12 aW λ f s A i v H y Q E p g h=>?_;obtain⟨w,z,W,a,b,c,rfl,l,T,q,o,n,k⟩:=h
 refine⟨_,(kH (qR (pf (fJ B) g (p1 (pv 0))))
   (kH (pst 2 p (pf (aJ B) g (p1 (pv 0))))
   (kH (yM (qG kPE (pv 2) vG (jA _)) (kJ fO) jD)
   (kJ (yM (cR (cQ (pf (kDG B) g (p2 (pv 0) (pv 1))))) (kJ fO) jD))))),?_⟩
 try dsimp only[qX]
 refine⟨_,rfl,w,W,rfl,l,T,λ u d=>?_⟩;refine⟨_,rfl,w,W,rfl,l.kept d,T,λ x j=>?_⟩;refine⟨_,rfl,rfl,_,rfl,yC ?_⟩;refine⟨_,rfl,_,rfl,w,z,W,a,b,c,rfl,(l.kept d).kept j,T,j _ _ (d _ _ q),o,n,λ r m=>⟨_,rfl,yC ?_⟩⟩;exact k r (d.trans (j.trans m))
end
section
def kGZ{l r:Bool}{K:be}{a b:av}{xs ys:List V}{g:TG}{bd:TB}{o:St->Hp->Prop}{c:St}{H:Hp}(Pv:Nat->St->Hp->Prop)(j:ys.length<xs.length)(h0:Pv 0 c H)
  (v:∀ i c H,i<=ys.length->Pv i c H->SqX K l H a xs/\SqX K r H b ys)
  (B:∀ i x y T c H,xs[i]?=some x->ys[i]?=some y->H T=none->Pv i c H->g (.ref T) c (upd H T (.tup [x,y])) λ σ2 H2=>bd (Pv (i+1)) σ2 H2) (J:∀ c H,Pv ys.length c H->o c H):zT (kUA l r K a b) g bd o c H:=by
 refine⟨λ i m c H=>m=ys.length-i/\i<=ys.length/\Pv i c H,⟨ys.length,by simp,iH _,h0⟩,?_⟩;rintro i m c H ⟨rfl,d,p⟩;obtain⟨h,f⟩:=v i c H d p;rcases iY i ys.length with n | n
 ·refine .inr ⟨⟨xs,ys,xs[i]'(by omega),ys[i],h,f,by simp[show i<xs.length by omega],by simp[n]⟩,Pv (i+1),λ G A q=>⟨ys.length-(i+1),by omega,rfl,by omega,q⟩,λ x A u=>?_⟩
  obtain⟨T,D,I,C,rfl,L,s,rfl⟩:=u;exact B i D I T c H (L xs h) (s ys f) C p
 ·obtain rfl:i=ys.length:=by omega
  exact .inl ⟨⟨xs,ys,xs[ys.length]'(by omega),h,f,by simp[j],rfl⟩,J c H p⟩
def wB(a:List Nat):CY:=.list (a.map λ n:Nat=>kb (n:Int))
def pU(a:List Nat):CY:=.tuple (a.map λ n:Nat=>kb (n:Int))
def oV(T:List Nat):jh (T.map λ n:Nat=>kb (n:Int))=true/\kq (T.map λ n:Nat=>kb (n:Int))<=1:=by
 induction T with
 | nil=>exact⟨rfl,by decide⟩
 | cons t T ih =>
  simp only[eZ,jh,kq,ka,nj,ih.1];have:=ih.2;refine⟨rfl,?_⟩;omega
def bN(T:List Nat):jg (wB T)=true:=by
 obtain⟨h1,a⟩:=oV T;unfold wB jg;simp only[ka,nj,h1]
 first | (simp;omega) | (rw[iI];exact⟨rfl,decide_eq_true (by omega)⟩) | simp_all
def kEH(T:List Nat):jg (pU T)=true:=by
 obtain⟨h1,a⟩:=oV T;unfold pU jg;simp only[ka,nj,h1]
 first | (simp;omega) | (rw[iI];exact⟨rfl,decide_eq_true (by omega)⟩) | simp_all
def kIK(T:List Nat):ie (wB T) (wB T)=true:=by
 unfold wB;rw[ie];exact kMJ T
def fV{H:Hp}{s:av}{T:List Nat}(h:H s=some (.lst (T.map vn))):Dt K H (wB T) (.ref s):=by
 unfold wB Dt;exact⟨s,_,rfl,SqL.of h,kGF T⟩
def kNC{H:Hp}{s:av}{T:List Nat}(h:H s=some (.tup (T.map vn))):Dt K H (pU T) (.ref s):=by
 unfold pU Dt;exact⟨s,_,rfl,SqT.of h,kGF T⟩
def pW{d:List Nat}{n:Nat}(h:d.Perm (cf n)){c:List Int}(p:c.Perm (d.map ci))(s:c.Pairwise (·<=·)):c=(cf n).map ci:=by
 have p2:c.Perm ((cf n).map ci):=p.trans (h.map ci)
 have g:((cf n).map ci).Pairwise (·<=·):=by
  rw[me];refine Cc.imp λ{a b} h=>?_;show(a:Int)<=b;omega
 exact p2.eq_of_pairwise (λ a b _ _ h1 f=>Int.le_antisymm h1 f) s g
def kDK(T U:List Nat):ie (wB T) (wB U)=decide (T=U):=by
 have b:∀(T U:List Nat),iU (T.map λ n:Nat=>kb (n:Int)) (U.map λ n:Nat=>kb (n:Int))=decide (T=U):=λ T=>by
  induction T with
  | nil=>intro U;cases U<;>simp[iU]
  | cons t T ih =>
   intro U
   cases U with
   | nil=>simp[iU]
   | cons u U =>
    rw[eZ,eZ,iU,ih U,iX,iI,decide_eq_true_iff,decide_eq_true_iff]
    have e:ie (kb (t:Int)) (kb (u:Int))=true↔t=u:=by
     simp only[ie,beq_iff_eq];omega
    rw[e];constructor
    ·rintro⟨h1,a⟩
     rw[h1,a]
    ·intro h
     injection h with h1 a
     exact⟨h1,a⟩
 unfold wB;rw[ie];exact b T U
def kHI(T U:List Nat):ie (pU T) (pU U)=decide (T=U):=by
 have b:∀(T U:List Nat),iU (T.map λ n:Nat=>kb (n:Int)) (U.map λ n:Nat=>kb (n:Int))=decide (T=U):=λ T=>by
  induction T with
  | nil=>intro U;cases U<;>simp[iU]
  | cons t T ih =>
   intro U
   cases U with
   | nil=>simp[iU]
   | cons u U =>
    rw[eZ,eZ,iU,ih U,iX,iI,decide_eq_true_iff,decide_eq_true_iff]
    have e:ie (kb (t:Int)) (kb (u:Int))=true↔t=u:=by
     simp only[ie,beq_iff_eq];omega
    rw[e];constructor
    ·rintro⟨h1,a⟩
     rw[h1,a]
    ·intro h
     injection h with h1 a
     exact⟨h1,a⟩
 unfold pU;rw[ie];exact b T U
inductive nV(vs:List V)(H:Hp)(Q:VK)(Y:XK):Prop
 | mk:∀(w z o:av)(W:Rows)(a b c:Nat)(ms:List Nat),(vs=[.ref w,.ref z,.ref o])->(WebAt H w W)->(W.length<=42)->(H z=some (.tup [vn a,vn b,vn c]))->(H o=some (.tup (ms.map vn)))->(ms.Perm (cf W.length))->(3<=W.length)->(∀ H',Same H H'->Q (.bl (decide (ms[0]?=some a/\ms[1]?=some b/\ms.getLast?=some c))) H')->nV vs H Q Y
def kAU(B:Fx):Hs "has_ends" ["web","base","thing"] 3 (nV):=by
 refine qO B.X B.d13 kAD λ f a2 A s s0 H vs Q E D p h=>?_;obtain⟨w,z,o,W,a,b,c,d,rfl,hW,a0,hz,L,hp,l3,k⟩:=h
 refine⟨_,(kH (yM (PW.pt (kRC (cR (cQ (pf (bH B) p (p2 (pv 2) (kS kR rfl (B.z B.y0) fb (p1 (pv 0))))))) (kLH (qG (cS p.units) (kS kDV rfl (B.z B.y7) si (p1 (pv 2))) (kFL rfl rfl (B.z B.y12) rfl (B.z B.y3) (p1 (kS kR rfl (B.z B.y0) fb (p1 (pv 0))))) (jA _))))) (kJ (kW oM)) jD)
   (kH (yH (pv 1) (qW (n:=3) rfl (kN (pgn 3 D) (kN (pgn 4 D) (kN (pgn 5 D) qM)))))
   (kJ (kW (uS (kDC p.units) (qS (kE (pix qB (pv 2) kI) (kE (pix qB (pv 2) kI) (kE (pix qB (pv 2) (bD vC kI)) kU)))) (qS (kE (pv 3) (kE (pv 4) (kE (pv 5) kU)))) (jA _)))))),?_⟩
 try dsimp only[qX]
 have I:d.length=W.length:=by rw[hp.length_eq,fu]
 obtain⟨ts,h1,m,h3⟩:=id hW;refine⟨_,rfl,_,rfl,w,_,rfl,.inr (SqT.of h1),o,d,(by rw[aj,m,I];rfl),L,(by omega),λ r J=>⟨_,rfl,yC ?_⟩⟩;refine⟨_,rfl,o,d.map ci,rfl,.inr (SqT.of (by rw[J _ _ L,xJ])),λ l a1 nl pm sr=>?_⟩;rw[pW hp pm sr];have O:=kC nl (.lst (((cf W.length).map ci).map V.int));have hl:=kA (H:=r) (a:=l) (o:=.lst (((cf W.length).map ci).map V.int));refine⟨_,rfl,w,_,rfl,.inr (SqT.of (O _ _ (J _ _ h1))),W.length,(by rw[aj,m]),(by omega),λ S Z=>?_⟩;rw[if_neg eC];have T:=kC Z (.lst (vT W.length));have G:=kA (H:=upd r l (.lst (((cf W.length).map ci).map V.int))) (a:=S) (o:=.lst (vT W.length));have u:=J.trans (O.trans T);refine⟨wB (cf W.length),wB (cf W.length),fV (by rw[xJ];exact T _ _ hl),fV G,bN _,bN _,_,rfl,?_⟩;rw[kIK];refine yC ?_;have C:=u _ _ hz;have g:=u _ _ L;generalize upd (upd r l (.lst (((cf W.length).map ci).map V.int))) S (.lst (vT W.length))=H2 at *;refine⟨_,rfl,z,_,rfl,SqT.of C,rfl,_,_,rfl,_,_,rfl,_,_,rfl,rfl,?_⟩;obtain⟨x,U⟩ : ∃ x,d[0]?=some x:=⟨_,ae (by omega)⟩;obtain⟨y,N⟩ : ∃ y,d[1]?=some y:=⟨_,ae (by omega)⟩;have q:d≠[]:=λ z=>by rw[z]at I;simp at I;omega
 obtain⟨v,i⟩ : ∃ v,d.getLast?=some v:=⟨_,eo q⟩;have e0:atI (d.map vn) 0=some (vn x):=qP (j:=0) (by rw[bb,U];rfl);have e1:atI (d.map vn) 1=some (vn y):=qP (j:=1) (by rw[bb,N];rfl)
 have Y:atI (d.map vn) (-1)=some (vn v):=by
  have em:d=d.dropLast++[v]:=by
   have i:=i;rw[eo q]at i;rw[<-bh i];exact(eK q).symm
  rw[em,cu];exact zC _ _
 refine⟨_,rfl,o,_,_,_,rfl,rfl,SqT.of g,e0,_,rfl,o,_,_,_,rfl,rfl,SqT.of g,e1,_,rfl,_,rfl,o,_,_,_,rfl,rfl,SqT.of g,Y,yS3,λ u1 m1=>?_⟩;have j1:=kC m1 (.tup [vn x,vn y,vn v]);refine⟨_,rfl,_,rfl,_,rfl,yS3,λ u2 m2=>?_⟩;have M:=kC m2 (.tup [vn a,vn b,vn c]);refine⟨pU [x,y,v],pU [a,b,c],kNC (M _ _ kA),kNC kA,kEH _,kEH _,?_⟩;rw[if_neg (by decide),kHI]
 have ee:decide ([x,y,v]=[a,b,c])=decide (d[0]?=some a/\d[1]?=some b/\d.getLast?=some c):=by
  rw[iX,decide_eq_true_iff,decide_eq_true_iff,U,N,i];simp
 rw[ee];exact k _ (u.trans (j1.trans M))
theorem kBZ{l r:List Nat}{x y:Nat}(h:Adj l x y):Adj (l++r) x y:=by
 match l,h with
 | a::b::l,h =>
  rcases h with z | z
  ·exact .inl z
  ·exact .inr (kBZ (l:=b::l) z)
def kJE{l r:List Nat}{x y:Nat}(h:Adj r x y):Adj (l++r) x y:=by
 induction l with
 | nil=>exact h
 | cons a l ih =>
  cases e:l++r with
  | nil=>rw[e]at ih;exact absurd ih id
  | cons b s =>
   rw[mj,e];rw[e]at ih;exact EM ih
def kQL(xs:List V)(b c:Nat)(h:b<=xs.length):yD xs (some (b:Int)) (some (c:Int))=(xs.drop b).take (c-b):=by
 unfold yD;rw[HT.sIx_nat,HT.sIx_nat,ni h,List.take_eq_take_iff,iZ];omega
inductive nR(vs:List V)(H:Hp)(Q:VK)(Y:XK):Prop
 | mk:∀(w tp ah:av)(W:Rows)(top ahead:List Nat)(pl:Nat),(vs=[.ref w,.ref tp,.ref ah,vn pl])->(WebAt H w W)->(Tr W)->(H tp=some (.lst (top.map vn)))->(H ah=some (.tup (ahead.map vn)))->(top.length<=42)->(ahead.length<=42)->(pl<W.length)->(top.Nodup)->((∀ x y,Adj top x y->Tri.E W x y))->((stF W top ahead pl=none->∀ H',Same H H'->Q .non H'))->(∀(st:List Nat),stF W top ahead pl=some st->∀(s:av)(H':Hp),Same H H'->H s=none->H' s=some (.lst (st.map vn))->Q (.ref s) H')->nR vs H Q Y
def cV(B:Fx):Hs "stretch_under" ["web","top","ahead","place"] 4 (nR):=by
 refine qO B.X B.d14 cM λ f b3 A aw s0 H vs Q E nN hr h=>?_;obtain⟨w,tp,ah,W,top,g,m,rfl,hW,T,ax,a7,l1,l2,lp,b2,hA,S,k⟩:=h
 refine⟨_,(kH (pst 4 nN (jG (Nc:=["q","web","place"]) (js:=[none,some 0,some 3]) rfl rfl (yI (pv 2)) (CS.of rfl rfl) rfl (λ C n u fp s=>(pgc 0)) (λ C n u fp s D L=>(zQ (qG (show OpR _ _ (rIn K false) from zM) (pv 0) (pix (show IxR _ (kAJ K) from qB) (pv 1) (pv 2)) rfl) (qV (pv 0))))))
   (kH (bC (i:=5) (Nc:=["q","below"]) (js:=[none,some 4]) rfl rfl nN rfl (ui rfl) (xW (pv 1)) (CS.of rfl rfl) rfl (λ C n u fp s=>(pgc 0)) (λ C n u fp s D L=>(zQ (qG (show OpR _ _ (rIn K false) from zM) (pv 0) (pv 1) rfl) (qV (pv 0)))))
   (kH (yM (PW.pt (kRC (qG kLQ (kS kR rfl (B.z B.y0) fb (p1 (pv 5))) kI (jA _)) (kLH (qG kAP (kS kR rfl (B.z B.y0) fb (p1 (pv 5))) (kS kR rfl (B.z B.y0) fb (p1 (pv 4))) (jA _))))) (kJ (kW vG)) jD)
   (kH (pst 6 nN (jU mf mh zR (pv 1) (p1 (pix kX (pv 5) kI))))
   (kH (yM (qG (cS hr.units) (qL yS (pv 1) (qK (pv 6)) (qK (kY xL (pv 6) (kS kR rfl (B.z B.y0) fb (p1 (pv 5)))))) (pv 5) (jA _)) (kJ (kW vG)) jD)
   (kH (yM (cR (cQ (kS (dE rfl) rfl (B.z B.y11) Ad (p1 (jG (Nc:=["x","y","web","place"]) (js:=[none,none,some 0,some 3]) rfl rfl (kOY true true rfl (B.z B.y13) (p2 (pv 5) (qL yS (pv 5) (qK kI) jL))) (CS.of rfl rfl) rfl (λ C n u fp s=>(show PG _ _ (aO K 2 _) from qW rfl (kN (jT (i:=0) (show tz (α:=Str) ["x","y","web","place"] by decide +kernel) rfl (ui rfl)) (kN (jT (i:=1) (show tz (α:=Str) ["x","y","web","place"] by decide +kernel) rfl (ui rfl)) qM)))) (λ C n u fp s D L=>(qF (qV (pf (bI B) hr (kE (pv 2) (kE (pv 0) (kE (pv 1) (kE (pv 3) kU))))))))))))) (kJ (kW vG)) jD)
   (kJ (kW (pv 5))))))))),?_⟩
 try dsimp only[qX]
 have ac:W.getD m []=W[m]:=by rw[ao,ae lp];rfl
 unfold stF at S k;dsimp only at S k;rw[ac]at S k;obtain⟨ts,h1,b1,h3⟩:=hW.at;obtain⟨b',e1,e2⟩:=h3 m W[m] (ae lp);refine⟨_,rfl,ah,rfl,⟨_,SqT.of a7⟩,λ D nD=>?_⟩
 refine jM (xs:=g.map vn) (λ i G H2=>∃(I:Option V),G=[I,some (.ref w),some (vn m)]/\Same H H2/\H2 D=some (.lst (((g.take i).filter λ q=>decide (q∈W[m])).map vn)))
  ⟨none,rfl,kC nD _,kA⟩ ?_ ?_ ?_
 ·rintro i G H2 _ ⟨I,rfl,U,_⟩
  exact SqT.of (U _ _ a7)
 ·rintro i x G H2 hx ⟨I,rfl,U,hD⟩
  rw[bb]at hx;obtain⟨q,a4,rfl⟩:=bp.mp hx;have tk:g.take (i+1)=g.take i++[q]:=by rw[jd,a4];rfl
  refine⟨_,rfl,_,rfl,_,rfl,w,_,_,_,rfl,rfl,SqT.of (U _ _ h1),e1,b',_,rfl,.inr (SqT.of (U _ _ e2)),rfl,yY _,_,rfl,?_⟩;rw[wC,tk,ud];have lf:=og (λ q=>decide (q∈W[m])) (g.take i);rw[dq]at lf;refine kIO (λ c=>?_) (λ c=>?_)
  ·refine⟨_,rfl,_,hD,(by rw[aj];exact kQ (by omega)),?_⟩
   refine⟨_,rfl,kZ nD U,?_⟩;rw[xc (p:=λ q=>decide (q∈W[m])) (show decide (q∈W[m])=true from c),cu];exact kA
  ·rw[xg (p:=λ q=>decide (q∈W[m])) (show ¬ decide (q∈W[m])=true from c),Bk,iq]
   exact⟨_,rfl,U,hD⟩
 rintro G H2 ⟨I,rfl,U,hD⟩;rw[aj,iL]at hD;have N:=U _ _ ax;have lb:=og (λ q=>decide (q∈W[m])) g;generalize g.filter (λ q=>decide (q∈W[m]))=v at *;refine⟨_,rfl,tp,rfl,⟨_,SqL.of N⟩,λ Z a6=>?_⟩
 refine jN (xs:=top.map vn) (λ i G H3=>∃(I:Option V),G=[I,some (.ref D)]/\Same H2 H3/\H3 Z=some (.lst (((top.take i).filter λ q=>decide (q∈v)).map vn)))
  ⟨none,rfl,kC a6 _,kA⟩ ?_ ?_ ?_
 ·rintro i G H3 _ ⟨I,rfl,Y,_⟩
  exact SqL.of (Y _ _ N)
 ·rintro i x G H3 hx ⟨I,rfl,Y,l⟩
  rw[bb]at hx;obtain⟨q,a4,rfl⟩:=bp.mp hx;have tk:top.take (i+1)=top.take i++[q]:=by rw[jd,a4];rfl
  refine⟨_,rfl,_,rfl,D,_,rfl,.inl (SqL.of (Y _ _ hD)),rfl,yY _,_,rfl,?_⟩;rw[wC,tk,ud];have lf:=og (λ q=>decide (q∈v)) (top.take i);rw[dq]at lf;refine kIO (λ c=>?_) (λ c=>?_)
  ·refine⟨_,rfl,_,l,(by rw[aj];exact kQ (by omega)),?_⟩
   refine⟨_,rfl,kZ a6 Y,?_⟩;rw[xc (p:=λ q=>decide (q∈v)) (show decide (q∈v)=true from c),cu];exact kA
  ·rw[xg (p:=λ q=>decide (q∈v)) (show ¬ decide (q∈v)=true from c),Bk,iq]
   exact⟨_,rfl,Y,l⟩
 rintro G H3 ⟨I,rfl,Y,l⟩;rw[aj,iL]at l;have b0:=og (λ q=>decide (q∈v)) top;have aa:∀ q∈top.filter (λ q=>decide (q∈v)),q∈top:=λ q hq=>(ip.mp hq).1;generalize top.filter (λ q=>decide (q∈v))=st at *;have J:=U.trans Y;have ap:=Y _ _ hD;have O:=Y _ _ N;have W3:=hW.kept J;have lst:((st.map vn).length:Int)=st.length:=by rw[aj]
 have an:((v.map vn).length:Int)=v.length:=by rw[aj]
 have ls:st.length<=42:=by omega
 refine⟨_,rfl,Z,_,rfl,.inl (SqL.of l),_,_,rfl,rfl,_,rfl,?_⟩;rw[lst];by_cases c1:st.length<2
 ·rw[decide_eq_true (show((st.length:Int)<2) by omega)]
  exact wQ (S (by rw[if_pos (.inl c1)]) _ J)
 rw[decide_eq_false (show ¬ ((st.length:Int)<2) by omega)];refine yC ⟨_,rfl,Z,_,rfl,.inl (SqL.of l),_,rfl,D,_,rfl,.inl (SqL.of ap),rfl,_,rfl,?_⟩;rw[lst,an];by_cases c2:st.length=v.length
 case neg =>
  rw[decide_eq_false (show ¬ (V.int (st.length:Int)=V.int (v.length:Int)) from λ z=>c2 (by have:=V.int.inj z;omega))];exact wQ (S (by rw[if_pos (.inr c2)]) _ J)
 rw[c2,decide_eq_true (rfl:V.int ((v.length:Nat):Int)=V.int ((v.length:Nat):Int))];refine yC ?_;rw[if_neg (by omega)]at S k
 obtain⟨d,rest,a5⟩ : ∃ a r,st=a::r:=by
  match st,c1 with
  | a::r,_=>exact⟨a,r,rfl⟩
  | [],c1=>exact absurd (show([]:List Nat).length<2 by decide) c1
 have ay:st.headD 0=d:=by rw[a5];rfl
 have a8:atI (st.map vn) 0=some (vn d):=by rw[a5];exact qP (j:=0) rfl
 have m0:d∈top:=aa d (by rw[a5];exact eP ..);have il:=fq m0;refine⟨_,rfl,.inl ⟨rfl,_,SqL.of O⟩,_,rfl,Z,_,_,_,rfl,rfl,SqL.of l,a8,tp,top.map ci,d,top.idxOf d,rfl,rfl,(by rw[O,xJ]),qQ m0,?_⟩;refine⟨_,rfl,_,rfl,_,rfl,_,rfl,_,rfl,Z,_,rfl,.inl (SqL.of l),_,_,rfl,rfl,_,rfl,tp,_,rfl,SqL.of O,λ p np=>?_⟩;rw[ay]at S k
 have ag:yD (top.map vn) (some ((top.idxOf d:Nat):Int)) (some (((top.idxOf d:Nat):Int)+(((st.map vn).length:Nat):Int)))=((top.drop (top.idxOf d)).take st.length).map vn:=by
  rw[lst,show(((top.idxOf d:Nat):Int)+(st.length:Int))=((top.idxOf d+st.length:Nat):Int) by omega,kQL _ _ _ (by rw[aj];omega),xb,Aa,show top.idxOf d+st.length-top.idxOf d=st.length by omega]
 rw[ag];have gp:=kC np (.lst (((top.drop (top.idxOf d)).take st.length).map vn));have hp:=kA (H:=H3) (a:=p) (o:=.lst (((top.drop (top.idxOf d)).take st.length).map vn));refine⟨_,rfl,wB ((top.drop (top.idxOf d)).take st.length),wB st,fV hp,fV (gp _ _ l),bN _,bN _,_,rfl,?_⟩;rw[kDK];by_cases c3:(top.drop (top.idxOf d)).take st.length=st
 case neg =>
  rw[decide_eq_false c3];exact wQ (S (by rw[if_pos c3]) _ (J.trans gp))
 rw[decide_eq_true c3];rw[if_neg (λ z=>z c3)]at S k;refine yC ?_;have a0:=gp _ _ l;have W4:=W3.kept gp;have am:=J.trans gp;have ab:H Z=none:=U.free a6;generalize upd H3 p (.lst (((top.drop (top.idxOf d)).take st.length).map vn))=H4 at *
 have hE:∀ t∈st.zip st.tail,Tri.E W t.1 t.2:=λ t ht=>by
  obtain⟨x,y⟩:=t;have ad:=uP ht
  have et:top=top.take (top.idxOf d)++(st++(top.drop (top.idxOf d)).drop st.length):=by
   have e2:top.drop (top.idxOf d)=st++(top.drop (top.idxOf d)).drop st.length:=by
    conv=>lhs;rw[<-fv st.length (top.drop (top.idxOf d)),c3]
   rw[<-e2,fv]
  refine hA x y ?_;rw[et];have a1:Adj (st++(top.drop (top.idxOf d)).drop st.length) x y:=kBZ ad;exact kJE a1
 have tl:(st.map vn).tail=st.tail.map vn:=by rw[Fk]
 have c1:yD (st.map vn) (some 1) none=st.tail.map vn:=by
  rw[show(1:Int)=((1:Nat):Int) from rfl,yZ _ (by rw[aj];omega),List.drop_one,tl]
 refine⟨_,rfl,_,rfl,_,rfl,Z,_,rfl,SqL.of a0,λ D3 as=>?_⟩;rw[c1];have g5:=kC as (.lst (st.tail.map vn));have a2:=kA (H:=H4) (a:=D3) (o:=.lst (st.tail.map vn));have M:=g5 _ _ a0;have W5:=W4.kept g5;have al:=am.trans g5;generalize upd H4 D3 (.lst (st.tail.map vn))=H5 at *;refine⟨Z,D3,rfl,⟨_,SqL.of M⟩,⟨_,SqL.of a2⟩,λ D4 a9=>?_⟩
 refine kGZ (xs:=st.map vn) (ys:=st.tail.map vn) (λ i G H6=>∃(I x1:Option V),G=[I,x1,some (.ref w),some (vn m)]/\Same H5 H6/\H6 D4=some (.lst ((((st.zip st.tail).take i).map λ t=>decide ((nxt W t).2=m)).map V.bl))) (by rw[aj,aj,List.length_tail];omega)
  ⟨none,none,rfl,kC a9 _,kA⟩ ?_ ?_ ?_
 ·rintro i G H6 _ ⟨I,x1,rfl,g6,_⟩
  exact⟨SqL.of (g6 _ _ M),SqL.of (g6 _ _ a2)⟩
 ·rintro i x y T' G H6 hx hy nT ⟨I,x1,rfl,g6,a3⟩
  rw[bb]at hx hy;obtain⟨a,ea,rfl⟩:=bp.mp hx;obtain⟨b,eb,rfl⟩:=bp.mp hy
  have mz:(a,b)∈st.zip st.tail:=by
   refine dh (i:=i) ?_;rw[kj];exact⟨ea,eb⟩
  have li:=(ak.mp ea).1;have gT:=kC nT (.tup [vn a,vn b]);have hT:=kA (H:=H6) (a:=T') (o:=.tup [vn a,vn b]);have W7:=(W5.kept g6).kept gT;have g7:=g6.trans gT;have af:=gT _ _ a3;generalize upd H6 T' (.tup [vn a,vn b])=H7 at *;refine⟨T',_,rfl,SqT.of hT,rfl,_,_,rfl,_,_,rfl,rfl,?_⟩;refine⟨_,rfl,_,rfl,_,rfl,_,rfl,w,W,a,b,m,rfl,W7,T,hE _ mz,λ H8 g8=>?_⟩
  have aq:(st.zip st.tail).take (i+1)=(st.zip st.tail).take i++[(a,b)]:=by
   have:(st.zip st.tail)[i]?=some (a,b):=by rw[kj];exact⟨ea,eb⟩
   rw[jd,this]
   rfl
  refine⟨_,g8 _ _ af,(by rw[aj,aj,dq];exact kQ (by omega)),?_⟩;refine⟨_,_,rfl,kZ a9 (g7.trans g8),?_⟩;rw[aq,cu,cu];exact kA
 ·rintro G H6 ⟨I,x1,rfl,g6,a3⟩
  refine⟨D4,_,rfl,SqL.of a3,?_⟩
  have ez:(st.zip st.tail).take (st.tail.map vn).length=st.zip st.tail:=by
   refine md ?_;rw[An,aj];omega
  rw[ez]
  have ea:((st.zip st.tail).map λ t=>decide ((nxt W t).2=m)).all id=(st.zip st.tail).all λ t=>decide ((nxt W t).2=m):=by
   rw[GF]
   rfl
  rw[ea]
  cases cb:(st.zip st.tail).all λ t=>decide ((nxt W t).2=m) with
  | false=>exact⟨_,rfl,wQ (S (by rw[cb];rfl) _ (al.trans g6))⟩
  | true =>
   refine⟨_,rfl,yC ⟨_,rfl,?_⟩⟩;exact k st (by rw[cb];rfl) Z H6 (al.trans g6) ab (g6 _ _ M)
end
section
structure LsAt(H:Hp)(t:av)(ta:List av)(Os:List (List Nat)):Prop where
 top:H t=some (.lst (ta.map V.ref))
 len:ta.length=Os.length
 row:∀(i:Nat)(a:av)(Z:List Nat),ta[i]?=some a->Os[i]?=some Z->H a=some (.lst (Z.map vn))
def LsAt.but{H H':Hp}{t:av}{c:List av}{Os:List (List Nat)}(x:LsAt H t c Os)(g:∀ b o,b=t\/b∈c->H b=some o->H' b=some o):LsAt H' t c Os :=
 ⟨g _ _ (.inl rfl) x.top,x.len,λ i a Z d f=>g _ _ (.inr (dh d)) (x.row i a Z d f)⟩
def LsAt.kept{H H':Hp}{t:av}{a:List av}{Os:List (List Nat)}(x:LsAt H t a Os)(g:Same H H'):LsAt H' t a Os:=x.but λ b o _=>g b o
def LsAt.app{H:Hp}{t a:av}{c:List av}{Os:List (List Nat)}{Z:List Nat}(x:LsAt H t c Os)(h:H a=some (.lst (Z.map vn)))(m:t∉c)(l:a≠t):LsAt (upd H t (.lst (c.map V.ref++[.ref a]))) t (c++[a]) (Os++[Z]):=by
 refine⟨by rw[cu];exact kA,by simp[x.len],λ i b Y d f=>?_⟩
 have j:b≠t:=λ z=>by
  have:=dh d;rw[z]at this;rcases bz.mp this with q | q
  ·exact m q
  ·exact l (cg.mp q).symm
 rw[kL j];rcases iY i c.length with g | g
 ·rw[bq g]at d
  rw[bq (by have:=x.len;omega)]at f;exact x.row i b Y d f
 ·obtain rfl:i=c.length:=by
   have:=(ak.mp d).1;simp at this;omega
  rw[dr]at d;rw[x.len,dr]at f;cases d
  cases f
  exact h
inductive kEN(vs:List V)(H:Hp)(Q:VK)(Y:XK):Prop
 | mk:∀(tp sp:av)(top st:List Nat)(pl:Nat),(vs=[.ref tp,.ref sp,vn pl])->(H tp=some (.lst (top.map vn)))->(H sp=some (.lst (st.map vn)))->(st≠[])->((∀ x∈st,x∈top))->(top.length<=42)->(∀(s:av)(H':Hp),Same H H'->H s=none->H' s=some (.lst ((poF top st pl).map vn))->Q (.ref s) H')->kEN vs H Q Y
def kAQ(B:Fx):Hs "put_over" ["top","stretch","place"] 1 (kEN):=by
 refine qO B.X B.d15 tY λ f a1 A n s0 H vs Q E I hr h=>?_;obtain⟨l,L,top,st,s,rfl,c,d,m,sub,a0,k⟩:=h
 refine⟨_,(kH (pst 3 I (jU mf mh zR (pv 0) (p1 (pix kX (pv 1) kI))))
   (kH (pst 4 I (jU mf mh zR (pv 0) (p1 (pix kX (pv 1) (bD vC kI)))))
   (kJ (kW (kY cU (kY cU (qL yS (pv 0) jL (qK (kY xL (pv 3) kI))) (jJ (p1 (pv 2)))) (qL yS (pv 0) (qK (pv 4)) jL)))))),?_⟩
 try dsimp only[qX]
 obtain⟨a,r,u⟩ : ∃ a r,st=a::r:=by
  match st,m with
  | a::r,_=>exact⟨a,r,rfl⟩
 obtain⟨D,b,v⟩ : ∃ D b,st=D++[b]:=⟨st.dropLast,st.getLast m,(eK m).symm⟩;have x:st.headD 0=a:=by rw[u];rfl
 have q:st.getLastD 0=b:=by rw[v,iS,kh];rfl
 have J:a∈top:=sub a (by rw[u];exact eP ..);have C:b∈top:=sub b (by rw[v];simp);have g:atI (st.map vn) 0=some (vn a):=by rw[u];exact qP (j:=0) rfl
 have i:atI (st.map vn) (-1)=some (vn b):=by rw[v,cu];exact zC _ _
 have ia:=fq J;have ib:=fq C;refine⟨_,rfl,.inl ⟨rfl,_,SqL.of c⟩,_,rfl,L,_,_,_,rfl,rfl,SqL.of d,g,l,top.map ci,a,top.idxOf a,rfl,rfl,(by rw[c,xJ]),qQ J,?_⟩;refine⟨_,rfl,.inl ⟨rfl,_,SqL.of c⟩,_,rfl,_,rfl,L,_,_,_,rfl,rfl,SqL.of d,i,l,top.map ci,b,top.idxOf b,rfl,rfl,(by rw[c,xJ]),qQ C,?_⟩
 have c1:yD (top.map vn) none (some (((top.idxOf a:Nat):Int)+1))=(top.take (top.idxOf a+1)).map vn:=by
  rw[show(((top.idxOf a:Nat):Int)+1)=((top.idxOf a+1:Nat):Int) by omega,aP _ (by rw[aj];omega),<-xb]
 have Y:yD (top.map vn) (some ((top.idxOf b:Nat):Int)) none=(top.drop (top.idxOf b)).map vn:=by
  rw[yZ _ (by rw[aj];omega),<-Aa]
 refine⟨_,rfl,_,rfl,_,_,rfl,rfl,_,rfl,l,_,rfl,SqL.of c,λ p1 U=>?_⟩;rw[c1];have y:=kC U (.lst ((top.take (top.idxOf a+1)).map vn));refine⟨_,rfl,yS1,λ p2 Z=>?_⟩;have p:=kC Z (.lst [vn s]);refine⟨p1,p2,_,_,rfl,rfl,p _ _ kA,kA,(by simp only[aj,bu,iJ,yo,dq];exact gk (kQ (by omega))),λ p3 m3=>?_⟩;have N:=kC m3 (.lst ((top.take (top.idxOf a+1)).map vn++[vn s]));have o:=N _ _ (p _ _ (y _ _ c));refine⟨_,rfl,_,rfl,_,rfl,l,_,rfl,SqL.of o,λ S T=>?_⟩;rw[Y];have O:=kC T (.lst ((top.drop (top.idxOf b)).map vn));refine⟨p3,S,_,_,rfl,rfl,O _ _ kA,kA,(by simp only[aj,bu,iJ,yo,dq,iZ];exact gk (kQ (by omega))),λ p5 M=>?_⟩;have g9:=kC M (.lst ((top.take (top.idxOf a+1)).map vn++[vn s]++(top.drop (top.idxOf b)).map vn));have G:=y.trans (p.trans (N.trans O));refine k p5 _ (G.trans g9) (G.free M) ?_;rw[kA];unfold poF;rw[x,q];simp
def LsAt.tail{H:Hp}{t:av}{b:List av}{Os:List (List Nat)}{Z:List Nat}(x:LsAt H t b (Os++[Z])):∃ ta' a,b=ta'++[a]/\H a=some (.lst (Z.map vn)):=by
 have l:=x.len;rw[bu,fj]at l;have c:b≠[]:=λ z=>by rw[z]at l;cases l
 refine⟨b.dropLast,b.getLast c,(eK c).symm,x.row Os.length _ Z ?_ ?_⟩
 ·rw[show Os.length=b.length-1 by omega,<-uq,eo c]
 ·rw[dr]
structure Gw(H:Hp)(w z o:av)(W:Rows)(ms:List Nat)(a b c:Nat):Prop where
 web:WebAt H w W
 tr:Tr W
 base:H z=some (.tup [vn a,vn b,vn c])
 ord:H o=some (.tup (ms.map vn))
 perm:ms.Perm (cf W.length)
 three:3<=W.length
 ab:Tri.E W a b
theorem Gw.kept{H H':Hp}{w z o:av}{W:Rows}{d:List Nat}{a b c:Nat}(h:Gw H w z o W d a b c)(g:Same H H'):Gw H' w z o W d a b c :=
 {h with web:=h.web.kept g,base:=g _ _ h.base,ord:=g _ _ h.ord}
inductive kER(vs:List V)(H:Hp)(Q:VK)(Y:XK):Prop
 | mk:∀(w z o:av)(W:Rows)(ms:List Nat)(a b c:Nat),(vs=[.ref w,.ref z,.ref o])->(Gw H w z o W ms a b c)->((jR W a b c ms=none->∀ H',Same H H'->Q .non H'))->(∀(Fs Ts:List (List Nat)),jR W a b c ms=some (Fs,Ts)->∀(t f g:av)(fa ga:List av)(H':Hp),Same H H'->H' t=some (.tup [.ref f,.ref g])->LsAt H' f fa Fs->LsAt H' g ga Ts->Q (.ref t) H')->kER vs H Q Y
def kPH(B:Fx):Hs "laid" ["web","base","thing"] 5 (kER):=by
 refine qO B.X B.d16 kOK λ f bx A b6 s0 H vs Q E nN hr h=>?_;obtain⟨w,z,o,W,d,a,b,c,rfl,G,kn,k⟩:=h
 refine⟨_,(kH (yM (cR (cQ (pf (kAU B) hr (kE (pv 0) (kE (pv 1) (kE (pv 2) kU)))))) (kJ (kW vG)) jD)
   (kH (pst 3 nN (jJ kU))
   (kH (pst 4 nN (jJ (p1 (qU cE rfl (B.z B.y12) Ce (p1 (qL sl_tup (pv 2) jL (qK kI)))))))
   (kH (rK (kHY rfl (B.z B.y3) (p2 kI (kS kR rfl (B.z B.y0) fb (p1 (pv 2))))) (pgn 5 nN) (kH (pst 6 nN (pf (cV B) hr (kE (pv 0) (kE (pix kX (pv 4) (bD vC kI)) (kE (qL sl_tup (pv 2) jL (qK (pv 5))) (kE (pix qB (pv 2) (pv 5)) kU))))))
   (kH (yM (qG kLR (pv 6) vG (jA _)) (kJ (kW vG)) jD)
   (kH (qR (jU jo jq xG (pv 3) (p1 (pv 6))))
   (kJ (qR (jU jo jq xG (pv 4) (p1 (pf (kAQ B) hr (kE (pix kX (pv 4) (bD vC kI)) (kE (pv 6) (kE (pix qB (pv 2) (pv 5)) kU))))))))))))
   (kJ (kW (qS (p2 (pv 3) (pv 4))))))))),?_⟩
 try dsimp only[qX]
 have lm:d.length=W.length:=by rw[G.perm.length_eq,fu]
 have aw:d.Nodup:=G.perm.nodup_iff.mpr qk;have bw:=G.tr.le;have l3:=G.three;refine⟨_,rfl,_,rfl,_,rfl,w,z,o,W,a,b,c,d,rfl,G.web,G.tr.le,G.base,G.ord,G.perm,G.three,λ H1 g1=>⟨_,rfl,?_⟩⟩;by_cases l:d[0]?=some a/\d[1]?=some b/\d.getLast?=some c
 case neg =>
  rw[decide_eq_false l];exact wQ (kn (by unfold jR;rw[if_neg l]) _ g1)
 rw[decide_eq_true l];refine yC ?_;have el:jR W a b c d=goF W d (d.length-2):=by unfold jR;rw[if_pos l]
 rw[el]at kn k;have G1:=G.kept g1;refine⟨yS0,λ f nf=>?_⟩;have gf:=kC nf (.lst []);have hf:=kA (H:=H1) (a:=f) (o:=.lst []);have G2:=G1.kept gf;have g2:=g1.trans gf;have br:H f=none:=g1.free nf;generalize upd H1 f (.lst [])=H2 at *;refine⟨_,rfl,_,rfl,o,_,rfl,SqT.of G2.ord,?_,λ p1 n1=>?_⟩
 ·rintro⟨_,z⟩
  rw[show(2:Int)=((2:Nat):Int) from rfl,kKU (by rw[aj];omega),aj]at z;omega
 have c2:yD (d.map vn) none (some 2)=(d.take 2).map vn:=by rw[show(2:Int)=((2:Nat):Int) from rfl,aP _ (by rw[aj];omega),<-xb]
 rw[c2];have h1:=kA (H:=H2) (a:=p1) (o:=.tup ((d.take 2).map vn));have I:=kC n1 (.tup ((d.take 2).map vn));refine⟨p1,_,rfl,.inr (SqT.of h1),λ D m1=>⟨yS1,λ g ng=>?_⟩⟩;have gq:=kC m1 (.lst ((d.take 2).map vn));have gg:=kC ng (.lst [.ref D]);have hq:=gg _ _ (kA (H:=upd H2 p1 (.tup ((d.take 2).map vn))) (a:=D) (o:=.lst ((d.take 2).map vn)));have hg:=kA (H:=upd (upd H2 p1 (.tup ((d.take 2).map vn))) D (.lst ((d.take 2).map vn))) (a:=g) (o:=.lst [.ref D]);have Y:=I.trans (gq.trans gg);have nq:H2 D=none:=I.free m1;have a5:H2 g=none:=(I.trans gq).free ng;have bm:=Y _ _ hf;have G3:=G2.kept Y;have g3:=g2.trans Y;have b8:H g=none:=g2.free a5;have fg:f≠g:=kP hf a5;have qf:D≠f:=(kP hf nq).symm
 have qg:D≠g:=λ z=>by
  rw[<-z]at ng;rw[kA]at ng;cases ng
 generalize upd (upd (upd H2 p1 (.tup ((d.take 2).map vn))) D (.lst ((d.take 2).map vn))) g (.lst [.ref D])=H3 at *
 have t2:d.take 2=[a,b]:=by
  obtain⟨q0,b5,_⟩:=l
  match d,q0,b5 with
  | x::y::d,e1,e2 =>
   have e1:x=a:=by simpa using e1
   have e2:y=b:=by simpa using e2
   rw[e1,e2]
   rfl
 have a3:Top W (d.take 2) (d.take 2):=by
  rw[t2];refine⟨?_,λ x J=>J,λ x y ad=>?_⟩
  ·have:=(G.tr.nb.e G.ab).2.2
   simp[this.symm]
  ·rcases ad with⟨rfl,rfl⟩ | z
   ·exact G.ab
   ·exact absurd z id
 refine⟨_,rfl,o,_,rfl,.inr (SqT.of G3.ord),2,_,rfl,⟨by omega,by omega,(by rw[aj];omega),(by rw[aj];omega)⟩,?_⟩
 refine zN (lo:=2) (n:=((((d.map vn).length:Nat):Int)-2).toNat) (λ i σ O=>∃(x5 x6:Option V)(C N:List av)(fs m:List (List Nat)),σ=[some (.ref w),some (.ref z),some (.ref o),some (.ref f),some (.ref g),x5,x6]/\Same H O/\goF W d i=some (fs,m)/\fs.length=i/\m.length=i+1/\Top W (d.take (i+2)) (m.getLastD [])/\LsAt O f C fs/\LsAt O g N m/\(∀ x∈C,x≠f/\x≠g)/\∀ x∈N,x≠f/\x≠g)
  ⟨none,none,[],[D],[],[d.take 2],rfl,g3,rfl,rfl,rfl,a3,⟨bm,rfl,λ i b Z e=>by simp at e⟩,(by
   exact⟨hg,rfl,λ i b Z e1 e2=>by
    match i with
    | 0=>cases e1;cases e2;exact hq
    | i+1=>simp at e1⟩),(λ x J=>by cases J),(λ x J=>by rw[cg.mp J];exact⟨qf,qg⟩)⟩ ?_ ?_
 ·rintro i σ O hi ⟨x5,x6,C,N,fs,m,rfl,g4,go,a0,v,tp,lf,lg,af,ag⟩
  rw[aj]at hi;have hi:i+2<W.length:=by omega
  have G4:=G.kept g4;have ac:m≠[]:=λ z=>by rw[z]at v;cases v
  have b9:m=m.dropLast++[m.getLastD []]:=by
   rw[iS,eo ac];exact(eK ac).symm
  obtain⟨bc,gl,ah,bn⟩:=LsAt.tail (by rw[<-b9];exact lg);have L:O g=some (.lst (bc.map V.ref++[.ref gl])):=by rw[lg.top,ah,cu];rfl
  have b3:d.getD (i+2) 0∉d.take (i+2):=by
   rw[ao,ae (by omega)];intro h;obtain⟨j,hj,e⟩:=eO.mp h;rw[dq]at hj;rw[AU]at e;have:=(AH aw).mp e;omega
  have bl:d.take (i+1+2)=d.take (i+2)++[d.getD (i+2) 0]:=by
   rw[show i+1+2=i+2+1 by omega,jd,ao,ae (show i+2<d.length by omega)]
   rfl
  have M:(m.getLastD []).length<=42:=by
   have:=tp.len;rw[dq]at this;omega
  have b4:d.getD (i+2) 0<W.length:=by
   rw[ao,ae (by omega)];exact iP.mp (G.perm.mem_iff.mp (iR _))
  have U:(2+(i:Int))=((i+2:Nat):Int):=by omega
  have cA:yD (d.map vn) none (some (2+(i:Int)))=(d.take (i+2)).map vn:=by rw[U,aP _ (by rw[aj];omega),<-xb]
  have a7:atI (d.map vn) (2+(i:Int))=some (vn (d.getD (i+2) 0)):=by
   rw[U];refine qP ?_;rw[bb,ao,ae (by omega)]
   rfl
  refine⟨_,rfl,_,rfl,_,rfl,g,_,_,_,rfl,rfl,SqL.of L,zC _ _,_,rfl,_,rfl,_,rfl,o,_,rfl,SqT.of G4.ord,?_,λ p np=>?_⟩
  ·rintro⟨_,z⟩
   rw[U,kKU (by rw[aj];omega),aj]at z;omega
  rw[cA];have I:=kC np (.tup ((d.take (i+2)).map vn));have hp:=kA (H:=O) (a:=p) (o:=.tup ((d.take (i+2)).map vn));have G5:=G4.kept I;have S:=I _ _ bn;have a4:=lf.kept I;have am:=lg.kept I;have a1:=I _ _ L;have g5:=g4.trans I;generalize upd O p (.tup ((d.take (i+2)).map vn))=H5 at *;refine⟨_,rfl,_,rfl,o,_,_,_,rfl,rfl,SqT.of G5.ord,a7,w,gl,p,W,m.getLastD [],d.take (i+2),d.getD (i+2) 0,rfl,G5.web,G.tr,S,hp,M,(by rw[dq];omega),b4,tp.nd,tp.path,(λ no H6 g6=>?_),λ st a8 s H6 g6 ns hs=>?_⟩
  ·refine⟨_,rfl,rfl,_,rfl,wQ (kn ?_ _ (g5.trans g6))⟩
   have:=bU (mI go no) (d.length-2-(i+1));rwa[show i+1+(d.length-2-(i+1))=d.length-2 by omega]at this
  obtain⟨bt,sub,ne,_⟩:=tp.step G.tr.nb.sym b3 a8;have ay:=aN go a8;have b0:=g5.trans g6;have a2:=a4.kept g6;have b1:=am.kept g6;have sf:s≠f:=(kP a4.top ns).symm;have sg:s≠g:=(kP am.top ns).symm;have ax:C.length=i:=by rw[lf.len,a0]
  have b2:N.length=i+1:=by rw[lg.len,v]
  refine⟨_,rfl,rfl,_,rfl,yC ?_⟩;refine⟨_,rfl,.inl ⟨rfl,_,SqL.of a2.top⟩,_,rfl,f,_,_,rfl,rfl,a2.top,(by rw[aj,ax];exact kQ (by omega)),?_⟩;have aq:=a2.app hs (λ z=>(af f z).1 rfl) sf;have other:∀ b u,b≠f->H6 b=some u->upd H6 f (.lst (C.map V.ref++[.ref s])) b=some u:=λ b u n e=>by rw[kL n];exact e
  have ap:LsAt (upd H6 f (.lst (C.map V.ref++[.ref s]))) g N m:=b1.but λ b u T e=>other b u (by
   rcases T with rfl | T
   ·exact fg.symm
   ·exact(ag b T).1) e
  have bv:=other s _ sf hs;have al:Same H (upd H6 f (.lst (C.map V.ref++[.ref s]))):=kZ br b0;have ba:gl≠f:=(ag gl (by rw[ah];simp)).1;have an:=other gl _ ba (g6 _ _ S);have r:=other g _ fg.symm (g6 _ _ a1);generalize upd H6 f (.lst (C.map V.ref++[.ref s]))=H7 at *;have G7:=G.kept al;refine⟨_,rfl,.inl ⟨rfl,_,SqL.of r⟩,_,rfl,_,rfl,g,_,_,_,rfl,rfl,SqL.of r,zC _ _,_,rfl,_,rfl,_,rfl,o,_,_,_,rfl,rfl,SqT.of G7.ord,a7,gl,s,m.getLastD [],st,d.getD (i+2) 0,rfl,an,bv,ne,sub,M,λ s' H8 g8 aa bo=>?_⟩;have bi:=aq.kept g8;have a9:=ap.kept g8;have b7:s'≠f:=(kP aq.top aa).symm;have a6:s'≠g:=(kP ap.top aa).symm;refine⟨g,_,_,rfl,rfl,a9.top,(by rw[aj,b2];exact kQ (by omega)),?_⟩;have as:=a9.app bo (λ z=>(ag g z).2 rfl) a6;refine⟨_,_,C++[s],N++[s'],_,_,rfl,kZ b8 (al.trans g8),ay,(by simp[a0]),(by simp[v]),(by rw[bP,bl];exact bt),bi.but λ b u T e=>?_,as,λ x J=>?_,λ x J=>?_⟩
  ·have:b≠g:=by
    rcases T with rfl | T
    ·exact fg
    ·rcases bz.mp T with q | q
     ·exact(af b q).2
     ·rw[cg.mp q];exact sg
   rw[kL this];exact e
  ·rcases bz.mp J with q | q
   ·exact af x q
   ·rw[cg.mp q];exact⟨sf,sg⟩
  ·rcases bz.mp J with q | q
   ·exact ag x q
   ·rw[cg.mp q];exact⟨b7,a6⟩
 ·rintro σ O ⟨x5,x6,C,N,fs,m,rfl,g4,go,a0,v,tp,lf,lg,af,ag⟩
  have en:((((d.map vn).length:Nat):Int)-2).toNat=d.length-2:=by rw[aj];omega
  rw[en]at go;refine⟨_,rfl,_,rfl,yS2,λ t nt=>?_⟩;have gt:=kC nt (.tup [.ref f,.ref g]);exact k fs m go t f g C N _ (g4.trans gt) kA (lf.kept gt) (lg.kept gt)
end
section
inductive kES(vs:List V)(H:Hp)(Q:VK)(Y:XK):Prop
 | mk:∀(w z o:av)(W:Rows)(ms:List Nat)(a b c:Nat)(Fs Ts:List (List Nat)),(vs=[.ref w,.ref z,.ref o])->(Gw H w z o W ms a b c)->((Tri.E W a c/\(nxt W (a,c)).2=b))->(jR W a b c ms=some (Fs,Ts))->(∀(t f g:av)(fa ga:List av)(H':Hp),Same H H'->H' t=some (.tup [.ref f,.ref g])->LsAt H' f fa Fs->LsAt H' g ga Ts->Q (.ref t) H')->kES vs H Q Y
def vS(B:Fx):Hs "must_be_laid" ["web","base","order"] 7 (kES):=by
 refine qO B.X B.d17 fE λ f L A i O H S Q E x m h=>?_;obtain⟨w,z,o,W,u,a,b,c,r,D,rfl,G,d,p,k⟩:=h
 refine⟨_,(kH (qR (pf (bF B) m (p2 (pv 0) (pv 1))))
   (kH (pst 3 x (pf (kPH B) m (kE (pv 0) (kE (pv 1) (kE (pv 2) kU)))))
   (kH (yM (qG kLR (pv 3) vG (jA _)) (kJ fO) jD)
   (kJ (kW (pv 3)))))),?_⟩
 try dsimp only[qX]
 refine⟨_,rfl,_,rfl,w,z,W,a,b,c,rfl,G.web,G.tr,G.base,d.1,d.2,λ N q=>?_⟩;refine⟨_,rfl,_,rfl,_,rfl,w,z,o,W,u,a,b,c,rfl,G.kept q,(λ n=>by rw[p]at n;cases n),λ l j e t f g s M I C y v J=>?_⟩;rw[p]at e;obtain⟨rfl,rfl⟩ : r=l/\D=j:=by injection e with e;injection e with e1 e2;exact⟨e1,e2⟩
 refine⟨_,rfl,rfl,_,rfl,yC ?_⟩;exact⟨_,rfl,k t f g s M I (q.trans C) y v J⟩
end
section
def SpK(S:List (Nat×Int×Int))(ts:List av):List (Key×V):=(S.zip ts).map λ q=>(gw (q.1.1:Int),V.ref q.2)
structure SpAt(H:Hp)(d:av)(S:List (Nat×Int×Int))(ts:List av):Prop where
 len:ts.length=S.length
 row:∀(i:Nat)(t:av)(s:Nat×Int×Int),ts[i]?=some t->S[i]?=some s->H t=some (.tup [.int s.2.1,.int s.2.2])
def kVT(H:Hp)(d:av)(U:Nat->Option (List Nat)):Prop:=∃ a,H d=some (.dK a)/\∀ p l,U p=some l->∃ b,jS a (gw (p:Int))=some (.ref b)/\H b=some (.lst (l.map vn))
theorem pV{c:Nat}:∀{l:List Nat},(∀ x∈l,x<=c)->l.sum<=c*l.length
 | [],_=>iH _
 | x::l,h=>by
  have h1:=h x (eP ..);have b:=pV (l:=l) λ y a=>h y (du _ a);rw[Ap,iJ,Nat.mul_add];omega
inductive kEQ(vs:List V)(H:Hp)(Q:VK)(Y:XK):Prop
 | mk:∀(d h q:av)(S:List (Nat×Int×Int))(ts:List av)(U:Nat->Option (List Nat))(ps:List Nat)(by':Int),(vs=[.ref d,.ref h,.ref q,.int by'])->(H d=some (.dK (SpK S ts)))->(SpAt H d S ts)->(kVT H h U)->(H q=some (.lst (ps.map vn)))->((∀ p∈ps,(U p).isSome))->(ps.length<=42)->((∀ p l,U p=some l->l.length<=42))->(S.length<=42)->((S.map (·.1)).Nodup)->(∀(d':av)(ts':List av)(H':Hp),(∀ b o,b≠d->H b=some o->H' b=some o)->(∃ o,H' d=some (.frz o (.dK (SpK S ts))))->H d'=none->H' d'=some (.dK (SpK (mvS S (ps.flatMap λ p=>(U p).getD []) by') ts'))->SpAt H' d' (mvS S (ps.flatMap λ p=>(U p).getD []) by') ts'->Q (.ref d') H')->kEQ vs H Q Y
def uJ(B:Fx):Hs "moved_right" ["spots","hung","places","by"] 1 (kEQ):=by
 refine qO B.X B.d18 gO λ f ay A am s0 H vs Q E nN hr h=>?_;obtain⟨d,h,q,S,O,U,ps,m,rfl,hd,sp,hu,hq,g,ax,ul,aw,nd,k⟩:=h
 refine⟨_,(kH (pst 4 nN (rO (Nc:=["p","q","hung"]) (js:=[none,none,some 1]) rfl rfl (xW (pv 2)) (CS.of rfl rfl) rfl (λ C n I fp r=>(pgc 0)) (λ C n I fp r=>(show PI _ _ _ (kMP K _) from(xW (bE (wU hr) (pv 2) (pv 0) (λ _ _=>rfl))))) (λ C n I fp r=>(pgc 1)) (λ C n I fp r D L=>(qF (qV (pv 1))))))
   (kJ (kW (kFM (Nc:=["p","x","y","gone","by"]) (js:=[none,none,none,some 4,some 3]) rfl rfl (kAL (pv 0)) (CS.of rfl rfl) rfl (λ C n I fp r=>(show PG _ _ (aO K 2 _) from qW rfl (kN (jT (i:=0) (show tz (α:=Str) ["p","x","y","gone","by"] by decide +kernel) rfl (ui rfl)) (kN (show PG _ _ (aO K 2 _) from qW rfl (kN (jT (i:=1) (show tz (α:=Str) ["p","x","y","gone","by"] by decide +kernel) rfl (ui rfl)) (kN (jT (i:=2) (show tz (α:=Str) ["p","x","y","gone","by"] by decide +kernel) rfl (ui rfl)) qM))) qM)))) (λ C n I fp r D L=>(qF (fP (wU hr) (pv 0) (kAM (qG (show OpR _ _ (rIn K false) from zM) (pv 0) (pv 3) rfl) (qS (p2 (kY xL (pv 1) (pv 4)) (pv 2))) (qS (p2 (pv 1) (pv 2))))))))))),?_⟩
 try dsimp only[qX]
 obtain⟨hk,h1,h2⟩:=id hu;refine⟨_,rfl,q,rfl,⟨_,SqL.of hq⟩,λ D nD=>?_⟩;refine jN (xs:=ps.map vn) (λ i N Y=>∃(x0 M:Option V),N=[x0,M,some (.ref h)]/\Same H Y/\Y D=some (.lst (((ps.take i).flatMap λ p=>(U p).getD []).map vn))) ⟨none,none,rfl,kC nD _,kA⟩ ?_ ?_ ?_
 ·rintro i N Y _ ⟨x0,M,rfl,g2,_⟩
  exact SqL.of (g2 _ _ hq)
 ·rintro i v N Y hv ⟨x0,M,rfl,g2,hD⟩
  rw[bb]at hv;obtain⟨p,ep,rfl⟩:=bp.mp hv;obtain⟨l,el⟩:=zj.mp (g p (dh ep));obtain⟨b,vb,hb⟩:=h2 p l el;have hi:=(ak.mp ep).1
  have pl:((ps.take i).flatMap λ p=>(U p).getD []).length<=42*i:=by
   rw[wk];refine jt (pV (c:=42) λ x hx=>?_) (by rw[aj,dq];exact DK 42 (Nat.min_le_left _ _));obtain⟨y,_,rfl⟩:=fe.mp hx
   cases e:U y with
   | none=>simp
   | some l'=>exact ul y l' e
  have ll:=ul p l el
  have dg:DGet Y h (vn p) (some (.ref b)):=by
   have:=DGet.k (k:=gw (p:Int)) (g2 _ _ h1);rw[vb]at this;exact this
  refine⟨_,rfl,_,rfl,h,_,rfl,dg,b,rfl,⟨_,SqL.of (g2 _ _ hb)⟩,?_⟩
  have tk:((ps.take (i+1)).flatMap λ p=>(U p).getD [])=((ps.take i).flatMap λ p=>(U p).getD [])++l:=by
   rw[jd,ep,rh,qi,xu,el]
   rfl
  rw[tk];generalize((ps.take i).flatMap λ p=>(U p).getD [])=G0 at *;refine jN (xs:=l.map vn) (λ j N H3=>∃(M:Option V),N=[some (vn p),M,some (.ref h)]/\Same H H3/\H3 D=some (.lst ((G0++l.take j).map vn))) ⟨_,rfl,g2,by rw[CM,iq];exact hD⟩ ?_ ?_ ?_
  ·rintro j N H3 _ ⟨M,rfl,g3,_⟩
   exact SqL.of (g3 _ _ hb)
  ·rintro j v N H3 hv ⟨M,rfl,g3,a3⟩
   rw[bb]at hv;obtain⟨y,ey,rfl⟩:=bp.mp hv;have hj:=(ak.mp ey).1;refine⟨_,rfl,_,a3,(by rw[aj,bu,dq];exact xM (by omega)),?_⟩;refine⟨_,rfl,kZ nD g3,?_⟩;rw[jd,ey,rh,<-di,cu (l₂:=[y])];exact kA
  ·rintro N H3 ⟨M,rfl,g3,a3⟩
   rw[aj,iL]at a3;exact⟨_,_,rfl,g3,a3⟩
 rintro N Y ⟨x0,M,rfl,g2,hD⟩;rw[aj,iL]at hD;generalize(ps.flatMap λ p=>(U p).getD [])=G at *;have ab:=g2 _ _ hd;have Dd:D≠d:=λ z=>by rw[z,ab]at hD;cases hD
 refine⟨_,rfl,d,_,rfl,.inl ⟨ab,λ o=>?_⟩⟩;have al:upd Y d (.frz o (.dK (SpK S O))) D=some (.lst (G.map vn)):=by rw[kL Dd];exact hD
 have f2:∀ b u,b≠d->H b=some u->upd Y d (.frz o (.dK (SpK S O))) b=some u:=λ b u nb e=>by rw[kL nb];exact g2 _ _ e
 have fz:=kA (H:=Y) (a:=d) (o:=.frz o (.dK (SpK S O)))
 have free:∀ b,upd Y d (.frz o (.dK (SpK S O))) b=none->H b=none:=λ b hb=>by
  cases e:H b with
  | none=>rfl
  | some u =>
   by_cases z:b=d
   ·rw[z,fz]at hb
    cases hb
   ·rw[f2 b u z e]at hb
    cases hb
 generalize upd Y d (.frz o (.dK (SpK S O)))=H3 at *;refine λ J a9=>?_;have lS:=sp.len;have lK:(SpK S O).length=S.length:=by unfold SpK;rw[aj,An];omega
 refine fW (kvs:=SpK S O) (λ i N H4=>∃(x0 M x2:Option V)(g:List av),N=[x0,M,x2,some (.ref D),some (.int m)]/\Same H3 H4/\H4 J=some (.dK (SpK (mvS (S.take i) G m) g))/\SpAt H4 J (mvS (S.take i) G m) g) ⟨none,none,none,[],rfl,kC a9 _,kA,⟨rfl,λ i t s e=>by simp at e⟩⟩ ?_ ?_ ?_
 ·rintro i N H4 _ ⟨x0,M,x2,g,rfl,g4,_⟩
  exact g4 _ _ fz
 ·rintro i kv T N H4 a4 nT ⟨x0,M,x2,g,rfl,g4,hE,se⟩
  obtain⟨i1,i2,i3⟩ : ∃(i1:i<S.length)(i2:i<O.length),kv=(gw (S[i].1:Int),V.ref O[i]):=by
   have hi:=(ak.mp a4).1;rw[lK]at hi;refine⟨hi,by omega,?_⟩;unfold SpK at a4;rw[bb,kj (z:=(S[i],O[i]'(by omega))) |>.mpr ⟨ae _,ae _⟩]at a4;exact(bh a4).symm
  subst i3;have eS:=ae i1;have a8:=sp.row i _ _ (ae i2) eS;have td:O[i]≠d:=λ z=>by rw[z,hd]at a8;cases a8
  have aq:=g4 _ _ (f2 _ _ td a8)
  have a7:∀ kv∈SpK (mvS (S.take i) G m) g,kv.1≠gw (S[i].1:Int):=λ kv hk z=>by
   obtain⟨⟨a1,a2⟩,hz,rfl⟩:=fe.mp hk;have hm:=(zx hz).1;obtain⟨s',as,e'⟩:=fe.mp hm;have e1:a1.1=s'.1:=by rw[<-e'];split<;>rfl
   have z':(gw (a1.1:Int):Key)=gw (S[i].1:Int):=z
   have Z:s'.1=S[i].1:=by
    have:=AG z';rw[<-e1];exact Int.ofNat.inj this
   obtain⟨j,hj,rfl⟩:=eO.mp as
   have ap:j<i:=by
    have:=hj;rw[dq]at this;omega
   rw[AU]at Z;have:=qb.mp nd j i (by rw[aj];omega) (by rw[aj];exact i1) ap;rw[yz,yz]at this;exact this Z
  have a0:mvS (S.take (i+1)) G m=mvS (S.take i) G m++[if S[i].1∈G then(S[i].1,S[i].2.1+m,S[i].2.2) else S[i]]:=by
   unfold mvS;rw[jd,eS,rh,cu]
   rfl
  have lm:(mvS (S.take i) G m).length=i:=by unfold mvS;rw[aj,dq];omega
  generalize S[i]=sv at *;obtain⟨p,x,y⟩:=sv;generalize O[i]=t at *;have gT:=kC nT (.tup [kV (gw (p:Int)),V.ref t]);have hT:=kA (H:=H4) (a:=T) (o:=.tup [kV (gw (p:Int)),V.ref t]);have ah:=gT _ _ aq;have af:=gT _ _ hE;have g5:=g4.trans gT;have a5:SpAt (upd H4 T (.tup [kV (gw (p:Int)),V.ref t])) J (mvS (S.take i) G m) g:=⟨se.len,λ j t' s' e1 Z=>gT _ _ (se.row j t' s' e1 Z)⟩;refine⟨T,_,rfl,SqT.of hT,rfl,_,_,rfl,_,_,rfl,t,_,rfl,SqT.of ah,rfl,_,_,rfl,_,_,rfl,rfl,?_⟩;generalize upd H4 T (.tup [kV (gw (p:Int)),V.ref t])=H5 at *;have an:=g5 _ _ al;have d2:∀ b u,b≠J->∀ z,H5 b=some u->upd H5 J z b=some u:=λ b u nb z e=>by rw[kL nb];exact e
  have put:∀(q:av)(H6:Hp)(s':Nat×Int×Int),Same H5 H6->s'.1=p->H6 q=some (.tup [.int s'.2.1,.int s'.2.2])->mvS (S.take (i+1)) G m=mvS (S.take i) G m++[s'] ->
    DPut H6 J (kV (gw (p:Int))) (.ref q) (upd H6 J (.dK (xC (SpK (mvS (S.take i) G m) g) (gw (p:Int)) (.ref q))))/\Same H3 (upd H6 J (.dK (xC (SpK (mvS (S.take i) G m) g) (gw (p:Int)) (.ref q)))) /\
    upd H6 J (.dK (xC (SpK (mvS (S.take i) G m) g) (gw (p:Int)) (.ref q))) J=some (.dK (SpK (mvS (S.take (i+1)) G m) (g++[q])))/\SpAt (upd H6 J (.dK (xC (SpK (mvS (S.take i) G m) g) (gw (p:Int)) (.ref q)))) J (mvS (S.take (i+1)) G m) (g++[q]):=by
   intro q H6 s' g6 e1 ag ek;have aa:=g6 _ _ af;have lu:g.length=i:=by rw[a5.len,lm]
   have lz:(SpK (mvS (S.take i) G m) g).length=i:=by unfold SpK;rw[aj,An,lm,lu];omega
   have a6:jS (SpK (mvS (S.take i) G m) g) (gw (p:Int))=none:=by
    unfold jS;rw[Cf,Bg];intro kv hk;have:=a7 kv hk;simpa using this
   have ke:SpK (mvS (S.take (i+1)) G m) (g++[q])=xC (SpK (mvS (S.take i) G m) g) (gw (p:Int)) (.ref q):=by
    rw[kAK _ a6,ek];unfold SpK;rw[Ee (by rw[lm,lu]),cu,<-e1]
    rfl
   refine⟨DPut.k (k:=gw (p:Int)) aa (by rw[lz];exact kQ (by omega)),kZ a9 (g5.trans g6),by rw[kA,ke],⟨by rw[ek,bu,bu,a5.len];rfl,λ j t' ac Z e3=>?_⟩⟩
   have st:∀(b:av)(xs:List V),H6 b=some (.tup xs)->upd H6 J (.dK (xC (SpK (mvS (S.take i) G m) g) (gw (p:Int)) (.ref q))) b=some (.tup xs):=λ b xs e=>by
    rw[kL λ z=>by rw[z,aa]at e;cases e];exact e
   rw[ek]at e3;by_cases hj:j<g.length
   ·rw[bq hj]at Z
    rw[bq (by rw[lm];omega)]at e3;exact st _ _ (g6 _ _ (a5.row j t' ac Z e3))
   ·have ej:j=g.length:=by
     have:=(ak.mp Z).1;rw[bu,fj]at this;omega
    rw[ej,dr]at Z;rw[ej,a5.len,dr]at e3;cases Z
    cases e3
    exact st _ _ ag
  refine⟨rfl,_,rfl,_,rfl,_,rfl,D,_,rfl,.inl (SqL.of an),rfl,yY _,_,rfl,?_⟩;rw[show kV (gw (p:Int))=vn p from rfl,wC];by_cases c:p∈G
  ·rw[decide_eq_true c]
   rw[if_pos c]at a0;refine wQ ⟨_,rfl,_,rfl,_,_,rfl,rfl,_,rfl,yS2,λ q nq=>?_⟩;obtain⟨p1,p2,p3,p4⟩:=put q _ (p,x+m,y) (kC nq _) rfl kA a0;exact⟨_,p1,_,_,_,_,rfl,p2,p3,p4⟩
  ·rw[decide_eq_false c]
   rw[if_neg c]at a0;refine yC ⟨_,rfl,_,rfl,yS2,λ q nq=>?_⟩;obtain⟨p1,p2,p3,p4⟩:=put q _ (p,x,y) (kC nq _) rfl kA a0;exact⟨_,p1,_,_,_,_,rfl,p2,p3,p4⟩
 ·rintro N H4 ⟨x0,M,x2,g,rfl,g4,hE,se⟩
  rw[lK,iL]at hE se;exact k J g H4 (λ b u nb e=>g4 _ _ (f2 b u nb e)) ⟨o,g4 _ _ fz⟩ (free J a9) hE se
end
section
def SpAt.get{H:Hp}{d:av}{p:Nat}:∀{S:List (Nat×Int×Int)}{ts:List av},SpAt H d S ts->p∈S.map (·.1)->∃ t,jS (SpK S ts) (gw (p:Int))=some (.ref t)/\H t=some (.tup [.int (atS S p).1,.int (atS S p).2]):=by
 intro S
 induction S with
 | nil=>intro ts _ h;cases h
 | cons s S ih =>
  intro ts a h
  match ts,a with
  | [],a=>exact absurd a.len (by simp)
  | t::ts,a =>
   have f:SpK (s::S) (t::ts)=(gw (s.1:Int),V.ref t)::SpK S ts:=rfl;by_cases c:s.1=p
   ·refine⟨t,?_,?_⟩
    ·rw[f]
     exact jO (by show(gw (s.1:Int):Key)=_;rw[c])
    ·have b:atS (s::S) p=s.2:=by
      unfold atS;rw[List.find?_cons_of_pos (by simpa using c)]
      rfl
     rw[b];exact a.row 0 t s rfl rfl
   ·have n:p∈S.map (·.1):=by
     rcases eA.mp h with q | q
     ·exact absurd q.symm c
     ·exact q
    obtain⟨j,h1,g⟩:=ih (ts:=ts) ⟨by have:=a.len;simpa using this,λ i t s m l=>a.row (i+1) t s (by simpa using m) (by simpa using l)⟩ n;refine⟨j,?_,?_⟩
    ·rw[f,jP (by
      show ¬ (gw (s.1:Int):Key)=gw (p:Int);intro q;have:=AG q;exact c (by omega))]
     exact h1
    ·have b:atS (s::S) p=atS S p:=by
      unfold atS;rw[List.find?_cons_of_neg (by simpa using c)]
     rw[b];exact g
inductive kKG(vs:List V)(H:Hp)(Q:VK)(Y:XK):Prop
 | mk:∀(a b:av)(l r:Int×Int),(vs=[.ref a,.ref b])->(H a=some (.tup [.int l.1,.int l.2]))->(H b=some (.tup [.int r.1,.int r.2]))->(∀(t:av)(H':Hp),Same H H'->H t=none->H' t=some (.tup [.int (ovr l r).1,.int (ovr l r).2])->Q (.ref t) H')->kKG vs H Q Y
def rR(B:Fx):Hs "spot_over" ["left","right"] 1 (kKG):=by
 refine qO B.X B.d19 pY λ f j A d p H q Q E c o h=>?_;obtain⟨a,b,l,r,rfl,i,m,k⟩:=h
 refine⟨_,(kH (yH (pv 0) (qW (n:=2) rfl (kN (pgn 2 c) (kN (pgn 3 c) qM))))
   (kH (yH (pv 1) (qW (n:=2) rfl (kN (pgn 4 c) (kN (pgn 5 c) qM))))
   (kH (pst 6 c (kY kFO (kY yN (kY xL (kY yN (pv 4) (pv 2)) (pv 5)) (pv 3)) kI))
   (kJ (kW (qS (p2 (kY xL (pv 2) (pv 6)) (kY xL (pv 3) (pv 6))))))))),?_⟩
 try dsimp only[qX]
 refine⟨_,rfl,a,_,rfl,SqT.of i,rfl,_,_,rfl,_,_,rfl,rfl,?_⟩;refine⟨_,rfl,b,_,rfl,SqT.of m,rfl,_,_,rfl,_,_,rfl,rfl,?_⟩;refine⟨_,rfl,_,rfl,_,_,rfl,rfl,_,rfl,_,_,rfl,rfl,_,rfl,_,_,rfl,rfl,_,_,rfl,rfl,⟨by decide,by decide⟩,?_⟩;refine⟨_,rfl,_,rfl,_,_,rfl,rfl,_,rfl,_,rfl,_,_,rfl,rfl,yS2,λ t g=>?_⟩;exact k t _ (kC g _) g kA
end
section
def RdS(H:Hp)(d:av)(S:List (Nat×Int×Int)):Prop:=∃ a,Rd H d (.dK (SpK S a))/\SpAt H d S a
def SpAt.to{H H':Hp}{d d':av}{S:List (Nat×Int×Int)}{ts:List av}(x:SpAt H d S ts)(g:∀ b xs,H b=some (.tup xs)->H' b=some (.tup xs)):SpAt H' d' S ts:=⟨x.len,λ i t s c a=>g _ _ (x.row i t s c a)⟩
def RdS.but{H H':Hp}{d x:av}{S:List (Nat×Int×Int)}(r:RdS H d S)(g:∀ b o,b≠x->H b=some o->H' b=some o)(nx:d≠x)(c:∀ xs,H x≠some (.tup xs)):RdS H' d S:=by
 obtain⟨h,f,a⟩:=r;refine⟨h,?_,a.to λ b xs e=>g _ _ (λ z=>c xs (z ▸ e)) e⟩;rcases f with e | ⟨o,e⟩
 ·exact .inl (g _ _ nx e)
 ·exact .inr ⟨o,g _ _ nx e⟩
def RdS.kept{H H':Hp}{d:av}{S:List (Nat×Int×Int)}(r:RdS H d S)(g:Same H H'):RdS H' d S:=by
 obtain⟨c,f,a⟩:=r;refine⟨c,?_,a.to λ b h e=>g _ _ e⟩;rcases f with e | ⟨o,e⟩
 ·exact .inl (g _ _ e)
 ·exact .inr ⟨o,g _ _ e⟩
theorem RdS.frz{H H':Hp}{d x:av}{S:List (Nat×Int×Int)}{kvs:List (Key×V)}(r:RdS H d S)(a:H x=some (.dK kvs))(g:∀ b o,b≠x->H b=some o->H' b=some o)(f:∃ o,H' x=some (.frz o (.dK kvs))):RdS H' d S:=by
 by_cases c:d=x
 ·subst c
  obtain⟨h,l,i⟩:=r
  have m:kvs=SpK S h:=by
   rcases l with e | ⟨o,e⟩
   ·rw[a]at e
    injection e with e
    injection e
   ·rw[a]at e
    cases e
  obtain⟨o,f⟩:=f;refine⟨h,.inr ⟨o,by rw[f,m]⟩,i.to λ b j e=>g _ _ (λ z=>by rw[z,a]at e;cases e) e⟩
 ·exact r.but g c λ j e=>by rw[a]at e;cases e
def SpAt.put{H:Hp}{D q:av}{S:List (Nat×Int×Int)}{ts:List av}{p:Nat}{x y:Int}(m:H D=some (.dK (SpK S ts)))(sp:SpAt H D S ts)(B:p∉S.map (·.1))(l:S.length<=42)(o:H q=some (.tup [.int x,.int y])) :
  DPut H D (vn p) (.ref q) (upd H D (.dK (SpK (S++[(p,x,y)]) (ts++[q]))))/\SpAt (upd H D (.dK (SpK (S++[(p,x,y)]) (ts++[q])))) D (S++[(p,x,y)]) (ts++[q]):=by
 have r:(SpK S ts).length=S.length:=by unfold SpK;rw[aj,An,sp.len];omega
 have a:jS (SpK S ts) (gw (p:Int))=none:=by
  unfold jS;rw[Cf,Bg];intro I C;obtain⟨⟨g,G⟩,A,rfl⟩:=fe.mp C;have u:=(zx A).1;have n:g.1≠p:=λ z=>B (z ▸ fe.mpr ⟨g,u,rfl⟩);have:(gw (g.1:Int):Key)≠gw (p:Int):=λ z=>n (by have:=AG z;omega);simpa using this
 have v:SpK (S++[(p,x,y)]) (ts++[q])=xC (SpK S ts) (gw (p:Int)) (.ref q):=by
  rw[kAK _ a];unfold SpK;rw[Ee sp.len.symm,cu]
  rfl
 refine⟨?_,⟨by rw[bu,bu,sp.len];rfl,λ j t s c d=>?_⟩⟩
 ·rw[v]
  exact DPut.k (k:=gw (p:Int)) m (by rw[r];exact kQ (by omega))
 ·have st:∀(b:av)(f:List V),H b=some (.tup f)->upd H D (.dK (SpK (S++[(p,x,y)]) (ts++[q]))) b=some (.tup f):=λ b f e=>by
   rw[kL λ z=>by rw[z,m]at e;cases e];exact e
  by_cases i:j<ts.length
  ·rw[bq i]at c
   rw[bq (by rw[<-sp.len];exact i)]at d;exact st _ _ (sp.row j t s c d)
  ·have h:j=ts.length:=by
    have:=(ak.mp c).1;rw[bu,fj]at this;omega
   rw[h,dr]at c;rw[h,sp.len,dr]at d;cases c
   cases d
   exact st _ _ o
def kOV(kvs:List (Key×V))(k:Key)(v:V):(xC kvs k v).length<=kvs.length+1:=by
 unfold xC
 split<;>simp
def HuN(H:Hp)(d:av)(U:Nat->Option (List Nat))(n:Nat):Prop:=∃ a,H d=some (.dK a)/\a.length<=n/\∀ p l,U p=some l->∃ b,jS a (gw (p:Int))=some (.ref b)/\H b=some (.lst (l.map vn))
def HuN.at{H:Hp}{d:av}{U:Nat->Option (List Nat)}{n:Nat}(h:HuN H d U n):kVT H d U:=by
 obtain⟨a,e,_,k⟩:=h;exact⟨a,e,k⟩
def HuN.but{H H':Hp}{h x:av}{U:Nat->Option (List Nat)}{n:Nat}(r:HuN H h U n)(g:∀ b o,b≠x->H b=some o->H' b=some o)(nx:h≠x)(d:∀ l:List Nat,H x≠some (.lst (l.map vn))):HuN H' h U n:=by
 obtain⟨a,e,le,k⟩:=r;refine⟨a,g _ _ nx e,le,λ p l q=>?_⟩;obtain⟨b,h1,c⟩:=k p l q;exact⟨b,h1,g _ _ (λ z=>d l (z ▸ c)) c⟩
def HuN.kept{H H':Hp}{h:av}{U:Nat->Option (List Nat)}{n:Nat}(r:HuN H h U n)(g:Same H H'):HuN H' h U n:=by
 obtain⟨a,e,le,k⟩:=r;refine⟨a,g _ _ e,le,λ p l q=>?_⟩;obtain⟨b,h1,c⟩:=k p l q;exact⟨b,h1,g _ _ c⟩
def HuN.put{H:Hp}{h b:av}{U U':Nat->Option (List Nat)}{n v:Nat}{l:List Nat}(r:HuN H h U n)(y:n<=42)(u:H b=some (.lst (l.map vn)))(i:∀ p l',U' p=some l'->(p=v/\l'=l)\/(p≠v/\U p=some l')):∃ H',DPut H h (vn v) (.ref b) H'/\(∀ c o,c≠h->H c=some o->H' c=some o)/\(∀ c,c≠h->H' c=H c)/\HuN H' h U' (n+1):=by
 obtain⟨a,e,le,k⟩:=r
 have st:∀(x:av)(d:List V),H x=some (.lst d)->upd H h (.dK (xC a (gw (v:Int)) (.ref b))) x=some (.lst d):=λ x d g=>by
  rw[kL λ z=>by rw[z,e]at g;cases g];exact g
 refine⟨_,DPut.k (k:=gw (v:Int)) e (kQ (by omega)),λ c o f s=>by rw[kL f];exact s,λ c f=>kL f,_,kA,?_,λ p l' q=>?_⟩
 ·have:=kOV a (gw (v:Int)) (V.ref b)
  omega
 rw[fY];by_cases c:p=v
 ·rw[if_pos (by rw[c])]
  rcases i p l' q with⟨_,rfl⟩ | q
  ·exact⟨b,rfl,st _ _ u⟩
  ·exact absurd c q.1
 ·rw[if_neg (λ q=>c (by have:=AG q;omega))]
  rcases i p l' q with⟨z,_⟩ | q
  ·exact absurd z c
  ·obtain⟨j,h1,m⟩:=k p l' q.2
   exact⟨j,h1,st _ _ m⟩
def uM(a:List Nat)(i:Nat)(V:Nat->List Nat):Nat->Option (List Nat):=λ p=>if p∈a.take (i+2) then some (V p) else none
def vZ{H X a:Hp}{x:av}(s:Same H X)(g:∀ b o,b≠x->X b=some o->a b=some o)(f:H x=none):Same H a:=λ b o e=>g b o (λ z=>by rw[z,f]at e;cases e) (s b o e)
def kNK{f l:Nat}{M:List Nat}:yD ((f::M++[l]).map vn) (some 1) (some (-1))=M.map vn:=by
 unfold yD
 have b:HT.sIx ((f::M++[l]).map vn).length 0 (some 1)=1:=by
  rw[show(1:Int)=((1:Nat):Int) from rfl,HT.sIx_nat];simp
 have a:HT.sIx ((f::M++[l]).map vn).length ((f::M++[l]).map vn).length (some (-1))=M.length+1:=by
  show(if(-1:Int)<0 then((-1:Int)+((((f::M++[l]).map vn).length:Nat):Int)).toNat else min (-1:Int).toNat (((f::M++[l]).map vn).length))=_;rw[if_pos (by decide)];simp only[aj,bu,iJ,yo];omega
 rw[b,a];simp
def xZ{a:List Nat}{i:Nat}{V:Nat->List Nat}{p:Nat}(h:p∈a.take (i+2)):uM a i V p=some (V p):=by
 unfold uM;rw[if_pos h]
def dS{a:List Nat}{i:Nat}{V:Nat->List Nat}{M:List Nat}(h:∀ p∈M,p∈a.take (i+2)):(M.flatMap λ p=>(uM a i V p).getD [])=M.flatMap V:=by
 show(M.map _).flatten=(M.map _).flatten
 congr 1
 refine um λ p hp=>?_;rw[xZ (h p hp)]
 rfl
structure GOk(ms:List Nat)(Fs Ts:List (List Nat)):Prop where
 lm:ms.length=Fs.length+2
 lt:Ts.length=Fs.length+1
 le:ms.length<=42
 nd:ms.Nodup
 step:∀ i F T,Fs[i]?=some F->Ts[i]?=some T->∃ f M l,F=f::M++[l]/\F.length<=42/\(∀ x∈F,x∈T)/\(∀ x∈T,x∈ms.take (i+2))/\T.Nodup
 inv:∀ i,i<=Fs.length->GI ms Ts i (gF ms Fs Ts i).1 (gF ms Fs Ts i).2
structure GrI(H0 H:Hp)(sp hu td:av)(ds:List av)(ms:List Nat)(Fs Ts:List (List Nat))(i:Nat):Prop where
 same:Same H0 H
 fs:H0 sp=none
 fh:H0 hu=none
 ft:H0 td=none
 told:H td=some (.lst (ds.map V.ref))
 len:ds.length=i+1
 last:ds[i]?=some sp
 cur:∃ ts,H sp=some (.dK (SpK (gF ms Fs Ts i).1 ts))/\SpAt H sp (gF ms Fs Ts i).1 ts
 old:∀ j d,ds[j]?=some d->RdS H d (gF ms Fs Ts j).1
 hung:HuN H hu (uM ms i (gF ms Fs Ts i).2) (i+2)
 hn:hu∉ds
 fd:∀ d∈ds,H0 d=none
theorem GrI.kept{m H H':Hp}{sp h c:av}{f:List av}{n:List Nat}{a l:List (List Nat)}{i:Nat}(J:GrI m H sp h c f n a l i)(g:Same H H'):GrI m H' sp h c f n a l i:=by
 obtain⟨p,e,o⟩:=J.cur;exact⟨J.same.trans g,J.fs,J.fh,J.ft,g _ _ J.told,J.len,J.last,⟨p,g _ _ e,o.to λ b q e=>g _ _ e⟩,λ j d e=>(J.old j d e).kept g,J.hung.kept g,J.hn,J.fd⟩
inductive tT(vs:List V)(H:Hp)(Q:VK)(Y:XK):Prop
 | mk:∀(o f g:av)(fa ga:List av)(ms:List Nat)(Fs Ts:List (List Nat)),(vs=[.ref o,.ref f,.ref g])->(H o=some (.tup (ms.map vn)))->(LsAt H f fa Fs)->(LsAt H g ga Ts)->(GOk ms Fs Ts)->(∀(td:av)(ds:List av)(H':Hp),Same H H'->H' td=some (.lst (ds.map V.ref))->ds.length=Fs.length+1->(∀ j d,ds[j]?=some d->RdS H' d (gF ms Fs Ts j).1)->(∀ d∈ds,H d=none)->Q (.ref td) H')->tT vs H Q Y
def dR(B:Fx):Hs "grids_by" ["order","found","tops"] 3 (tT):=by
 refine qO B.X B.d20 kAE λ f ek A e7 s0 H vs Q E nN hr h=>?_;obtain⟨o,f,g,fa,ga,m,Fs,Ts,rfl,ho,hf,hg,ok,k⟩:=h
 refine⟨_,(kH (kOW (i:=3) (Nc:=["p"]) (js:=[none]) rfl rfl nN rfl (ui rfl) (yI (qL zU (pv 0) jL (qK kI))) (CS.of rfl rfl) rfl (λ C Y Z fp U=>(pgc 0)) (λ C Y Z fp U D L=>(qF (fP (wU hr) (pv 0) (qS (p2 kI kI))))))
   (kH (pst 4 nN (kFM (Nc:=["p"]) (js:=[none]) rfl rfl (yI (qL zU (pv 0) jL (qK kI))) (CS.of rfl rfl) rfl (λ C Y Z fp U=>(pgc 0)) (λ C Y Z fp U D L=>(qF (fP (wU hr) (pv 0) (jJ (p1 (pv 0))))))))
   (kH (pst 5 nN (jJ (p1 (pv 3))))
   (kH (rK (kOX false true true rfl (B.z B.y13) (kE (qL zU (pv 0) (qK kI) jL) (kE (pv 1) (kE (pv 2) kU)))) (qW (n:=3) rfl (kN (pgn 6 nN) (kN (pgn 7 nN) (kN (pgn 8 nN) qM)))) (kH (pst 9 nN (pix kX (pv 7) (bD vC kI)))
   (kH (pst 3 nN (pf (uJ B) hr (kE (pv 3) (kE (pv 4) (kE (qL yS (pv 7) (qK kI) (qK (bD vC kI))) (kE kI kU))))))
   (kH (pst 3 nN (pf (uJ B) hr (kE (pv 3) (kE (pv 4) (kE (qL yS (pv 8) (qK (jU mf mh zR (pv 8) (p1 (pv 9)))) jL) (kE kI kU))))))
   (kH (kFI (wU hr) (pv 3) (pv 6) (pf (rR B) hr (p2 (bE (wU hr) (pv 3) (pix kX (pv 7) kI) (λ _ _=>rfl)) (bE (wU hr) (pv 3) (pv 9) (λ _ _=>rfl)))) rfl)
   (kH (kFI (wU hr) (pv 4) (pv 6) (kY cU (jJ (p1 (pv 6))) (rO (Nc:=["p","q","hung"]) (js:=[none,none,some 4]) rfl rfl (xW (qL yS (pv 7) (qK kI) (qK (bD vC kI)))) (CS.of rfl rfl) rfl (λ C Y Z fp U=>(pgc 0)) (λ C Y Z fp U=>(show PI _ _ _ (kMP K _) from(xW (bE (wU hr) (pv 2) (pv 0) (λ _ _=>rfl))))) (λ C Y Z fp U=>(pgc 1)) (λ C Y Z fp U D L=>(qF (qV (pv 1)))))) rfl)
   (kJ (qR (jU jo jq xG (pv 5) (p1 (pv 3)))))))))))
   (kJ (kW (pv 5))))))),?_⟩
 try dsimp only[qX]
 have l2:2<=(m.map vn).length:=by rw[aj];have:=ok.lm;omega
 have dy:(m.take 2).length=2:=by rw[dq];have:=ok.lm;omega
 have nd2:(m.take 2).Nodup:=ok.nd.sublist (xm _ _)
 have c2:yD (m.map vn) none (some 2)=(m.take 2).map vn:=by rw[show(2:Int)=((2:Nat):Int) from rfl,aP _ l2,<-xb]
 refine⟨_,rfl,2,rfl,o,_,rfl,ho,λ p1 H1 g1 an=>?_⟩;rw[c2]at an;have g1:Same H H1:=g1;refine⟨p1,rfl,⟨_,SqT.of an⟩,λ sp ah=>?_⟩;refine jM (xs:=(m.take 2).map vn) (λ i O H2=>∃(x0:Option V)(ts:List av),O=[x0]/\Same H1 H2/\H2 sp=some (.dK (SpK (((m.take 2).take i).map λ p=>(p,0,0)) ts))/\SpAt H2 sp (((m.take 2).take i).map λ p=>(p,0,0)) ts) ⟨none,[],rfl,kC ah _,kA,⟨rfl,λ i t s e=>by simp at e⟩⟩ ?_ ?_ ?_
 ·rintro i O H2 _ ⟨x0,ts,rfl,g2,_⟩
  exact SqT.of (g2 _ _ an)
 ·rintro i v O H2 hv ⟨x0,ts,rfl,g2,hD,se⟩
  rw[bb]at hv;obtain⟨p,ep,rfl⟩:=bp.mp hv;have hi:=(ak.mp ep).1;refine⟨_,rfl,yS2,λ t nt=>?_⟩;have gt:=kC nt (.tup [.int 0,.int 0]);have tk:(m.take 2).take (i+1)=(m.take 2).take i++[p]:=by rw[jd,ep];rfl
  have np:p∉(((m.take 2).take i).map λ p=>(p,(0:Int),(0:Int))).map (·.1):=λ z=>by
   rw[sh]at z;obtain⟨p',db,e'⟩:=fe.mp z;have e':p'=p:=e';have:((m.take 2).take i++[p]).Nodup:=by rw[<-tk];exact nd2.sublist (xm _ _)
   exact(cy.mp this).2.2 p' db p (by simp) e'
  obtain⟨d1,G⟩:=SpAt.put (q:=t) (p:=p) (x:=0) (y:=0) (gt _ _ hD) (se.to (d':=sp) λ b xs e=>gt _ _ e) np (by rw[aj,dq];omega) kA;refine⟨_,d1,_,ts++[t],rfl,?_,?_,?_⟩
  ·exact kZ ah (g2.trans gt)
  ·rw[tk,cu]
   exact kA
  ·rw[tk,cu]
   exact G
 rintro O H2 ⟨x0,ts,rfl,g2,hS,sS⟩;rw[aj,iL]at hS sS;have da:(m.take 2).map (λ p=>(p,(0:Int),(0:Int)))=(gF m Fs Ts 0).1:=rfl;rw[da]at hS sS;have gS:=g1.trans g2;have ba:H sp=none:=g1.free ah
 have cb:=gS _ _ ho
 refine⟨_,rfl,2,rfl,o,_,rfl,cb,λ p2 H3 g3 af=>?_⟩;rw[c2]at af;have g3:Same H2 H3:=g3;refine⟨p2,rfl,⟨_,SqT.of af⟩,λ hu ab=>?_⟩;refine jM (xs:=(m.take 2).map vn) (λ i O H4=>∃(x0:Option V),O=[x0]/\Same H3 H4/\HuN H4 hu (λ p=>if p∈(m.take 2).take i then some [p] else none) i) ⟨none,rfl,kC ab _,⟨_,kA,bf _,λ p l z=>by have z:(if p∈(m.take 2).take 0 then some [p] else none)=some l:=z;rw[CM,if_neg (by simp)]at z;cases z⟩⟩ ?_ ?_ ?_
 ·rintro i O H4 _ ⟨x0,rfl,g4,_⟩
  exact SqT.of (g4 _ _ af)
 ·rintro i v O H4 hv ⟨x0,rfl,g4,hh⟩
  rw[bb]at hv;obtain⟨p,ep,rfl⟩:=bp.mp hv;have hi:=(ak.mp ep).1;refine⟨_,rfl,_,rfl,yS1,λ t nt=>?_⟩;have gt:=kC nt (.lst [vn p]);have tk:(m.take 2).take (i+1)=(m.take 2).take i++[p]:=by rw[jd,ep];rfl
  obtain⟨H5,d1,G,d3,d4⟩:=(hh.kept gt).put (b:=t) (v:=p) (l:=[p]) (U':=λ q=>if q∈(m.take 2).take (i+1) then some [q] else none) (by omega) kA (λ q l' e=>by
   by_cases c:q=p
   ·left
    rw[c,if_pos (by rw[tk];simp)]at e;exact⟨c,(bh e).symm⟩
   ·right
    refine⟨c,?_⟩;rw[tk]at e;simpa[c] using e)
  refine⟨H5,d1,_,rfl,λ b ob e=>?_,d4⟩;have:=gt _ _ (g4 _ _ e);exact G _ _ (λ z=>by rw[z,ab]at e;cases e) this
 rintro O H4 ⟨ei,rfl,g4,hh⟩;rw[aj,iL,dy]at hh;have b7:=g3.trans g4;have ac:H2 hu=none:=g3.free ab;refine⟨_,rfl,yS1,λ td b5=>?_⟩;have gt:=kC b5 (.lst [V.ref sp]);have a5:=b7.trans gt;have bt:=a5 _ _ hS
 have bn:GrI H (upd H4 td (.lst [V.ref sp])) sp hu td [sp] m Fs Ts 0:=by
  refine⟨gS.trans a5,ba,gS.free ac,(gS.trans b7).free b5,kA,rfl,rfl,⟨ts,bt,sS.to λ b xs e=>a5 _ _ e⟩,λ j d e=>?_,?_,λ z=>?_,λ d hd=>by rw[cg.mp hd];exact ba⟩
  ·cases j with
   | zero =>
    cases e
    exact⟨ts,.inl bt,sS.to λ b xs e=>a5 _ _ e⟩
   | succ j=>simp at e
  ·obtain⟨cr,e1,e2,e3⟩:=hh.kept gt
   exact⟨cr,e1,e2,λ p l z=>e3 p l z⟩
  ·rw[cg.mp z,hS]at ac
   cases ac
 clear hh hS sS bt ac;have gH:=bn.same;generalize upd H4 td (.lst [V.ref sp])=H6 at *;have c3:yD (m.map vn) (some 2) none=(m.drop 2).map vn:=by rw[show(2:Int)=((2:Nat):Int) from rfl,yZ _ l2,<-Aa]
 refine⟨_,rfl,2,rfl,o,_,rfl,gH _ _ ho,λ p3 H7 g7 aa=>?_⟩;rw[c3]at aa;have g7:Same H6 H7:=g7;have bi:=(hf.kept gH).kept g7;have bl:=(hg.kept gH).kept g7;refine⟨_,rfl,_,rfl,p3,f,g,rfl,⟨_,SqT.of aa⟩,⟨_,SqL.of bi.top⟩,⟨_,SqL.of bl.top⟩,?_⟩;have ld:((m.drop 2).map vn).length=Fs.length:=by rw[aj,iZ];have:=ok.lm;omega
 refine kMU (xs:=(m.drop 2).map vn) (ys:=fa.map V.ref) (zs:=ga.map V.ref) (λ i O H8=>∃(sp hu td:av)(ds:List av)(x6 x7 x8 x9:Option V),O=[some (.ref o),some (.ref f),some (.ref g),some (.ref sp),some (.ref hu),some (.ref td),x6,x7,x8,x9]/\GrI H H8 sp hu td ds m Fs Ts i/\H8 p3=some (.tup ((m.drop 2).map vn))) (by rw[ld,aj,bi.len];exact bf _) (by rw[ld,aj,bl.len,ok.lt];omega) ⟨sp,hu,td,[sp],_,_,_,_,rfl,bn.kept g7,aa⟩ ?_ ?_ ?_
 ·rintro i O H8 _ ⟨sp,hu,td,ds,x6,x7,x8,x9,rfl,J,hp⟩
  exact⟨SqT.of hp,SqL.of (J.same _ _ hf.top),SqL.of (J.same _ _ hg.top)⟩
 ·clear bn gH a5 b7 g4 g3 g2 an af aa g7 bi bl gt cb ba gS g1 ah ab b5
  clear sp hu td;rintro i x y z T O H8 ex ey ez nT ⟨sp,hu,td,ds,x6,x7,x8,x9,rfl,J,hp⟩;rw[bb]at ex ey ez;obtain⟨v,ev,rfl⟩:=bp.mp ex;obtain⟨fi,ef,rfl⟩:=bp.mp ey;obtain⟨gi,eg,rfl⟩:=bp.mp ez;clear ex ey ez;have iF:i<Fs.length:=by rw[<-hf.len];exact(ak.mp ef).1
  have iT:i<Ts.length:=by rw[ok.lt];omega
  have eF:=ae iF;have eT:=ae iT;have hF:=hf.row i fi _ ef eF;have hT:=hg.row i gi _ eg eT;have e9:=ok.le;have ea:=ok.lm;rw[Bh]at ev;obtain⟨f0,M,r,c7,bv,FT,TM,d9⟩:=ok.step i _ _ eF eT
  have gd:gF m Fs Ts (i+1)=gst (gF m Fs Ts i).1 (gF m Fs Ts i).2 v (f0::M++[r]) Ts[i]:=by
   show gst _ _ (m.getD (i+2) 0) (Fs.getD i []) (Ts.getD i [])=_;rw[ao,ao,ao,AN i 2,ev,eF,eT,CP,CP,CP,c7]
  have I:=ok.inv i (by omega);rw[c7]at hF FT bv;have h1:=J.old;generalize Ts[i]=Tt at *;generalize hS:(gF m Fs Ts i).1=S at *;generalize hV:(gF m Fs Ts i).2=V at *;have fT:=FT f0 (by simp);have lT:=FT r (by simp);have MT:∀ p∈M,p∈m.take (i+2):=λ p hp=>TM p (FT p (by simp[hp]));have d6:atI ((f0::M++[r]).map vn) 0=some (vn f0):=qP (j:=0) rfl;have ce:atI ((f0::M++[r]).map vn) (-1)=some (vn r):=by rw[cu];exact zC _ _
  have lS:S.length<=42:=by
   have:=congrArg jb I.fst;rw[aj,dq]at this;omega
  have eb:Tt.length<=42:=by
   have:=eV d9 TM;rw[dq]at this;omega
  have bo:∀ p l,uM m i V p=some l->l.length<=42:=λ p l e=>by
   unfold uM at e
   split at e
   ·rename_i hp
    cases e
    have:=I.few p hp;omega
   ·cases e
  have gA:=kC nT (.tup [vn v,.ref fi,.ref gi]);have dm:=kA (H:=H8) (a:=T) (o:=.tup [vn v,.ref fi,.ref gi]);have JA:=J.kept gA;have cz:=gA _ _ hp;refine⟨T,_,rfl,SqT.of dm,rfl,_,_,rfl,_,_,rfl,_,_,rfl,rfl,?_⟩;generalize upd H8 T (.tup [vn v,.ref fi,.ref gi])=H9 at *;clear J hp;refine⟨_,rfl,_,rfl,fi,_,_,_,rfl,rfl,SqL.of (JA.same _ _ hF),ce,?_⟩;refine⟨_,rfl,_,rfl,_,rfl,1,rfl,_,rfl,_,rfl,fi,_,rfl,SqL.of (JA.same _ _ hF),λ q1 n1=>?_⟩;rw[kNK];have gB:=kC n1 (.lst (M.map vn));have c1:=kA (H:=H9) (a:=q1) (o:=.lst (M.map vn));have JB:=JA.kept gB;have bw:=gB _ _ cz;generalize upd H9 q1 (.lst (M.map vn))=Ha at *;obtain⟨ts,a2,br⟩:=JB.cur;rw[hS]at a2 br;have a1:=JB.hung;rw[hV]at a1;refine⟨sp,hu,q1,S,ts,_,M,1,rfl,a2,br,a1.at,c1,(λ p hp=>by rw[xZ (MT p hp)];rfl),(by simp at bv;omega),bo,lS,(by rw[I.fst];exact ok.nd.sublist (xm _ _)),λ d1 dk Hb kB fB nd1 b8 bm=>?_⟩;rw[dS MT]at b8 bm;have d7:sp∈ds:=dh JB.last;have cn:hu≠sp:=λ z=>JB.hn (z ▸ d7);have sB:Same H Hb:=vZ JB.same kB JB.fs;have tB:=kB td _ (λ z=>by rw[<-z,JB.told]at a2;cases a2) JB.told;have aw:=kB p3 _ (λ z=>by rw[<-z,bw]at a2;cases a2) bw;have oB:∀ j d,ds[j]?=some d->RdS Hb d (gF m Fs Ts j).1:=λ j d e=>(JB.old j d e).frz a2 kB fB;have hB:=a1.but kB cn (λ l e=>by rw[a2]at e;cases e);have dv:H d1=none:=JB.same.free nd1;have d8:hu≠d1:=λ z=>by obtain⟨kv,e,_⟩:=a1;rw[z,nd1]at e;cases e
  have ax:(mvS S (M.flatMap V) 1).map (·.1)=m.take (i+2):=by rw[qC,I.fst]
  have c8:(mvS S (M.flatMap V) 1).length<=42:=by rw[kFR];exact lS
  generalize dd:mvS S (M.flatMap V) 1=S1 at *;have J4:=JB.ft;have J5:=JB.fh;have Jn:=JB.hn;have Jl:=JB.len;have e0:=JB.fd
  clear JB a1 a2 br kB fB bw JA cz gB gA c1 n1
  have b4:=sB _ _ hT;refine⟨_,rfl,_,rfl,_,rfl,_,rfl,.inl ⟨rfl,_,SqL.of b4⟩,_,rfl,gi,Tt.map ci,r,Tt.idxOf r,rfl,rfl,(by rw[b4,xJ]),qQ lT,_,rfl,gi,_,rfl,SqL.of b4,λ q2 n2=>?_⟩
  have c4:yD (Tt.map vn) (some ((Tt.idxOf r:Nat):Int)) none=(Tt.drop (Tt.idxOf r)).map vn:=by
   rw[yZ _ (by rw[aj];exact gk (fq lT)),<-Aa]
  rw[c4];have gC:=kC n2 (.lst ((Tt.drop (Tt.idxOf r)).map vn));have cs:=kA (H:=Hb) (a:=q2) (o:=.lst ((Tt.drop (Tt.idxOf r)).map vn));have sC:=sB.trans gC;have tC:=gC _ _ tB;have bc:=gC _ _ aw;have oC:∀ j d,ds[j]?=some d->RdS _ d (gF m Fs Ts j).1:=λ j d e=>(oB j d e).kept gC;have hC:=hB.kept gC;have N:=gC _ _ b8;have aq:=bm.to (d':=d1) λ b xs e=>gC _ _ e;generalize upd Hb q2 (.lst ((Tt.drop (Tt.idxOf r)).map vn))=Hc at *;clear hB oB tB aw b8 bm gC sB;have DT:∀ p∈Tt.drop (Tt.idxOf r),p∈m.take (i+2):=λ p hp=>TM p (Cz hp);refine⟨d1,hu,q2,S1,dk,_,Tt.drop (Tt.idxOf r),2,rfl,N,aq,hC.at,cs,(λ p hp=>by rw[xZ (DT p hp)];rfl),(by rw[iZ];omega),bo,c8,(by rw[ax];exact ok.nd.sublist (xm _ _)),λ G b9 Hd kD fD a4 a6 a8=>?_⟩;rw[dS DT]at a6 a8;have sD:Same H Hd:=vZ sC kD dv;have tD:=kD td _ (λ z=>by rw[<-z,tC]at N;cases N) tC;have b6:=kD p3 _ (λ z=>by rw[<-z,bc]at N;cases N) bc
  have oD:∀ j d,ds[j]?=some d->RdS Hd d (gF m Fs Ts j).1/\d≠G:=λ j d e=>⟨(oC j d e).frz N kD fD,λ z=>by
   obtain⟨dn,rd,_⟩:=oC j d e;rw[z]at rd;rcases rd with q | ⟨ob,q⟩
   ·rw[a4]at q;cases q
   ·rw[a4]at q;cases q⟩
  have hD:=hC.but kD d8 (λ l e=>by rw[N]at e;cases e);have a9:hu≠G:=λ z=>by obtain⟨kv,e,_⟩:=hC;rw[z,a4]at e;cases e
  have b1:H G=none:=sC.free a4;have a3:(mvS S1 ((Tt.drop (Tt.idxOf r)).flatMap V) 2).map (·.1)=m.take (i+2):=by rw[qC,ax]
  have cl:(mvS S1 ((Tt.drop (Tt.idxOf r)).flatMap V) 2).length<=42:=by rw[kFR];exact c8
  generalize dz:mvS S1 ((Tt.drop (Tt.idxOf r)).flatMap V) 2=S2 at *
  clear hC oC tC bc N aq kD fD sC cs n2
  obtain⟨t1,v1,e8⟩:=a8.get (p:=f0) (by rw[a3];exact TM _ fT);obtain⟨t2,v2,e5⟩:=a8.get (p:=r) (by rw[a3];exact TM _ lT)
  have c9:DGet Hd G (vn f0) (some (.ref t1)):=by
   have:=DGet.k (k:=gw (f0:Int)) a6;rw[v1]at this;exact this
  have d0:DGet Hd G (vn r) (some (.ref t2)):=by
   have:=DGet.k (k:=gw (r:Int)) a6;rw[v2]at this;exact this
  refine⟨_,rfl,_,rfl,fi,_,_,_,rfl,rfl,SqL.of (sD _ _ hF),d6,G,_,rfl,c9,_,rfl,_,rfl,G,_,rfl,d0,t1,t2,atS S2 f0,atS S2 r,rfl,e8,e5,λ t3 He gE n3 h3=>?_⟩
  have d5:v∉m.take (i+2):=by
   have:=yO ok.nd (k:=i+2) (j:=i+2) (bf _) (by omega);rw[ao,AN i 2,ev,AN 2 i]at this;exact this
  have cp:(gF m Fs Ts (i+1)).1=S2++[(v,(ovr (atS S2 f0) (atS S2 r)).1,(ovr (atS S2 f0) (atS S2 r)).2)]:=by
   rw[gd];unfold gst;have x1:(f0::M++[r]).tail.dropLast=M:=by simp
   have x2:(f0::M++[r]).getLastD 0=r:=by rw[iS,kh];rfl
   have x3:(f0::M++[r]).headD 0=f0:=rfl;rw[x1,x2,x3,dd,dz]
  have dp:(gF m Fs Ts (i+1)).2=λ p=>if p=v then v::M.flatMap V else V p:=by
   rw[gd];unfold gst;have x1:(f0::M++[r]).tail.dropLast=M:=by simp
   rw[x1]
  have sE:=sD.trans gE;have a0:=gE _ _ a6;obtain⟨p1,p2⟩:=SpAt.put (q:=t3) (p:=v) a0 (a8.to (d':=G) λ b xs e=>gE _ _ e) (by rw[a3];exact d5) cl h3;refine⟨_,rfl,_,rfl,G,_,rfl,p1,?_⟩;have kF:∀ b ob,b≠G->He b=some ob->upd He G (.dK (SpK (S2++[(v,(ovr (atS S2 f0) (atS S2 r)).1,(ovr (atS S2 f0) (atS S2 r)).2)]) (b9++[t3]))) b=some ob:=λ b ob nb e=>by rw[kL nb];exact e
  have a7:=kA (H:=He) (a:=G) (o:=.dK (SpK (S2++[(v,(ovr (atS S2 f0) (atS S2 r)).1,(ovr (atS S2 f0) (atS S2 r)).2)]) (b9++[t3])));rw[<-cp]at p2 kF a7;rw[<-cp];have sF:=vZ sE kF b1;have tF:=kF td _ (λ z=>by have:=gE _ _ tD;rw[z,a0]at this;cases this) (gE _ _ tD);have c5:=kF p3 _ (λ z=>by have:=gE _ _ b6;rw[z,a0]at this;cases this) (gE _ _ b6);have oF:∀ j d,ds[j]?=some d->RdS _ d (gF m Fs Ts j).1:=λ j d e=>((oD j d e).1.kept gE).but kF (oD j d e).2 λ xs e=>by rw[a0]at e;cases e
  have b3:=(hD.kept gE).but kF a9 (λ l e=>by rw[a0]at e;cases e)
  have ee:G∉ds:=λ z=>by
   obtain⟨j,hj⟩:=Ae.mp z;exact(oD j G hj).2 rfl
  generalize upd He G (.dK (SpK (gF m Fs Ts (i+1)).1 (b9++[t3])))=Hf at *
  clear oD hD b6 tD a6 a8 a0 p1 kF gE sE sD c9 d0 h3
  refine⟨_,rfl,yS1,λ l1 m1=>?_⟩;have g1:=kC m1 (.lst [vn v]);have bx:=kA (H:=Hf) (a:=l1) (o:=.lst [vn v]);have sG:=sF.trans g1;generalize upd Hf l1 (.lst [vn v])=Hg at *;refine⟨_,rfl,1,rfl,_,rfl,_,rfl,fi,_,rfl,SqL.of (sG _ _ hF),λ q3 m3=>?_⟩;rw[kNK];have g3:=kC m3 (.lst (M.map vn));have ay:=kA (H:=Hg) (a:=q3) (o:=.lst (M.map vn));refine⟨q3,rfl,⟨_,SqL.of ay⟩,λ D nD=>?_⟩;have hh:=(b3.kept g1).kept g3;have as:=g3 _ _ bx;generalize upd Hg q3 (.lst (M.map vn))=Hh at *;obtain⟨cr,co,e4,ct⟩:=id hh;have eh:M.length<=42:=by simp at bv;omega
  have VL:∀ p∈M,(V p).length<=42:=λ p hp=>bo p _ (xZ (MT p hp))
  have ed:(M.flatMap V).length<=42*M.length:=by
   rw[wk];refine jt (pV (c:=42) λ x hx=>?_) (by rw[aj];exact bf _);obtain⟨y,hy,rfl⟩:=fe.mp hx;exact VL y hy
  refine jN (xs:=M.map vn) (λ j O H2=>∃(x0 x1:Option L2.V),O=[x0,x1,some (.ref hu)]/\Same Hh H2/\H2 D=some (.lst (((M.take j).flatMap V).map vn))) ⟨none,none,rfl,kC nD _,kA⟩ ?_ ?_ ?_
  ·rintro j O H2 _ ⟨x0,x1,rfl,g2,_⟩
   exact SqL.of (g2 _ _ ay)
  ·rintro j u O H2 hv ⟨x0,x1,rfl,g2,hD⟩
   rw[bb]at hv;obtain⟨p,ep,rfl⟩:=bp.mp hv;have pM:=dh ep;obtain⟨b,vb,hb⟩:=ct p _ (xZ (MT p pM));have hj:=(ak.mp ep).1
   have pl:((M.take j).flatMap V).length<=42*42:=by
    rw[wk];refine jt (pV (c:=42) λ x hx=>?_) (by rw[aj,dq];exact DK 42 (by omega));obtain⟨y,hy,rfl⟩:=fe.mp hx;exact VL y (uz hy)
   have ll:=VL p pM
   have dg:DGet H2 hu (vn p) (some (.ref b)):=by
    have:=DGet.k (k:=gw (p:Int)) (g2 _ _ co);rw[vb]at this;exact this
   refine⟨_,rfl,_,rfl,hu,_,rfl,dg,b,rfl,⟨_,SqL.of (g2 _ _ hb)⟩,?_⟩
   have tk:(M.take (j+1)).flatMap V=(M.take j).flatMap V++V p:=by
    rw[jd,ep,rh,qi,xu]
   rw[tk];generalize(M.take j).flatMap V=G0 at *;generalize V p=l at *;refine jN (xs:=l.map vn) (λ j O H3=>∃(x1:Option L2.V),O=[some (vn p),x1,some (.ref hu)]/\Same Hh H3/\H3 D=some (.lst ((G0++l.take j).map vn))) ⟨_,rfl,g2,by rw[CM,iq];exact hD⟩ ?_ ?_ ?_
   ·rintro j O H3 _ ⟨x1,rfl,g3,_⟩
    exact SqL.of (g3 _ _ hb)
   ·rintro j u O H3 hv ⟨x1,rfl,g3,al⟩
    rw[bb]at hv;obtain⟨y,ey,rfl⟩:=bp.mp hv;have hj:=(ak.mp ey).1;refine⟨_,rfl,_,al,(by rw[aj,bu,dq];exact xM (by omega)),?_⟩;refine⟨_,rfl,kZ nD g3,?_⟩;rw[jd,ey,rh,<-di,cu (l₂:=[y])];exact kA
   ·rintro O H3 ⟨x1,rfl,g3,al⟩
    rw[aj,iL]at al;exact⟨_,_,rfl,g3,al⟩
  rintro O H2 ⟨x0,x1,rfl,g2,hD⟩;rw[aj,iL]at hD;refine⟨l1,D,_,_,rfl,rfl,g2 _ _ as,hD,(by rw[aj];exact gk (xM (by rw[fj];omega))),λ ag m2=>?_⟩;have g4:=kC m2 (.lst ([vn v]++(M.flatMap V).map vn));have gg:=g1.trans (g3.trans (g2.trans g4));have dx:upd H2 ag (.lst ([vn v]++(M.flatMap V).map vn)) ag=some (.lst ((v::M.flatMap V).map vn)):=kA;have sI:=sF.trans gg;have tI:=gg _ _ tF;have am:=gg _ _ c5;have oI:∀ j d,ds[j]?=some d->RdS _ d (gF m Fs Ts j).1:=λ j d e=>(oF j d e).kept gg;have hI:=b3.kept gg;have cc:=gg _ _ a7;have ch:=p2.to (d':=G) λ b xs e=>gg _ _ e;generalize upd H2 ag (.lst ([vn v]++(M.flatMap V).map vn))=Hi at *;clear oF b3 c5 tF a7 p2 gg g4 g3 g2 g1 hD as ay hh co e4 ct bx sG sF
  obtain⟨Hj,w1,w2,w3,w4⟩:=hI.put (b:=ag) (v:=v) (l:=v::M.flatMap V) (U':=uM m (i+1) (gF m Fs Ts (i+1)).2) (by omega) dx (λ p l' e=>by
   rw[dp]at e;unfold uM at e;by_cases c:p=v
   ·left
    refine⟨c,?_⟩;rw[c]at e
    split at e
    ·have this:(if v=v then v::M.flatMap V else V v)=l':=bh e
     rw[if_pos rfl]at this;exact this.symm
    ·cases e
   ·right
    refine⟨c,?_⟩
    split at e
    ·rename_i hm
     have e:some (if p=v then v::M.flatMap V else V p)=some l':=e;rw[if_neg c]at e;rw[<-e];refine xZ ?_;have tk:m.take (i+1+2)=m.take (i+2)++[v]:=by rw[jd,AN i 2,ev];rfl
     rw[tk]at hm;rcases bz.mp hm with q | q
     ·exact q
     ·exact absurd (cg.mp q) c
    ·cases e)
  refine⟨_,rfl,_,rfl,hu,_,rfl,w1,?_⟩;obtain⟨ec,ap,_⟩:=hI;have sJ:=vZ sI w2 J5;have tJ:=w2 td _ (λ z=>by rw[z,ap]at tI;cases tI) tI;have b2:=w2 p3 _ (λ z=>by rw[z,ap]at am;cases am) am;have oJ:∀ j d,ds[j]?=some d->RdS Hj d (gF m Fs Ts j).1:=λ j d e=>(oI j d e).but w2 (λ z=>Jn (z ▸ dh e)) λ xs e=>by rw[ap]at e;cases e
  have b0:=w2 G _ (ub a9) cc;have e6:=ch.to (d':=G) (H':=Hj) λ b xs e=>w2 _ _ (λ z=>by rw[z,ap]at e;cases e) e;clear oI tI am cc ch w1 w2 w3 sI;refine⟨_,rfl,.inl ⟨rfl,_,SqL.of tJ⟩,_,rfl,td,_,_,rfl,rfl,tJ,(by rw[aj,Jl];exact kQ (by omega)),?_⟩;have kK:∀ b ob,b≠td->Hj b=some ob->upd Hj td (.lst (ds.map L2.V.ref++[.ref G])) b=some ob:=λ b ob nb e=>by rw[kL nb];exact e
  have ca:G≠td:=λ z=>by rw[z,tJ]at b0;cases b0
  have tt:∀ xs,Hj td≠some (.tup xs):=λ xs e=>by rw[tJ]at e;cases e
  have c6:=e6.to (d':=G) (H':=upd Hj td (.lst (ds.map L2.V.ref++[.ref G]))) λ b xs e=>kK _ _ (λ z=>tt xs (z ▸ e)) e;have cd:=kK G _ ca b0;refine⟨G,hu,td,ds++[G],_,_,_,_,rfl,⟨vZ sJ kK J4,b1,J5,J4,by rw[kA,cu];rfl,by rw[bu,Jl];rfl,by rw[<-Jl,dr],⟨_,cd,c6⟩,λ j d e=>?_,?_,λ z=>?_,λ d hd=>?_⟩,kK p3 _ (λ z=>by rw[z,tJ]at b2;cases b2) b2⟩
  ·rcases snoc e with⟨c,e⟩ | ⟨ej,e⟩
   ·refine(oJ j d e).but kK (λ z=>?_) tt
    obtain⟨dn,rd,_⟩:=oJ j d e;rw[z]at rd;rcases rd with q | ⟨ob,q⟩
    ·rw[tJ]at q;cases q
    ·rw[tJ]at q;cases q
   ·cases e
    rw[ej,Jl];exact⟨_,.inl cd,c6⟩
  ·refine w4.but kK (λ z=>?_) (λ l e=>?_)
   ·obtain⟨kv,e,_⟩:=w4
    rw[z,tJ]at e;cases e
   ·rw[tJ]at e
    have e:ds.map L2.V.ref=l.map vn:=by injection e with e;injection e
    match ds,l,Jl,e with
    | d::ds,[],_,e=>cases e
    | d::ds,n::l,_,e=>cases e
  ·rcases bz.mp z with q | q
   ·exact Jn q
   ·exact a9 (cg.mp q)
  ·rcases bz.mp hd with q | q
   ·exact e0 d q
   ·rw[cg.mp q];exact b1
 ·rintro O H8 ⟨sp,hu,td,ds,x6,x7,x8,x9,rfl,J,hp⟩
  rw[ld]at J;exact⟨_,rfl,k td ds H8 J.same J.told J.len J.old J.fd⟩
end
section
def mG{W:Rows}{d:List Nat}{a b c:Nat}{v p:List (List Nat)}(T:Tr W)(j:Tri.E W a b)(J:d.Perm (cf W.length))(Z:3<=W.length)(h:jR W a b c d=some (v,p)):GOk d v p:=by
 have S:=T.nb;have Y:d.length=W.length:=by rw[J.length_eq,fu]
 have g:d.Nodup:=J.nodup_iff.mpr qk;have N:=T.le;unfold jR at h
 split at h
 case isFalse=>cases h
 rename_i ends
 have A:d.take 2=[a,b]:=by
  obtain⟨m,n,_⟩:=ends
  match d,m,n with
  | x::y::r,m,n =>
   cases m
   cases n
   rfl
 obtain⟨U,lt⟩:=xD h;have h0:Top W (d.take 2) (d.take 2):=by rw[A];exact vD S j
 refine⟨by omega,by omega,by omega,g,λ i F H G L=>?_,λ i Q=>kDO S T.three g A j (by omega) h i (by omega)⟩;have Q:=(ak.mp G).1;have q:i+1<p.length:=by omega
 obtain⟨s,B,f,M,l,C,o,I,X⟩:=bV S.sym g h0 (by omega) h i F H _ G L (ae q);have D:∀ x∈F,x∈H:=λ x u=>by rw[I,<-o];simp[u]
 have nd:=s.nd;refine⟨f,M,l,o,?_,D,s.sub,nd⟩
 have O:F.Nodup:=by
  rw[I,<-o]at nd;exact(cy.mp (cy.mp nd).1).2.1
 have:=eV O λ x u=>s.sub x (D x u);rw[dq]at this;omega
inductive kKI(vs:List V)(H:Hp)(Q:VK)(Y:XK):Prop
 | mk:∀(w z o:av)(W:Rows)(ms:List Nat)(a b c:Nat)(Fs Ts:List (List Nat)),(vs=[.ref w,.ref z,.ref o])->(Gw H w z o W ms a b c)->((Tri.E W a c/\(nxt W (a,c)).2=b))->(jR W a b c ms=some (Fs,Ts))->(∀(t:av)(ta:List av)(H':Hp),Same H H'->H' t=some (.tup (ta.map V.ref))->ta.length=W.length->(∀(p:Nat)(a:av),ta[p]?=some a->H' a=some (.tup [.int (atS (gF ms Fs Ts Fs.length).1 p).1,.int (atS (gF ms Fs Ts Fs.length).1 p).2]))->Q (.ref t) H')->kKI vs H Q Y
def rT(B:Fx):Hs "grid" ["web","base","order"] 9 (kKI):=by
 refine qO B.X B.d22 kOL λ f ag A a5 s0 H vs Q E nN hr h=>?_;obtain⟨w,z,o,W,u,a,b,c,l,U,rfl,G,a6,hl,k⟩:=h
 refine⟨_,(kH (yH (pf (vS B) hr (kE (pv 0) (kE (pv 1) (kE (pv 2) kU)))) (qW (n:=2) rfl (kN (pgn 3 nN) (kN (pgn 4 nN) qM))))
   (kH (pst 5 nN (pix kX (pf (dR B) hr (kE (pv 2) (kE (pv 3) (kE (pv 4) kU)))) (bD vC kI)))
   (kJ (kW (qU qE rfl (B.z B.y6) gy (p1 (jG (Nc:=["p","spots"]) (js:=[none,some 5]) rfl rfl (xE rfl (B.z B.y3) (p1 (kS kR rfl (B.z B.y0) fb (p1 (pv 0))))) (CS.of rfl rfl) rfl (λ C I O fp M=>(pgc 0)) (λ C I O fp M D L=>(qF (qV (bE (wU hr) (pv 1) (pv 0) (λ _ _=>rfl)))))))))))),?_⟩
 try dsimp only[qX]
 have ok:=mG G.tr G.ab G.perm G.three hl;have af:=G.tr.le;refine⟨_,rfl,_,rfl,_,rfl,w,z,o,W,u,a,b,c,l,U,rfl,G,a6,hl,λ t f g fa ga H1 g1 ht lf lg=>?_⟩;refine⟨t,_,rfl,SqT.of ht,rfl,_,_,rfl,_,_,rfl,rfl,?_⟩;refine⟨_,rfl,_,rfl,_,rfl,o,f,g,fa,ga,u,l,U,rfl,g1 _ _ G.ord,lf,lg,ok,λ td x H2 g2 a9 len rd _=>?_⟩;have y:=g1.trans g2;obtain⟨wt,a1,d,_⟩:=id (G.web.kept y)
 obtain⟨dl,a2,r⟩ : ∃ dl a7,x=a7++[dl]:=by
  have ne:x≠[]:=λ z=>by rw[z]at len;cases len
  exact⟨x.getLast ne,x.dropLast,(eK ne).symm⟩
 have at1:atI (x.map V.ref) (-1)=some (.ref dl):=by rw[r,cu];exact zC _ _
 have a0:=rd l.length dl (by
  have:a2.length=l.length:=by rw[r,bu,fj]at len;omega
  rw[r,<-this,dr])
 have J:=ok.inv l.length (bf _);have ac:u.length=W.length:=by rw[G.perm.length_eq,fu]
 have N:(gF u l U l.length).1.map (·.1)=u:=by
  rw[J.fst,<-ok.lm,iL]
 generalize(gF u l U l.length).1=S at *;obtain⟨ts,aa,a3⟩:=a0;refine⟨_,rfl,td,_,_,_,rfl,rfl,SqL.of a9,at1,?_⟩;refine⟨_,rfl,w,_,rfl,.inr (SqT.of a1),_,rfl,(by rw[aj,d];omega),(by rw[aj,d];omega),λ D nD=>?_⟩;refine wZ (lo:=0) (n:=((((wt.map V.ref).length:Nat):Int)).toNat) (λ j σ i=>∃(x0:Option V)(m:List av),σ=[x0,some (.ref dl)]/\Same H2 i/\i D=some (.lst (m.map V.ref))/\m.length=j/\∀(p:Nat)(a:av),m[p]?=some a->i a=some (.tup [.int (atS S p).1,.int (atS S p).2])) ⟨none,[],rfl,kC nD _,kA,rfl,λ p a e=>by simp at e⟩ ?_ ?_
 ·rintro j σ i hj ⟨x0,m,rfl,s,Y,T,hu⟩
  have a8:j<W.length:=by rw[aj,kg,d]at hj;exact hj
  have jm:j∈S.map (·.1):=by rw[N];exact G.perm.mem_iff.mpr (iP.mpr a8)
  obtain⟨v,v',a4⟩:=(a3.to (d':=dl) (H':=i) λ b Z e=>s _ _ e).get jm
  have dg:DGet i dl (.int (0+(j:Int))) (some (.ref v)):=by
   refine .inl ⟨SpK S ts,gw (j:Int),?_,by rw[wc];rfl,v'.symm⟩;rcases aa with e | ⟨ob,e⟩
   ·exact .inl (s _ _ e)
   ·exact .inr ⟨ob,s _ _ e⟩
  refine⟨_,rfl,_,rfl,dl,_,rfl,dg,_,Y,(by rw[aj,T];exact kQ (by omega)),?_⟩
  have st:∀ b Z,i b=some (.tup Z)->upd i D (.lst (m.map V.ref++[.ref v])) b=some (.tup Z):=λ b Z e=>by
   rw[kL λ z=>by rw[z,Y]at e;cases e];exact e
  refine⟨_,m++[v],rfl,kZ nD s,by rw[cu];exact kA,by rw[bu,T];rfl,λ p a e=>?_⟩;rcases snoc e with⟨q,e⟩ | ⟨ep,e⟩
  ·exact st _ _ (hu p a e)
  ·cases e
   rw[ep,T];exact st _ _ a4
 ·rintro σ i ⟨x0,m,rfl,s,Y,T,hu⟩
  refine⟨D,_,rfl,.inl ⟨SqL.of Y,λ v nt=>?_⟩⟩;have gt:=kC nt (.tup (m.map V.ref));exact k v m _ (y.trans (s.trans gt)) kA (by rw[T,aj,kg,d]) λ p a e=>gt _ _ (hu p a e)
end
section
inductive kKL(vs:List V)(H:Hp)(Q:VK)(Y:XK):Prop
 | mk:∀(a r:av)(W:Rows),(vs=[.ref a,.ref r])->(PotAt H a)->(WebAt H r W)->(Good W)->(W.length<=42)->(∀(t:av)(x y z:Nat)(H':Hp),SameBut a H H'->PotAt H' a->H t=none->H' t=some (.tup [vn x,vn y,vn z])->Tri.E W x z->(nxt W (x,z)).2=y->Q (.ref t) H')->kKL vs H Q Y
def kAS(B:Fx):Hs "_law_base" ["_law_pot_here","_law_web_here"] 3 (kKL):=by
 refine qO B.X B.d33 kAB λ f a0 A g s0 H vs Q E s m h=>?_;obtain⟨a,r,W,rfl,D,I,G,Z,k⟩:=h
 refine⟨_,(kH (yH (pf (uK B) m (p2 (pv 0) (pv 1))) (qW (n:=2) rfl (kN (pgn 2 s) (kN (pgn 3 s) qM))))
   (kJ (kW (qS (kE (pv 2) (kE (pf (zJ B) m (kE (pv 1) (kE (pv 2) (kE (pv 3) kU)))) (kE (pv 3) kU))))))),?_⟩
 try dsimp only[qX]
 have S:=(Wb.of G).toNb;have l3:=G.three;refine⟨_,rfl,_,rfl,.inr ⟨a,r,W,rfl,D,I,by omega,by omega,λ p row e=>⟨G.ne p row e,by have:=S.len e;omega⟩,λ t p q H1 l p1 nt U d=>?_⟩⟩;refine⟨t,_,rfl,SqT.of U,rfl,_,_,rfl,_,_,rfl,rfl,?_⟩;have i:=I.pot l D;obtain⟨z,J,n2,n3,e1,e2⟩:=qT S (jC G).1 d;obtain⟨row,M,nd,mem,pv⟩:=Fc.row_at S (S.e d).2.1;have u:p∈row:=(mem p).mpr (S.sym _ _ d)
 obtain⟨v,L⟩ : ∃ v,xI row p=some v:=by
  exact vF u
 have o:=pv p v L;rw[J]at o;obtain rfl:z=v:=congrArg qh o;obtain⟨ts,h1,h2,N⟩:=i.at;obtain⟨b,Y,O⟩:=N q row M;refine⟨_,rfl,_,rfl,_,rfl,_,rfl,r,b,_,p,q,row,z,rfl,.inr ⟨h1,O⟩,Y,u,L,_,rfl,yS3,λ j c=>?_⟩;have C:=kC c (.tup [vn p,vn z,vn q]);refine k j p z q _ ?_ ?_ ?_ kA d (by rw[J])
 ·exact l.trans (SameBut.of C)
 ·exact p1.kept C
 ·cases e:H j with
  | none=>rfl
  | some ob =>
   have T:j≠a:=λ z=>by
    obtain⟨x,y,hx,_⟩:=p1;rw[z,hx]at c;cases c
   rw[l _ _ T e]at c;cases c
def kNP{l:List Nat}{j:Nat}(h:j<l.length):atI (l.map vn) (j:Int)=some (vn (l.getD j 0)):=qP (by rw[bb,ao,ae h];rfl)
def hZ(f:Nat->Bool)(j:Nat):(cf (j+1)).filter f=(cf j).filter f++if f j=true then[j] else[]:=by
 rw[BY,ud]
 congr 1
 by_cases c:f j=true
 ·rw[if_pos c,xc c,Bk]
 ·rw[if_neg c,xg c,Bk]
inductive kQU(vs:List V)(H:Hp)(Q:VK)(Y:XK):Prop
 | mk:∀(r o:av)(W:Rows)(O row:List Nat)(v:Nat),(vs=[.ref r,.ref o,vn v])->(WebAt H r W)->(H o=some (.lst (O.map vn)))->(W[v]?=some row)->(row.length<=42)->(O.length<=42)->(∀(t:av)(H':Hp),Same H H'->H' t=some (.tup ((vV row O).map vn))->Q (.ref t) H')->kQU vs H Q Y
def lJ(B:Fx):Hs "_law_run" ["_law_web_here","_law_ahead_here","_law_v"] 1 (kQU):=by
 refine qO B.X B.d34 kCP λ f a8 A a4 s0 H vs Q E nN hr h=>?_;obtain⟨r,o,W,O,row,v,rfl,hw,ho,er,a6,a7,k⟩:=h
 refine⟨_,(kH (pst 3 nN (pix qB (pv 0) (pv 2)))
   (kH (bC (i:=4) (Nc:=["_law_k","_law_ahead_here","_law_row"]) (js:=[none,some 1,some 3]) rfl rfl nN rfl (ui rfl) (xE rfl (B.z B.y3) (p1 (kS kR rfl (B.z B.y0) fb (p1 (pv 3))))) (CS.of rfl rfl) rfl (λ C d s fp g=>(pgc 0)) (λ C d s fp g D L=>(zQ (PW.pt (rG (qG (show OpR _ _ (rIn K false) from zM) (pix (show IxR _ (kAJ K) from qB) (pv 2) (pv 0)) (pv 1) rfl) (rF (qG (show OpR _ _ (rIn K true) from vH) (pix (show IxR _ (kAJ K) from qB) (pv 2) (kY yN (pv 0) kI)) (pv 1) rfl)))) (qV (pv 0)))))
   (kH (yM (qG kAP (kS kR rfl (B.z B.y0) fb (p1 (pv 4))) kI (jA _)) (kJ (kW (qS kU))) jD)
   (kJ (kW (qU qE rfl (B.z B.y6) gy (p1 (jG (Nc:=["_law_q","_law_ahead_here"]) (js:=[none,some 1]) rfl rfl (yI (kY fQ (qL zU (pv 3) (qK (pix kX (pv 4) kI)) jL) (qL zU (pv 3) jL (qK (pix kX (pv 4) kI))))) (CS.of rfl rfl) rfl (λ C d s fp g=>(pgc 0)) (λ C d s fp g D L=>(zQ (qG (show OpR _ _ (rIn K false) from zM) (pv 0) (pv 1) rfl) (qV (pv 0)))))))))))),?_⟩
 try dsimp only[qX]
 obtain⟨ts,h1,h2,h3⟩:=hw.at;obtain⟨b,e3,e4⟩:=h3 v row er;refine⟨_,rfl,_,rfl,r,_,_,_,rfl,rfl,SqT.of h1,e3,?_⟩;refine⟨_,rfl,b,_,rfl,.inr (SqT.of e4),_,rfl,(by rw[aj];omega),(by rw[aj];omega),λ D nD=>?_⟩;refine wZ (lo:=0) (n:=((((row.map vn).length:Nat):Int)).toNat) (λ j y N=>∃(G:Option V),y=[G,some (.ref o),some (.ref b)]/\Same H N/\N D=some (.lst (((cf j).filter λ k=>decide (row.getD k 0∈O) && !decide ((if k=0 then row.getLastD 0 else row.getD (k-1) 0)∈O)).map vn))) ⟨none,rfl,kC nD _,kA⟩ ?_ ?_
 ·rintro j y N hj ⟨G,rfl,x,l⟩
  have J:j<row.length:=by rw[aj,kg]at hj;exact hj
  have a1:atI (row.map vn) (0+(j:Int))=some (vn (row.getD j 0)):=by rw[wc];exact kNP J
  have a2:atI (row.map vn) (0+(j:Int)-1)=some (vn (if j=0 then row.getLastD 0 else row.getD (j-1) 0)):=by
   by_cases c:j=0
   ·rw[if_pos c,c]
    have ne:row≠[]:=λ z=>by rw[z]at J;simp at J
    rw[show row.getLastD 0=row.getLast ne by rw[iS,eo ne];rfl];have e5:row.map vn=(row.dropLast).map vn++[vn (row.getLast ne)]:=by rw[<-De (f:=vn),<-cu,eK]
    rw[e5];exact zC _ _
   ·rw[if_neg c,show(0+(j:Int)-1)=((j-1:Nat):Int) by omega]
    exact kNP (by omega)
  have p:=x _ _ e4;have U:=x _ _ ho
  have lz:(((cf j).filter λ k=>decide (row.getD k 0∈O) && !decide ((if k=0 then row.getLastD 0 else row.getD (k-1) 0)∈O)).map vn).length<sizeLine:=by
   rw[aj];have:=og (λ k=>decide (row.getD k 0∈O) && !decide ((if k=0 then row.getLastD 0 else row.getD (k-1) 0)∈O)) (cf j);rw[fu]at this;exact kQ (by omega)
  have rf:=hZ (λ k=>decide (row.getD k 0∈O) && !decide ((if k=0 then row.getLastD 0 else row.getD (k-1) 0)∈O)) j;rw[rf];dsimp only at rf ⊢;clear rf;generalize(cf j).filter (λ k=>decide (row.getD k 0∈O) && !decide ((if k=0 then row.getLastD 0 else row.getD (k-1) 0)∈O))=L at *;generalize row.getD j 0=u1 at *;generalize(if j=0 then row.getLastD 0 else row.getD (j-1) 0)=u2 at *;refine⟨_,rfl,_,rfl,b,_,_,_,rfl,rfl,SqT.of p,a1,_,rfl,o,_,rfl,.inl (SqL.of U),rfl,yY _,_,rfl,?_⟩;rw[wC];by_cases c1:u1∈O
  ·rw[decide_eq_true c1]
   refine wQ ⟨_,rfl,_,rfl,_,_,rfl,rfl,b,_,_,_,rfl,rfl,SqT.of p,a2,_,rfl,o,_,rfl,.inl (SqL.of U),rfl,yY _,_,rfl,?_⟩;rw[wC];by_cases c2:u2∈O
   ·rw[decide_eq_true c2]
    exact yC ⟨_,rfl,x,by rw[if_neg (by decide),iq];exact l⟩
   ·rw[decide_eq_false c2]
    refine wQ ⟨_,rfl,_,l,lz,⟨_,rfl,kZ nD x,?_⟩⟩;rw[if_pos (by decide),kA,cu,wc]
    rfl
  ·rw[decide_eq_false c1]
   exact yC (yC ⟨_,rfl,x,by rw[if_neg (by simp),iq];exact l⟩)
 ·rintro y N ⟨G,rfl,x,l⟩
  rw[aj,kg]at l;have l:N D=some (.lst ((zL row O).map vn)):=l;have p:=x _ _ e4
  have rl:(zL row O).length<=row.length:=by
   have:=og (λ k=>decide (row.getD k 0∈O) && !decide ((if k=0 then row.getLastD 0 else row.getD (k-1) 0)∈O)) (cf row.length);rw[fu]at this;exact this
  refine⟨_,rfl,D,_,rfl,.inl (SqL.of l),rfl,_,rfl,?_⟩;by_cases c:(zL row O).length=1
  case neg =>
   have e0:vV row O=[]:=by unfold vV;rw[if_pos c]
   have ez:(!decide (V.int ((((zL row O).map vn).length:Nat):Int)=V.int 1))=true:=by
    rw[decide_eq_false]
    ·rfl
    ·intro z
     injection z with z
     rw[aj]at z;omega
   show if(!decide (V.int ((((zL row O).map vn).length:Nat):Int)=V.int 1))=true then _ else _;rw[if_pos ez];refine⟨yS0,λ t nt=>k t _ (x.trans (kC nt _)) ?_⟩;rw[e0];exact kA
  obtain⟨a,ek⟩ : ∃ a,zL row O=[a]:=Cd.mp c
  have ez:(!decide (V.int ((((zL row O).map vn).length:Nat):Int)=V.int 1))=false:=by
   rw[ek]
   rfl
  show if(!decide (V.int ((((zL row O).map vn).length:Nat):Int)=V.int 1))=true then _ else _;rw[ez];refine yC ?_;have k1:a<row.length:=(mem_begs.mp (by rw[ek];exact cg.mpr rfl:a∈zL row O)).1;have e1:vV row O=(row.drop a++row.take a).filter λ q=>decide (q∈O):=by unfold vV;rw[if_neg (by rw[c];simp),ek];rfl
  rw[ek]at l;have a0:atI ([a].map vn) 0=some (vn a):=rfl;refine⟨_,rfl,_,rfl,D,_,_,_,rfl,rfl,SqL.of l,a0,_,rfl,b,_,rfl,p,λ p1 H4 S Z=>?_⟩;rw[yZ _ (by rw[aj];omega),<-Aa]at Z;have S:Same N H4:=S;refine⟨_,rfl,_,rfl,D,_,_,_,rfl,rfl,SqL.of (S _ _ l),a0,_,rfl,b,_,rfl,S _ _ p,λ p2 H5 g5 Y=>?_⟩;rw[aP _ (by rw[aj];omega),<-xb]at Y;have g5:Same H4 H5:=g5;refine⟨p1,p2,_,_,rfl,rfl,g5 _ _ Z,Y,(by simp only[aj,iZ,dq];exact gk (kQ (by omega))),λ p3 H6 g6 I=>?_⟩;have g6:Same H5 H6:=g6;rw[<-cu]at I;have gg:=x.trans (S.trans (g5.trans g6));have a5:=gg _ _ ho;rw[e1]at k;have ll:(row.drop a++row.take a).length<=42:=by rw[bu,iZ,dq];omega
  generalize row.drop a++row.take a=R at *;refine⟨p3,rfl,⟨_,SqT.of I⟩,λ D2 a3=>?_⟩;refine jM (xs:=R.map vn) (λ j y T=>∃(G:Option V),y=[G,some (.ref o)]/\Same H6 T/\T D2=some (.lst (((R.take j).filter λ q=>decide (q∈O)).map vn))) ⟨none,rfl,kC a3 _,kA⟩ ?_ ?_ ?_
  ·rintro j y T _ ⟨G,rfl,M,_⟩
   exact SqT.of (M _ _ I)
  ·rintro j u y T hv ⟨G,rfl,M,m⟩
   rw[bb]at hv;obtain⟨q,eq,rfl⟩:=bp.mp hv;have hj:=(ak.mp eq).1
   have tk:(R.take (j+1)).filter (λ q=>decide (q∈O))=(R.take j).filter (λ q=>decide (q∈O))++if q∈O then[q] else[]:=by
    rw[jd,eq,rh,ud]
    congr 1
    by_cases c:q∈O
    ·rw[if_pos c,xc (by simpa using c),Bk]
    ·rw[if_neg c,xg (by simpa using c),Bk]
   rw[tk]
   have lz:(((R.take j).filter λ q=>decide (q∈O)).map vn).length<sizeLine:=by
    rw[aj];have:=og (λ q=>decide (q∈O)) (R.take j);rw[dq]at this;exact kQ (by omega)
   refine⟨_,rfl,_,rfl,o,_,rfl,.inl (SqL.of (M _ _ a5)),rfl,yY _,_,rfl,?_⟩;rw[wC];by_cases c:q∈O
   ·rw[decide_eq_true c,if_pos c]
    refine wQ ⟨_,rfl,_,m,lz,⟨_,rfl,kZ a3 M,?_⟩⟩;rw[kA,cu]
    rfl
   ·rw[decide_eq_false c,if_neg c,iq]
    exact yC ⟨_,rfl,M,m⟩
  ·rintro y T ⟨G,rfl,M,m⟩
   rw[aj,iL]at m;refine⟨D2,_,rfl,.inl ⟨SqL.of m,λ t nt=>?_⟩⟩;exact k t _ (gg.trans (M.trans (kC nt _))) kA
end
section
structure RnAt(H:Hp)(r:av)(ra:List av)(Fs:List (List Nat)):Prop where
 top:H r=some (.lst (ra.map V.ref))
 len:ra.length=Fs.length
 row:∀(i:Nat)(a:av)(F:List Nat),ra[i]?=some a->Fs[i]?=some F->H a=some (.tup (F.map vn))
def RnAt.but{H H':Hp}{r x:av}{d:List av}{c:List (List Nat)}(R:RnAt H r d c)(g:∀ b o,b≠x->H b=some o->H' b=some o)(nx:r≠x)(j:∀ xs,H x≠some (.tup xs)):RnAt H' r d c :=
 ⟨g _ _ nx R.top,R.len,λ i a F h f=>g _ _ (λ z=>j _ (z ▸ R.row i a F h f)) (R.row i a F h f)⟩
def RnAt.kept{H H':Hp}{r:av}{c:List av}{b:List (List Nat)}(R:RnAt H r c b)(g:Same H H'):RnAt H' r c b:=⟨g _ _ R.top,R.len,λ i a F f d=>g _ _ (R.row i a F f d)⟩
def kLA{H H':Hp}{r r' t:av}{f:List av}{h:List (List Nat)}{F:List Nat}(R:RnAt H r f h)(g:∀ b xs,H b=some (.tup xs)->H' b=some (.tup xs))(l:H t=some (.tup (F.map vn)))(h':H' r'=some (.lst (f.map V.ref++[.ref t]))):RnAt H' r' (f++[t]) (h++[F]):=by
 refine⟨by rw[h',cu];rfl,by rw[bu,bu,R.len];rfl,λ i a j c d=>?_⟩;rcases snoc c with⟨q,c⟩ | ⟨m,c⟩
 ·rw[bq (by rw[<-R.len];exact q)]at d
  exact g _ _ (R.row i a j c d)
 ·rw[m,R.len,dr]at d
  cases c
  cases d
  exact g _ _ l
def kOO{row T:List Nat}{a:Nat}(f:Ro row T)(nd:row.Nodup)(c:T.head?=some a):row.drop (row.idxOf a)++row.take (row.idxOf a)=T:=by
 obtain⟨A,B,d,b⟩:=f
 cases B with
 | nil =>
  rw[iq]at d;rw[pd]at b;rw[d,<-b];obtain⟨I,rfl⟩:=Fc.head_split c;rw[DC];simp
 | cons x B =>
  rw[b]at c;obtain rfl:x=a:=bh c;rw[d]at nd ⊢;have g:x∉A:=λ z=>(cy.mp nd).2.2 x z x (by simp) rfl;have:(A++x::B).idxOf x=A.length:=by rw[yh,if_neg g];simp
  rw[this,b];simp
def uV(W:Rows)(O:List Nat)(c:Nat)(v:Nat):Bool:=!decide (v∈O) && (!decide (v=c) && decide (1<(vV (W.getD v []) O).length))
def kMB{W:Rows}(S:Nb W){O:List Nat}{c v:Nat}{row:List Nat}(a:W[v]?=some row)(h:uV W O c v=true):∃ Q,Nxt W O c v row (vV row O) Q:=by
 unfold uV at h;have l:W.getD v []=row:=by rw[ao,a];rfl
 rw[l]at h;simp at h;obtain⟨h1,f,b⟩:=h;have nd:=S.nd _ _ a;obtain⟨Q,j,d,i,g⟩:=kCU (A:=O) nd b;exact⟨Q,(ak.mp a).1,h1,f,a,j,d,i,b,g⟩
def kLU{W:Rows}(S:Nb W){O:List Nat}{c v:Nat}{row R Q:List Nat}(N:Nxt W O c v row R Q):uV W O c v=true:=by
 have a:W.getD v []=row:=by rw[ao,N.er];rfl
 have two:=N.two;have:=kKY (S.nd _ _ N.er) N.ro N.hR N.hQ (λ z=>by rw[z]at two;simp at two) N.ne;unfold uV;rw[a,decide_eq_false N.no,decide_eq_false N.nc,decide_eq_true (by omega)]
 rfl
inductive nS(vs:List V)(H:Hp)(Q:VK)(Y:XK):Prop
 | mk:∀(p r z:av)(W:Rows)(a b c:Nat),(vs=[.ref p,.ref r,.ref z])->(PotAt H p)->(WebAt H r W)->(Good W)->(W.length<=42)->(H z=some (.tup [vn a,vn b,vn c]))->(Tri.E W a c)->((nxt W (a,c)).2=b)->(∀(t o rl:av)(ra:List av)(ms:List Nat)(Fs Ts:List (List Nat))(H':Hp),SameBut p H H'->PotAt H' p->H' t=some (.tup [.ref o,.ref rl])->H' o=some (.tup (ms.map vn))->RnAt H' rl ra Fs->jR W a b c ms=some (Fs,Ts)->ms.Perm (cf W.length)->Q (.ref t) H')->nS vs H Q Y
def lN(B:Fx):Hs "_law_ordered" ["_law_pot_here","_law_web_here","_law_base_here"] 3 (nS):=by
 refine qO B.X B.d35 gP λ f dd A cc s0 H vs Q E nN hr h=>?_;obtain⟨p,r,z,W,a,b,c,rfl,hp,hw,G,d7,hz,a9,aw,k⟩:=h
 refine⟨_,(kH (pst 3 nN (jJ (p2 (pix qB (pv 2) kI) (pix qB (pv 2) kI))))
   (kH (pst 4 nN (jJ kU))
   (kH (rK (xE rfl (B.z B.y3) (p1 (kY yN (kS kR rfl (B.z B.y0) fb (p1 (pv 1))) kI))) (pgn 5 nN) (kH (bC (i:=6) (Nc:=["_law_v","_law_order","_law_base_here","_law_web_here"]) (js:=[none,some 3,some 2,some 1]) rfl rfl nN rfl (ui rfl) (xE rfl (B.z B.y3) (p1 (kS kR rfl (B.z B.y0) fb (p1 (pv 1))))) (CS.of rfl rfl) rfl (λ C b3 bt fp b5=>(jT (i:=0) (show tz (α:=Str) ["_law_v","_law_order","_law_base_here","_law_web_here"] by decide +kernel) rfl (ui rfl))) (λ C b3 bt fp b5 D L=>(zQ (PW.pt (rG (qG (show OpR _ _ (rIn K true) from vH) (pv 0) (pv 1) rfl) (rG (qG kAP (pv 0) (pix (show IxR _ (kAJ K) from qB) (pv 2) kI) (jA _)) (rF (qG kRD (kS (show zD _ _ (yU K) from kR) rfl (B.z B.y0) fb (p1 (pf (lJ B) hr (kE (pv 3) (kE (pv 1) (kE (pv 0) kU)))))) kI (jA _)))))) (qV (pv 0)))))
   (kH (pst 7 nN (pix kX (pv 6) (pf (jH B) hr (p2 (pv 0) (kS kR rfl (B.z B.y0) fb (p1 (pv 6)))))))
   (kH (qR (jU jo jq xG (pv 4) (p1 (pf (lJ B) hr (kE (pv 1) (kE (pv 3) (kE (pv 7) kU)))))))
   (kJ (qR (jU jo jq xG (pv 3) (p1 (pv 7)))))))))
   (kH (pst 8 nN (pix qB (pv 1) (pix qB (pv 2) kI)))
   (kH (pst 9 nN (kAN zt zu zw cX (pv 8) (p1 (pix qB (pv 2) kI))))
   (kJ (kW (qS (p2 (kY fQ (qU qE rfl (B.z B.y6) gy (p1 (pv 3))) (qS (p1 (pix qB (pv 2) kI)))) (kY cU (pv 4) (jJ (p1 (kY fQ (qL zU (pv 8) (qK (pv 9)) jL) (qL zU (pv 8) jL (qK (pv 9)))))))))))))))),?_⟩
 try dsimp only[qX]
 have S:=(Wb.of G).toNb;have J:=(jC G).1;have l3:=G.three;obtain⟨l,n1,n2,n3,e1,e2⟩:=qT S J a9;rw[n1]at aw;obtain rfl:l=b:=aw;have a1:Tri.E W a l:=S.sym _ _ e2;have bc:(nxt W (l,a)).2=c:=by rw[n3]
 have ca:c≠a:=(S.e a9).2.2;have cb:c≠l:=λ q=>(S.e e1).2.2 q.symm;refine⟨_,rfl,z,_,_,_,rfl,rfl,SqT.of hz,(show atI [vn a,vn l,vn c] 0=_ from rfl),_,rfl,z,_,_,_,rfl,rfl,SqT.of hz,(show atI [vn a,vn l,vn c] 1=_ from rfl),yS2,λ s am=>?_⟩;have g1:=kC am (.lst [vn a,vn l]);have bi:=kA (H:=H) (a:=s) (o:=.lst [vn a,vn l]);refine⟨yS0,λ u ag=>?_⟩;have g2:=kC ag (.lst []);have d2:=kA (H:=upd H s (.lst [vn a,vn l])) (a:=u) (o:=.lst []);have ax:=g2 _ _ bi;have aa:=g1.trans g2;have bn:H u=none:=g1.free ag;have as:s≠u:=kP bi ag;obtain⟨px,py,a4,da⟩:=id hp;have ba:s≠p:=(kP a4 am).symm;have b8:u≠p:=(kP a4 bn).symm;have bx:=hw.kept aa;have co:=hp.kept aa;generalize upd (upd H s (.lst [vn a,vn l])) u (.lst [])=H0 at *;obtain⟨wt,c5,a3,_⟩:=id bx;refine⟨_,rfl,r,_,rfl,.inr (SqT.of c5),_,_,rfl,rfl,_,rfl,(by rw[aj,a3];omega),(by rw[aj,a3];omega),?_⟩;refine zN (n:=(((((wt.map V.ref).length:Nat):Int))-3).toNat) (λ i σ H2=>∃(x5 x6 x7 x8 x9:Option V)(O:List Nat)(Fs Ts:List (List Nat))(U:List av),σ=[some (.ref p),some (.ref r),some (.ref z),some (.ref s),some (.ref u),x5,x6,x7,x8,x9]/\SameBut p H H2/\PotAt H2 p/\H2 s=some (.lst (O.map vn))/\RnAt H2 u U Fs/\OI W a l c O Fs Ts/\O.length=i+2) ⟨_,_,_,_,_,[a,l],[],[[a,l]],[],rfl,SameBut.of aa,co,ax,⟨d2,rfl,λ i a F e=>by simp at e⟩,OI.start S a1 ca cb,rfl⟩ ?_ ?_
 ·rintro i σ H2 hi ⟨x5,x6,x7,x8,x9,O,Fs,Ts,U,rfl,sb,pt,hO,RN,I,lO⟩
  have cp:O.length+1<W.length:=by
   rw[aj,a3]at hi;omega
  have a2:=hw.pot sb hp;have Z:=sb z _ (λ q=>by rw[q,a4]at hz;cases hz) hz;obtain⟨b9,Y,g,_⟩:=id a2;refine⟨_,rfl,r,_,rfl,.inr (SqT.of Y),_,rfl,(by rw[aj,g];omega),(by rw[aj,g];omega),λ D nD=>?_⟩;refine wZ (lo:=0) (n:=((((b9.map V.ref).length:Nat):Int)).toNat) (λ j σ H3=>∃(x0:Option V),σ=[x0,some (.ref s),some (.ref z),some (.ref r)]/\Same H2 H3/\H3 D=some (.lst (((cf j).filter (uV W O c)).map vn))) ⟨none,rfl,kC nD _,kA⟩ ?_ ?_
  ·rintro j σ H3 hj ⟨x0,rfl,M,hD⟩
   have ce:j<W.length:=by rw[aj,kg,g]at hj;exact hj
   have T:=ae ce;have eg:W.getD j []=W[j]:=by rw[ao,T];rfl
   have a6:=S.len T
   have lz:(((cf j).filter (uV W O c)).map vn).length<sizeLine:=by
    rw[aj];have:=og (uV W O c) (cf j);rw[fu]at this;exact kQ (by omega)
   rw[hZ];have em:uV W O c j=(!decide (j∈O) && (!decide (j=c) && decide (1<(vV W[j] O).length))):=by unfold uV;rw[eg]
   rw[em];generalize(cf j).filter (uV W O c)=L at *;refine⟨_,rfl,_,rfl,s,_,rfl,.inl (SqL.of (M _ _ hO)),rfl,yY _,_,rfl,?_⟩;have e0:V.int (0+(j:Int))=vn j:=by rw[wc];rfl
   rw[e0,wC];by_cases c1:j∈O
   ·rw[decide_eq_true c1]
    exact yC (yC ⟨_,rfl,M,by rw[if_neg (by simp),iq];exact hD⟩)
   rw[decide_eq_false c1];refine wQ ⟨_,rfl,_,rfl,z,_,_,_,rfl,rfl,SqT.of (M _ _ Z),(show atI [vn a,vn l,vn c] 2=_ from rfl),rfl,_,rfl,?_⟩;by_cases c2:j=c
   ·have e2:(!decide (vn j=vn c))=false:=by rw[c2];simp
    rw[e2];exact yC (yC ⟨_,rfl,M,by rw[decide_eq_true c2,if_neg (by simp),iq];exact hD⟩)
   have e2:(!decide (vn j=vn c))=true:=by
    rw[decide_eq_false (λ q=>c2 (by have q:V.int (j:Int)=V.int (c:Int):=q;injection q with q;omega))]
    rfl
   rw[e2];refine wQ ?_;refine⟨_,rfl,_,rfl,_,rfl,r,s,W,O,_,j,rfl,a2.kept M,M _ _ hO,T,by omega,by omega,λ t H4 g4 ht=>?_⟩;have b0:=M.trans g4;refine⟨t,_,rfl,.inr (SqT.of ht),_,_,rfl,rfl,_,rfl,?_⟩;have e3:(1:Int)<(((vV W[j] O).map vn).length:Nat)↔1<(vV W[j] O).length:=by rw[aj];omega
   by_cases c3:1<(vV W[j] O).length
   ·rw[decide_eq_true (e3.mpr c3)]
    refine wQ ⟨_,rfl,_,g4 _ _ hD,lz,⟨_,rfl,kZ nD b0,?_⟩⟩;rw[decide_eq_false c2,decide_eq_true c3,if_pos (by rfl),kA,cu]
    rfl
   ·rw[decide_eq_false (λ q=>c3 (e3.mp q))]
    refine yC ⟨_,rfl,b0,?_⟩;rw[decide_eq_false c2,decide_eq_false c3,if_neg (by decide),iq];exact g4 _ _ hD
  ·rintro σ H3 ⟨x0,rfl,M,hD⟩
   rw[aj,kg,g]at hD;obtain⟨v0,d6,R0,Q0,N0⟩:=I.next G a1 bc cp;have bl:v0∈(cf W.length).filter (uV W O c):=ip.mpr ⟨iP.mpr N0.lt,kLU S N0⟩
   have lL:((cf W.length).filter (uV W O c)).length<=42:=by
    have:=og (uV W O c) (cf W.length);rw[fu]at this;omega
   have cd:∀ v∈(cf W.length).filter (uV W O c),v<W.length/\uV W O c v=true:=λ v hv=>⟨iP.mp (ip.mp hv).1,(ip.mp hv).2⟩;generalize(cf W.length).filter (uV W O c)=L at *;have d4:0<L.length:=List.length_pos_of_mem bl;obtain⟨qx,qy,b2,_⟩:=id pt;have Dp:D≠p:=(kP b2 nD).symm;refine⟨_,rfl,_,rfl,_,rfl,D,_,rfl,.inl (SqL.of hD),p,_,rfl,pt.kept M,(by rw[aj];omega),nA (by rw[aj];exact jj (m:=42) (by omega) (by decide)),λ d H4 d0 d1 s4 p4=>?_⟩;rw[aj]at d1;obtain⟨dn,rfl⟩:=qc d0;have ay:dn<L.length:=by omega
   refine⟨D,_,_,_,rfl,rfl,SqL.of (s4 _ _ Dp hD),kNP ay,?_⟩;obtain⟨vl,vm⟩:=cd (L.getD dn 0) (dh (xS ay));generalize L.getD dn 0=v at *;have T:=ae vl;have a6:=S.len T;obtain⟨Q,N⟩:=kMB S T vm;obtain⟨af,I'⟩:=I.more S J a1 bc N;have bw:SameBut p H H4:=sb.trans ((SameBut.of M).trans s4);have b6:=s4 _ _ ba (M _ _ hO);have b4:=(RN.kept M).but (λ b o nb e=>s4 b o nb e) b8 (λ xs e=>by rw[M _ _ b2]at e;cases e);have c8:=hw.pot bw hp;refine⟨_,rfl,.inl ⟨rfl,_,SqL.of b4.top⟩,_,rfl,_,rfl,_,rfl,r,s,W,O,_,v,rfl,c8,b6,T,by omega,by omega,λ t H5 g5 ht=>?_⟩;have a0:=b4.kept g5;have cs:=g5 _ _ b6;have lF:Fs.length<=42:=by have:=(xD I.go).1;omega
   refine⟨u,_,_,rfl,rfl,a0.top,(by rw[aj,a0.len];exact kQ (by omega)),?_⟩;have k6:∀ b o,b≠u->H5 b=some o->upd H5 u (.lst (U.map V.ref++[.ref t])) b=some o:=λ b o nb e=>by rw[kL nb];exact e
   have c4:=kLA (r':=u) a0 (λ b xs e=>k6 b _ (λ q=>by rw[q,a0.top]at e;cases e) e) ht kA;have ac:=k6 s _ as cs;have cn:SameBut p H H5:=bw.trans (SameBut.of g5);have c9:SameBut p H (upd H5 u (.lst (U.map V.ref++[.ref t]))):=λ b o nb e=>k6 b o (λ q=>by rw[q,bn]at e;cases e) (cn b o nb e)
   have cl:PotAt (upd H5 u (.lst (U.map V.ref++[.ref t]))) p:=by
    obtain⟨x,y,hx,h0⟩:=p4.kept g5;exact⟨x,y,k6 p _ (ub b8) hx,h0⟩
   generalize upd H5 u (.lst (U.map V.ref++[.ref t]))=H6 at *;refine⟨_,rfl,.inl ⟨rfl,_,SqL.of ac⟩,_,rfl,s,_,_,rfl,rfl,ac,(by rw[aj];exact kQ (by omega)),?_⟩;have k7:∀ b o,b≠s->H6 b=some o->upd H6 s (.lst (O.map vn++[vn v])) b=some o:=λ b o nb e=>by rw[kL nb];exact e
   refine⟨_,_,_,_,_,O++[v],Fs++[vV W[v] O],af,U++[t],rfl,λ b o nb e=>k7 b o (λ q=>by rw[q,am]at e;cases e) (c9 b o nb e),?_,?_,c4.but k7 (ub as) (λ xs e=>by rw[ac]at e;cases e),I',by rw[bu,lO];rfl⟩
   ·obtain⟨x,y,hx,h0⟩:=cl
    exact⟨x,y,k7 p _ (ub ba) hx,h0⟩
   ·rw[kA,cu]
    rfl
 ·rintro σ H2 ⟨x5,x6,x7,x8,x9,O,Fs,Ts,U,rfl,sb,pt,hO,RN,I,lO⟩
  rw[aj,a3]at lO;have full:O.length+1=W.length:=by omega
  obtain⟨row,af,T,ro,hd,la,pm⟩:=I.last G a1 bc full;have nd:=S.nd _ _ T;have rf:=kOO ro nd hd;rw[<-rf]at la
  have ma:a∈row:=by
   obtain⟨d5,bm,m⟩:=S.sym _ _ a9;rw[T]at bm
   cases bm
   exact m
  have ia:=fq ma;have a6:=S.len T;have a2:=hw.pot sb hp;have Z:=sb z _ (λ q=>by rw[q,a4]at hz;cases hz) hz;obtain⟨b9,Y,g,rows⟩:=a2.at;obtain⟨rb,cr,ah⟩:=rows c row T;refine⟨_,rfl,_,rfl,z,_,_,_,rfl,rfl,SqT.of Z,(show atI [vn a,vn l,vn c] 2=_ from rfl),r,_,_,_,rfl,rfl,SqT.of Y,cr,?_⟩;refine⟨_,rfl,.inr (.inl ⟨rfl,.inr ⟨_,ah⟩⟩),_,rfl,z,_,_,_,rfl,rfl,SqT.of Z,(show atI [vn a,vn l,vn c] 0=_ from rfl),rb,row.map ci,a,row.idxOf a,rfl,rfl,SqT.of (by rw[ah,xJ]),qQ ma,?_⟩;have db:O.length<=42:=by omega
  have d8:Fs.length<=42:=by have:=(xD I.go).1;omega
  refine⟨_,rfl,s,_,rfl,.inl ⟨SqL.of hO,λ t1 m1=>?_⟩⟩;have q1:=kC m1 (.tup (O.map vn));have ch:=kA (H:=H2) (a:=t1) (o:=.tup (O.map vn));generalize upd H2 t1 (.tup (O.map vn))=H3 at *;refine⟨_,rfl,z,_,_,_,rfl,rfl,SqT.of (q1 _ _ Z),(show atI [vn a,vn l,vn c] 2=_ from rfl),yS1,λ t2 m2=>?_⟩;have q2:=kC m2 (.tup [vn c]);have c7:=kA (H:=H3) (a:=t2) (o:=.tup [vn c]);generalize upd H3 t2 (.tup [vn c])=H4 at *;refine⟨t1,t2,_,_,rfl,rfl,q2 _ _ ch,c7,(by rw[aj,fj];exact gk (kQ (by omega))),λ t3 H5 q3 cz=>?_⟩;have q3:Same H4 H5:=q3;have al:=q1.trans (q2.trans q3);have a7:=al _ _ ah;refine⟨_,rfl,_,rfl,_,rfl,_,rfl,rb,_,rfl,a7,λ p1 H6 q6 bv=>?_⟩;rw[yZ _ (by rw[aj];omega),<-Aa]at bv;have q6:Same H5 H6:=q6;refine⟨_,rfl,_,rfl,_,rfl,rb,_,rfl,q6 _ _ a7,λ p2 H7 q7 a5=>?_⟩;rw[aP _ (by rw[aj];omega),<-xb]at a5;have q7:Same H6 H7:=q7;refine⟨p1,p2,_,_,rfl,rfl,q7 _ _ bv,a5,(by simp only[aj,iZ,dq];exact gk (kQ (by omega))),λ t4 H8 q8 bo=>?_⟩;have q8:Same H7 H8:=q8;rw[<-cu]at bo;refine⟨yS1,λ l1 m9=>?_⟩;have q9:=kC m9 (.lst [V.ref t4]);have c6:=kA (H:=H8) (a:=l1) (o:=.lst [V.ref t4]);have ap:=q6.trans (q7.trans (q8.trans q9));have aq:=(RN.kept al).kept ap;have b1:=q9 _ _ bo;have br:=ap _ _ cz;generalize upd H8 l1 (.lst [V.ref t4])=H9 at *;refine⟨u,l1,_,_,rfl,rfl,aq.top,c6,(by rw[aj,fj,aq.len];exact gk (kQ (by omega))),λ l2 ct=>?_⟩;have ab:=kC ct (.lst (U.map V.ref++[V.ref t4]));have b7:=kLA (r':=l2) aq (λ b xs e=>ab _ _ e) b1 kA;have a8:=ab _ _ br;generalize upd H9 l2 (.lst (U.map V.ref++[V.ref t4]))=d9 at *;refine⟨yS2,λ tt mt=>?_⟩;have an:=kC mt (.tup [V.ref t3,V.ref l2]);have qq:=al.trans (ap.trans (ab.trans an));refine k tt t3 l2 (U++[t4]) (O++[c]) _ af _ (sb.trans (SameBut.of qq)) (pt.kept qq) kA ?_ (b7.kept an) la pm;have:=an _ _ a8;rw[this,cu]
  rfl
end
section
structure TrT(H:Hp)(t:av)(ta:List av)(S:List (Nat×Int×Int)):Prop where
 top:H t=some (.tup (ta.map V.ref))
 len:ta.length=S.length
 row:∀(i:Nat)(a:av)(s:Nat×Int×Int),ta[i]?=some a->S[i]?=some s->H a=some (.tup [vn s.1,.int s.2.1,.int s.2.2])
def TrT.kept{H H':Hp}{t:av}{c:List av}{S:List (Nat×Int×Int)}(h:TrT H t c S)(g:∀ b xs,H b=some (.tup xs)->H' b=some (.tup xs)):TrT H' t c S:=⟨g _ _ h.top,h.len,λ i a s f d=>g _ _ (h.row i a s f d)⟩
def kOS{H a:Hp}{d:av}{kvs:List (Key×V)}(f:∀ b u,b≠d->H b=some u->a b=some u){o:Obj}(h:a d=some (.frz o (.dK kvs)))(c:H d=some (.dK kvs)\/a=H) :
  (∀ b xs,H b=some (.tup xs)->a b=some (.tup xs))/\(∀ b xs,H b=some (.lst xs)->a b=some (.lst xs))/\∀ d' S,RdS H d' S->RdS a d' S:=by
 rcases c with e | rfl
 ·exact⟨λ b xs q=>f _ _ (λ z=>by rw[z,e]at q;cases q) q,λ b xs q=>f _ _ (λ z=>by rw[z,e]at q;cases q) q,λ d' S g=>g.frz e f ⟨o,h⟩⟩
 ·exact⟨λ _ _ q=>q,λ _ _ q=>q,λ _ _ r=>r⟩
inductive kET(vs:List V)(H:Hp)(Q:VK)(Y:XK):Prop
 | mk:∀(w z o:av)(W:Rows)(ms:List Nat)(a b c:Nat)(Fs Ts:List (List Nat)),(vs=[.ref w,.ref z,.ref o])->(Gw H w z o W ms a b c)->((Tri.E W a c/\(nxt W (a,c)).2=b))->(jR W a b c ms=some (Fs,Ts))->(∀(t:av)(us:List av)(H':Hp),Same H H'->H' t=some (.tup (us.map V.ref))->us.length=Fs.length+1->(∀(j:Nat)(u:av),us[j]?=some u->∃ ta,TrT H' u ta (gF ms Fs Ts j).1)->Q (.ref t) H')->kET vs H Q Y
def lQ(B:Fx):Hs "grids" ["web","base","order"] 9 (kET):=by
 refine qO B.X B.d21 kKP λ f b0 A ah s0 H vs Q E nN hr h=>?_;obtain⟨w,z,o,W,O,a,b,c,Fs,Ts,rfl,G,al,hl,k⟩:=h
 refine⟨_,(kH (yH (pf (vS B) hr (kE (pv 0) (kE (pv 1) (kE (pv 2) kU)))) (qW (n:=2) rfl (kN (pgn 3 nN) (kN (pgn 4 nN) qM))))
   (kJ (kW (qU qE rfl (B.z B.y6) gy (p1 (jG (Nc:=["spots"]) (js:=[none]) rfl rfl (xW (pf (dR B) hr (kE (pv 2) (kE (pv 3) (kE (pv 4) kU))))) (CS.of rfl rfl) rfl (λ C M Y fp N=>(pgc 0)) (λ C M Y fp N D L=>(qF (qV (qU (show zD _ _ (yL K) from qE) rfl (B.z B.y6) gy (p1 (jG (Nc:=["p","x","y"]) (js:=[none,none,none]) rfl rfl (kHZ (pv 0)) (CS.of rfl rfl) rfl (λ C M Y fp N=>(show PG _ _ (aO K 2 _) from qW rfl (kN (pgc 0) (kN (show PG _ _ (aO K 2 _) from qW rfl (kN (pgc 1) (kN (pgc 2) qM))) qM)))) (λ C M Y fp N D L=>(qF (qV (qS (kE (pv 0) (kE (pv 1) (kE (pv 2) kU))))))))))))))))))),?_⟩
 try dsimp only[qX]
 have ok:=mG G.tr G.ab G.perm G.three hl;have aw:=G.tr.le;refine⟨_,rfl,_,rfl,_,rfl,w,z,o,W,O,a,b,c,Fs,Ts,rfl,G,al,hl,λ t f g fa ga H1 g1 ht lf lg=>?_⟩;refine⟨t,_,rfl,SqT.of ht,rfl,_,_,rfl,_,_,rfl,rfl,?_⟩;refine⟨_,rfl,_,rfl,_,rfl,o,f,g,fa,ga,O,Fs,Ts,rfl,g1 _ _ G.ord,lf,lg,ok,λ td ds H2 g2 Z len rd af=>?_⟩;have aq:O.length=W.length:=by rw[G.perm.length_eq,fu]
 have lF:=ok.lm;have a7:=g1.trans g2;refine⟨td,rfl,⟨_,SqL.of Z⟩,λ D nD=>?_⟩;have fD:H D=none:=a7.free nD;refine jN (xs:=ds.map V.ref) (λ j σ H3=>∃(x0:Option V)(I:List av),σ=[x0]/\Same H H3/\H3 td=some (.lst (ds.map V.ref))/\(∀ j d,ds[j]?=some d->RdS H3 d (gF O Fs Ts j).1)/\H3 D=some (.lst (I.map V.ref))/\I.length=j/\∀(i:Nat)(u:av),I[i]?=some u->∃ l,TrT H3 u l (gF O Fs Ts i).1) ⟨none,[],rfl,a7.trans (kC nD _),kC nD _ _ _ Z,λ j d e=>(rd j d e).kept (kC nD _),kA,rfl,λ i u e=>by simp at e⟩ ?_ ?_ ?_
 ·rintro j σ H3 _ ⟨x0,I,rfl,g3,h3,_⟩
  exact SqL.of h3
 ·rintro j v σ H3 hv ⟨x0,I,rfl,g3,h3,r3,hD,lu,hu⟩
  rw[bb]at hv;obtain⟨d,ed,rfl⟩:=bp.mp hv;have hj:=(ak.mp ed).1;have fd:=g1.free (af d (dh ed));have a8:=ok.inv j (by omega)
  have lS:(gF O Fs Ts j).1.length<=42:=by
   have:=congrArg jb a8.fst;rw[aj,dq]at this;omega
  obtain⟨ts,ac,sp⟩:=r3 j d ed;refine⟨_,rfl,d,_,rfl,ac,λ o H4 a9 k4 c4=>?_⟩;obtain⟨a1,a2,aa⟩:=kOS k4 a9 c4;have g4:Same H H4:=λ b u q=>k4 b u (λ z=>by rw[z,fd]at q;cases q) (g3 b u q);have h4:=a2 _ _ h3;have r4:∀ j d,ds[j]?=some d->RdS H4 d (gF O Fs Ts j).1:=λ j d e=>aa _ _ (r3 j d e);have J:=a2 _ _ hD
  have am:∀(i:Nat)(u:av),I[i]?=some u->∃ l,TrT H4 u l (gF O Fs Ts i).1:=λ i u e=>by
   obtain⟨l,q⟩:=hu i u e;exact⟨l,q.kept a1⟩
  have a6:=sp.to (d':=d) (H':=H4) a1;clear r3 h3 g3 hD hu sp ac k4 a1 a2 aa c4;have ay:=a6.len;have lK:(SpK (gF O Fs Ts j).1 ts).length=(gF O Fs Ts j).1.length:=by unfold SpK;rw[aj,An];omega
  refine λ E nE=>?_;have DE:D≠E:=kP J nE;generalize hS:(gF O Fs Ts j).1=S at *;refine fW (kvs:=SpK S ts) (λ i σ r=>∃(x0 x1 x2:Option V)(l:List av),σ=[x0,x1,x2]/\Same H4 r/\r E=some (.lst (l.map V.ref))/\l.length=i/\∀(i:Nat)(a:av)(s:Nat×Int×Int),l[i]?=some a->S[i]?=some s->r a=some (.tup [vn s.1,.int s.2.1,.int s.2.2])) ⟨none,none,none,[],rfl,kC nE _,kA,rfl,λ i a s e=>by simp at e⟩ ?_ ?_ ?_
  ·rintro i σ r _ ⟨x0,x1,x2,l,rfl,g5,_⟩
   exact g5 _ _ a9
  ·rintro i kv T σ r a0 nT ⟨x0,x1,x2,l,rfl,g5,hE,lt,ht⟩
   obtain⟨i1,i2,i3⟩ : ∃(i1:i<S.length)(i2:i<ts.length),kv=(gw (S[i].1:Int),V.ref ts[i]):=by
    have hi:=(ak.mp a0).1;rw[lK]at hi;refine⟨hi,by omega,?_⟩;unfold SpK at a0;rw[bb,kj (z:=(S[i],ts[i]'(by omega))) |>.mpr ⟨ae _,ae _⟩]at a0;exact(bh a0).symm
   subst i3;have eS:=ae i1;have an:=g5 _ _ (a6.row i _ _ (ae i2) eS);generalize S[i]=sv at *;obtain⟨p,x,y⟩:=sv;generalize ts[i]=t at *;have gT:=kC nT (.tup [kV (gw (p:Int)),V.ref t]);have hT:=kA (H:=r) (a:=T) (o:=.tup [kV (gw (p:Int)),V.ref t]);refine⟨T,_,rfl,SqT.of hT,rfl,_,_,rfl,_,_,rfl,t,_,rfl,SqT.of (gT _ _ an),rfl,_,_,rfl,_,_,rfl,rfl,?_⟩;have a3:=gT _ _ hE;have g6:=g5.trans gT;have ap:∀(i:Nat)(a:av)(s:Nat×Int×Int),l[i]?=some a->S[i]?=some s->upd r T (.tup [kV (gw (p:Int)),V.ref t]) a=some (.tup [vn s.1,.int s.2.1,.int s.2.2]):=λ i a s e1 e2=>gT _ _ (ht i a s e1 e2);generalize upd r T (.tup [kV (gw (p:Int)),V.ref t])=H6 at *;refine⟨rfl,_,rfl,_,rfl,_,rfl,yS3,λ q nq=>?_⟩;have gq:=kC nq (.tup [vn p,.int x,.int y]);refine⟨_,gq _ _ a3,(by rw[aj,lt];exact kQ (by omega)),?_⟩
   have st:∀ b U,upd H6 q (.tup [vn p,.int x,.int y]) b=some (.tup U)->upd (upd H6 q (.tup [vn p,.int x,.int y])) E (.lst (l.map V.ref++[.ref q])) b=some (.tup U):=λ b U e=>by
    rw[kL λ z=>by rw[z,gq _ _ a3]at e;cases e];exact e
   refine⟨_,_,_,l++[q],rfl,kZ nE (g6.trans gq),by rw[cu];exact kA,by rw[bu,lt];rfl,λ i' a s e1 e2=>?_⟩;rcases snoc e1 with⟨c,e1⟩ | ⟨ei,e1⟩
   ·exact st _ _ (gq _ _ (ap i' a s e1 e2))
   ·rw[ei,lt,eS]at e2
    cases e1
    cases e2
    exact st _ _ kA
  ·rintro σ r ⟨ax,x1,x2,l,rfl,g5,hE,lt,ht⟩
   rw[lK]at lt;refine⟨E,_,rfl,.inl ⟨SqL.of hE,λ q nq=>?_⟩⟩;have gq:=kC nq (.tup (l.map V.ref));have m:=g5.trans gq;refine⟨_,m _ _ J,(by rw[aj,lu];exact kQ (by omega)),?_⟩;have a5:=m _ _ J;have k7:∀ b u,b≠D->upd r q (.tup (l.map V.ref)) b=some u->upd (upd r q (.tup (l.map V.ref))) D (.lst (I.map V.ref++[.ref q])) b=some u:=λ b u nb e=>by rw[kL nb];exact e
   have st:∀ b U,upd r q (.tup (l.map V.ref)) b=some (.tup U)->upd (upd r q (.tup (l.map V.ref))) D (.lst (I.map V.ref++[.ref q])) b=some (.tup U):=λ b U e=>k7 b _ (λ z=>by rw[z,a5]at e;cases e) e;refine⟨_,I++[q],rfl,λ b u e=>k7 b u (λ z=>by rw[z,fD]at e;cases e) (m _ _ (g4 b u e)),?_,λ j' d' e=>?_,by rw[cu];exact kA,by rw[bu,lu];rfl,λ i' u e=>?_⟩
   ·refine k7 td _ (λ z=>?_) (m _ _ h4)
    rw[z]at Z;rw[nD]at Z;cases Z
   ·refine((r4 j' d' e).kept m).but k7 (λ z=>?_) (λ U e=>by rw[a5]at e;cases e)
    obtain⟨as,a4,_⟩:=r4 j' d' e;rw[z]at a4;rcases a4 with q | ⟨ob,q⟩
    ·rw[J]at q;cases q
    ·rw[J]at q;cases q
   ·rcases snoc e with⟨c,e⟩ | ⟨ei,e⟩
    ·obtain⟨ag,q'⟩:=am i' u e
     exact⟨ag,(q'.kept λ b U e=>m _ _ e).kept st⟩
    ·cases e
     rw[ei,lu,hS];exact⟨l,⟨st _ _ kA,lt,λ i a s e1 e2=>st _ _ (gq _ _ (ht i a s e1 e2))⟩⟩
 ·rintro σ H3 ⟨x0,I,rfl,g3,h3,r3,hD,lu,hu⟩
  refine⟨D,_,rfl,.inl ⟨SqL.of hD,λ t' nt=>?_⟩⟩;have gt:=kC nt (.tup (I.map V.ref));refine k t' I _ (g3.trans gt) kA (by rw[lu,aj,len]) λ i u e=>?_;obtain⟨l,q⟩:=hu i u e;exact⟨l,q.kept λ b U e=>gt _ _ e⟩
end
section
def kIE{W b:Rows}(S:Nb W)(g:b.length=W.length)(h:∀ p,p<W.length->kGU (W.map fc) (cf W.length) b p):Mir W b:=by
 refine⟨g,λ p r e=>?_⟩;have hp:=(ak.mp e).1;obtain⟨n,M,h1,f,d,c⟩:=h p hp r.reverse (by rw[bb,e];rfl)
 have em:(r.reverse.map λ q=>(cf W.length).getD q 0)=r.reverse:=by
  have:∀ q∈r.reverse,(cf W.length).getD q 0=id q:=λ q i=>by
   have a:q<W.length:=(S.e ⟨r,e,ou.mp i⟩).2.1;rw[ao,ua a]
   rfl
  rw[um this,GZ]
 rw[ua hp]at h1;cases h1
 rw[em]at f d c;exact⟨_,c,⟨_,_,(fv (r.reverse.idxOf M) _).symm,rfl⟩,kON f d⟩
inductive kKH(vs:List V)(H:Hp)(Q:VK)(Y:XK):Prop
 | mk:∀(t:av)(W:Rows),(vs=[.ref t])->WebAt H t W->Good W->W.length<=42->(∀(u:av)(M:Rows)(H':Hp),Same H H'->WebAt H' u M->Mir W M->Q (.ref u) H')->kKH vs H Q Y
def fK(B:Fx):Hs "_law_mirrored" ["_law_web_here"] 2 (kKH):=by
 refine qO B.X B.d36 fH λ f a3 A a0 s0 H vs Q E nN hr h=>?_;obtain⟨t,W,rfl,hW,G,a2,k⟩:=h;refine⟨_,(kJ (kW (pf (aK B) hr (p2 (jG (Nc:=["_law_row"]) (js:=[none]) rfl rfl (yI (pv 0)) (CS.of rfl rfl) rfl (λ C N J fp T=>(pgc 0)) (λ C N J fp T D L=>(qF (qV (show PE _ _ (kQQ K _ _) from(kOZ (pv 0) (qK (bD vC kI)))))))) (kFL rfl rfl (B.z B.y12) rfl (B.z B.y3) (p1 (kS kR rfl (B.z B.y0) fb (p1 (pv 0))))))))),?_⟩
 try dsimp only[qX]
 obtain⟨wt,q,s,O⟩:=id hW;have S:=(Wb.of G).toNb;refine⟨_,rfl,t,rfl,⟨_,SqT.of q⟩,λ D nD=>?_⟩;refine jM (xs:=wt.map V.ref) (λ i σ m=>∃(Y:Option V)(d:List av),σ=[Y]/\Same H m/\m D=some (.lst (d.map V.ref))/\d.length=i/\∀(j:Nat)(a:av)(row:List Nat),d[j]?=some a->W[j]?=some row->m a=some (.tup (row.reverse.map vn))) ⟨none,[],rfl,kC nD _,kA,rfl,λ j a row e=>by simp at e⟩ ?_ ?_ ?_
 ·rintro i σ m _ ⟨Y,d,rfl,o,_⟩
  exact SqT.of (o _ _ q)
 ·rintro i x σ m hx ⟨Y,d,rfl,o,hD,ld,hd⟩
  rw[bb]at hx;obtain⟨a,ea,rfl⟩:=bp.mp hx;have hi:i<W.length:=by rw[<-s];exact(ak.mp ea).1
  have n:=ae hi;have ha:=o _ _ (O i a _ ea n);refine⟨_,rfl,_,rfl,_,rfl,a,_,rfl,rfl,ha,λ p np=>?_⟩;have Z:=kC np (.tup (W[i].map vn).reverse);refine⟨_,Z _ _ hD,(by rw[aj,ld];exact kQ (by omega)),?_⟩
  have st:∀ b U,upd m p (.tup (W[i].map vn).reverse) b=some (.tup U)->upd (upd m p (.tup (W[i].map vn).reverse)) D (.lst (d.map V.ref++[.ref p])) b=some (.tup U):=λ b U e=>by
   rw[kL λ z=>by rw[z,Z _ _ hD]at e;cases e];exact e
  refine⟨_,d++[p],rfl,kZ nD (o.trans Z),by rw[cu];exact kA,by rw[bu,ld];rfl,λ j b row v y=>?_⟩;rcases snoc v with⟨c,v⟩ | ⟨ej,v⟩
  ·exact st _ _ (Z _ _ (hd j b row v y))
  ·rw[ej,ld,n]at y
   cases v
   cases y
   rw[List.map_reverse];exact st _ _ kA
 ·rintro σ m ⟨Y,d,rfl,o,hD,ld,hd⟩
  rw[aj,s]at ld;refine⟨_,rfl,t,_,rfl,.inr (SqT.of (o _ _ q)),W.length,(by rw[aj,s]),by omega,λ l nl=>?_⟩;have gl:=kC nl (.lst (vT W.length));have a1:upd m l (.lst (vT W.length)) l=some (.lst ((cf W.length).map vn)):=kA;refine⟨false,D,l,d,W.map fc,cf W.length,rfl,⟨gl _ _ hD,by rw[aj];exact ld,λ i a ns v y=>?_⟩,a1,by rw[aj],⟨by rw[aj];have:=G.three;omega,by rw[aj];omega,λ p row e=>?_⟩,λ p row e x hx=>?_,λ u M H' g hM lM I=>?_⟩
  ·rw[bb]at y
   obtain⟨row,n,rfl⟩:=bp.mp y;exact gl _ _ (hd i a row v n)
  ·rw[bb]at e
   obtain⟨r,n,rfl⟩:=bp.mp e;obtain⟨h1,h2⟩:=(wV G (by omega)).ne p r n;exact⟨λ z=>h1 (by simpa using z),by rw[wz];exact h2⟩
  ·rw[bb]at e
   obtain⟨r,n,rfl⟩:=bp.mp e;rw[aj];exact(G.rng p r x n (ou.mp hx)).1
  ·rw[aj]at lM I
   exact k u M H' (o.trans (gl.trans g)) hM (kIE S lM I)
inductive kEO(vs:List V)(H:Hp)(Q:VK)(Y:XK):Prop
 | mk:∀(a:av)(x y:V)(r:List V),(vs=[.ref a])->H a=some (.tup (x::y::r))->r.length<=900->(∀(t:av)(H':Hp),Same H H'->H' t=some (.tup (y::x::r))->Q (.ref t) H')->kEO vs H Q Y
def jY(B:Fx):Hs "_law_other_hand" ["_law_order"] 1 (kEO):=by
 refine qO B.X B.d37 aZ λ f C A d I H J Q E G D h=>?_;obtain⟨a,x,y,r,rfl,g,q,k⟩:=h;refine⟨_,(kJ (kW (kY fQ (qS (p2 (pix qB (pv 0) kI) (pix qB (pv 0) kI))) (qL zU (pv 0) (qK kI) jL)))),?_⟩
 try dsimp only[qX]
 refine⟨_,rfl,a,_,_,_,rfl,rfl,SqT.of g,qP (j:=1) rfl,_,rfl,a,_,_,_,rfl,rfl,SqT.of g,qP (j:=0) rfl,yS2,λ p1 u=>?_⟩;have l:=kC u (.tup [y,x]);refine⟨_,rfl,2,rfl,a,_,rfl,l _ _ g,λ p2 s c i=>?_⟩;have c:Same _ s:=λ b o e=>c b o e
 have p:yD (x::y::r) (some 2) none=r:=by
  rw[show(2:Int)=((2:Nat):Int) from rfl,yZ _ (by simp)]
  rfl
 rw[p]at i;refine⟨p1,p2,_,_,rfl,rfl,c _ _ kA,i,(gk (kQ (by show 2+r.length<=1000;omega))),λ t v m n=>?_⟩;exact k t v (l.trans (c.trans λ b o e=>m b o e)) n
inductive tU(vs:List V)(H:Hp)(Q:VK)(Y:XK):Prop
 | mk:∀(l a:av)(ns ms:List Nat),(vs=[.ref l,.ref a])->H l=some (.lst (ns.map vn))->H a=some (.tup (ms.map vn))->(∀ x∈ms,x<ns.length)->ms.length<=900->(∀(t:av)(H':Hp),Same H H'->H' t=some (.tup ((ms.map λ x=>ns.getD x 0).map vn))->Q (.ref t) H')->tU vs H Q Y
def aD(B:Fx):Hs "_law_called" ["_law_names_here","_law_some"] 1 (tU):=by
 refine qO B.X B.d38 mY λ f T A r Z H vs Q E Y U h=>?_;obtain⟨l,a,s,v,rfl,M,y,p,O,k⟩:=h;refine⟨_,(kJ (kW (qU qE rfl (B.z B.y6) gy (p1 (jG (Nc:=["_law_p","_law_names_here"]) (js:=[none,some 0]) rfl rfl (yI (pv 1)) (CS.of rfl rfl) rfl (λ C d c S g=>(pgc 0)) (λ C d c S g D L=>(qF (qV (pix (show IxR _ (kHV K) from kX) (pv 1) (pv 0)))))))))),?_⟩
 try dsimp only[qX]
 refine⟨_,rfl,a,rfl,⟨_,SqT.of y⟩,λ D G=>?_⟩;refine jM (xs:=v.map vn) (λ i n j=>∃(m:Option V),n=[m,some (.ref l)]/\Same H j/\j D=some (.lst (((v.take i).map λ x=>s.getD x 0).map vn))) ⟨none,rfl,kC G _,kA⟩ ?_ ?_ ?_
 ·rintro i n j _ ⟨m,rfl,b,_⟩
  exact SqT.of (b _ _ y)
 ·rintro i x n j I ⟨m,rfl,b,o⟩
  rw[bb]at I;obtain⟨q,J,rfl⟩:=bp.mp I;have u:=p q (dh J);refine⟨_,rfl,_,rfl,l,_,_,_,rfl,rfl,SqL.of (b _ _ M),fX u,_,o,(by rw[aj,aj,dq];exact kQ (by omega)),?_⟩;refine⟨_,rfl,kZ G b,?_⟩;rw[jd,J,cu,cu];have:s[q]=s.getD q 0:=by rw[ao,ae u];rfl
  rw[this];exact kA
 ·rintro n j ⟨m,rfl,b,o⟩
  rw[aj,iL]at o;refine⟨D,_,rfl,.inl ⟨SqL.of o,λ t N=>?_⟩⟩;exact k t _ (b.trans (kC N _)) kA
end
section
structure RwT(H:Hp)(t:av)(ta:List av)(L:List (List Int)):Prop where
 top:H t=some (.tup (ta.map V.ref))
 len:ta.length=L.length
 row:∀(i:Nat)(a:av)(r:List Int),ta[i]?=some a->L[i]?=some r->H a=some (.tup (r.map V.int))
structure RwL(H:Hp)(t:av)(ta:List av)(L:List (List Int)):Prop where
 top:H t=some (.lst (ta.map V.ref))
 len:ta.length=L.length
 row:∀(i:Nat)(a:av)(r:List Int),ta[i]?=some a->L[i]?=some r->H a=some (.tup (r.map V.int))
def RwT.kept{H H':Hp}{t:av}{b:List av}{L:List (List Int)}(h:RwT H t b L)(g:Same H H'):RwT H' t b L:=⟨g _ _ h.top,h.len,λ i a r d c=>g _ _ (h.row i a r d c)⟩
def RwL.kept{H H':Hp}{t:av}{b:List av}{L:List (List Int)}(h:RwL H t b L)(g:Same H H'):RwL H' t b L:=⟨g _ _ h.top,h.len,λ i a r d c=>g _ _ (h.row i a r d c)⟩
def r3(s:Nat×Int×Int):List Int:=[(s.1:Int),s.2.1,s.2.2]
theorem TrT.rw{H:Hp}{t:av}{b:List av}{S:List (Nat×Int×Int)}(h:TrT H t b S):RwT H t b (S.map r3):=⟨h.top,by rw[aj];exact h.len,λ i a r f c=>by
 rw[bb]at c;obtain⟨s,d,rfl⟩:=bp.mp c;exact h.row i a s f d⟩
def yB(r:List Int):CY:=.tuple (r.map kb)
def kBQ{H:Hp}(r:List Int):DtAll K H (r.map kb) (r.map V.int):=by
 induction r with
 | nil=>unfold DtAll;rfl
 | cons x r ih =>
  rw[eZ,eZ];unfold DtAll;exact⟨_,_,rfl,(by unfold Dt;rfl),ih⟩
theorem sQ{H:Hp}:∀{c:List av}{L:List (List Int)},c.length=L.length->(∀(i:Nat)(a:av)(r:List Int),c[i]?=some a->L[i]?=some r->H a=some (.tup (r.map V.int)))->DtAll K H (L.map yB) (c.map V.ref)
 | [],[],_,_=>by unfold DtAll;rfl
 | s::ss,t::T,hl,h=>by
  rw[eZ,eZ];unfold DtAll;refine⟨_,_,rfl,?_,sQ (by simpa using hl) λ i b u f d=>h (i+1) b u (by simpa using f) (by simpa using d)⟩;unfold yB Dt;exact⟨s,_,rfl,SqT.of (h 0 s t rfl rfl),kBQ t⟩
 | [],_::_,hl,_=>by simp at hl
 | _::_,[],hl,_=>by simp at hl
def RwT.dt{H:Hp}{t:av}{a:List av}{L:List (List Int)}(h:RwT H t a L):Dt K H (.tuple (L.map yB)) (.ref t):=by
 unfold Dt;exact⟨t,_,rfl,SqT.of h.top,sQ h.len h.row⟩
def RwL.dt{H:Hp}{t:av}{a:List av}{L:List (List Int)}(h:RwL H t a L):Dt K H (.list (L.map yB)) (.ref t):=by
 unfold Dt;exact⟨t,_,rfl,SqL.of h.top,sQ h.len h.row⟩
def oW(r:List Int):jh (r.map kb)=true/\kq (r.map kb)=0:=by
 induction r with
 | nil=>exact⟨rfl,by decide⟩
 | cons x l ih=>simp[jh,kq,ka,nj,ih]
def cN(L:List (List Int)):jh (L.map yB)=true/\kq (L.map yB)<=1:=by
 induction L with
 | nil=>exact⟨rfl,by decide⟩
 | cons x l ih =>
  obtain⟨h1,a⟩:=oW x;simp only[eZ,jh,kq,yB,ka,nj,h1,a,ih.1];have:=ih.2;refine⟨rfl,?_⟩;unfold yB at this;omega
def kKX(L:List (List Int)):jg (.list (L.map yB))=true:=by
 obtain⟨h1,a⟩:=cN L;unfold jg;simp only[ka,nj,h1]
 first | (simp;omega) | (rw[iI];exact⟨rfl,decide_eq_true (by omega)⟩) | simp_all
def oX(l:List Int):iU (l.map kb) (l.map kb)=true:=by
 induction l with
 | nil=>rfl
 | cons x l ih=>simp[iU,ie,ih]
def cO(L:List (List Int)):iU (L.map yB) (L.map yB)=true:=by
 induction L with
 | nil=>rfl
 | cons x l ih=>simp[iU,ie,ih,yB,oX]
def kHR(L:List (List Int)):ie (.list (L.map yB)) (.list (L.map yB))=true:=by simp[ie,cO]
def kCM{A B L M:List (List Int)}(p:A.Perm B)(d:L.Perm A)(h:M.Perm B)(f:L.Pairwise (λ a b=>Srt.lexLt b a=false))(c:M.Pairwise (λ a b=>Srt.lexLt b a=false)):L=M :=
 List.Perm.eq_of_pairwise (le:=λ a b=>Srt.lexLt b a=false) (λ a b _ _ h1 g=>Srt.lex_tot a b g h1) f c (d.trans (p.trans h.symm))
def TrT.ps{H:Hp}{t:av}{a:List av}{S:Sps}(h:TrT H t a S):((a.zip (S.map r3)).map λ q=>V.ref q.1)=a.map V.ref/\kNT H (a.zip (S.map r3))/\(a.zip (S.map r3)).map qh=S.map r3:=by
 have g:a.length=(S.map r3).length:=by rw[aj];exact h.len
 refine⟨?_,λ q f=>?_,zd (by omega)⟩
 ·show(a.zip (S.map r3)).map (V.ref∘BZ)=_
  rw[<-sh,Am (by omega)]
 ·obtain⟨j,c⟩:=Ae.mp f
  obtain⟨d,b⟩:=kj.mp c;refine⟨h.rw.row j _ _ d b,λ z=>?_⟩;rw[bb]at b;obtain⟨s,_,e⟩:=bp.mp b;rw[<-e]at z;cases z
def oH{H:Hp}{l:av}{ps:List (av×List Int)}(h:H l=some (.lst (ps.map λ q=>V.ref q.1)))(t:∀ q∈ps,H q.1=some (.tup (q.2.map V.int))):RwL H l (ps.map BZ) (ps.map qh) :=
 ⟨by rw[h,sh];rfl,by rw[aj,aj],λ i a r c b=>by
  rw[bb]at c b;obtain⟨q,d,rfl⟩:=bp.mp c;rw[d]at b;cases b
  exact t q (dh d)⟩
structure GrT(H:Hp)(t:av)(us:List av)(S:Nat->Sps)(m:Nat):Prop where
 top:H t=some (.tup (us.map V.ref))
 len:us.length=m
 row:∀(j:Nat)(u:av),us[j]?=some u->∃ ta,TrT H u ta (S j)
theorem GrT.kept{H H':Hp}{t:av}{a:List av}{S:Nat->Sps}{m:Nat}(h:GrT H t a S m)(g:Same H H'):GrT H' t a S m:=⟨g _ _ h.top,h.len,λ j u e=>by
 obtain⟨c,q⟩:=h.row j u e;exact⟨c,q.kept λ b d e=>g _ _ e⟩⟩
def GrT.at{H:Hp}{t:av}{b:List av}{S:Nat->Sps}{m j:Nat}(h:GrT H t b S m)(c:j<m):∃ u ta,atI (b.map V.ref) (0+(j:Int))=some (.ref u)/\TrT H u ta (S j):=by
 have a:j<b.length:=by rw[h.len];exact c
 obtain⟨ta,q⟩:=h.row j _ (ae a);exact⟨b[j],ta,by rw[wc];exact qP (by rw[bb,ae a];rfl),q⟩
def R3At(H:Hp)(t:av)(b:List av)(L:List (List (List Int))):Prop:=H t=some (.tup (b.map V.ref))/\b.length=L.length/\∀(i:Nat)(a:av)(r:List (List Int)),b[i]?=some a->L[i]?=some r->∃ c,RwT H a c r
def d3(L:List (List (List Int))):CY:=.tuple (L.map λ r=>.tuple (r.map yB))
theorem kVL{H:Hp}:∀{c:List av}{L:List (List (List Int))},c.length=L.length->(∀(i:Nat)(a:av)(r:List (List Int)),c[i]?=some a->L[i]?=some r->∃ aa,RwT H a aa r)->DtAll K H (L.map λ r=>.tuple (r.map yB)) (c.map V.ref)
 | [],[],_,_=>by unfold DtAll;rfl
 | s::ss,t::T,hl,h=>by
  rw[eZ,eZ];unfold DtAll;obtain⟨aa,q⟩:=h 0 s t rfl rfl;exact⟨_,_,rfl,q.dt,kVL (by simpa using hl) λ i b u f d=>h (i+1) b u (by simpa using f) (by simpa using d)⟩
 | [],_::_,hl,_=>by simp at hl
 | _::_,[],hl,_=>by simp at hl
def R3At.dt{H:Hp}{t:av}{a:List av}{L:List (List (List Int))}(h:R3At H t a L):Dt K H (d3 L) (.ref t):=by
 unfold d3 Dt;exact⟨t,_,rfl,SqT.of h.1,kVL h.2.1 h.2.2⟩
def kTT(L:List (List (List Int))):jh (L.map λ r=>Cg (r.map yB))=true/\kq (L.map λ r=>Cg (r.map yB))<=2:=by
 induction L with
 | nil=>exact⟨rfl,by decide⟩
 | cons x l ih =>
  obtain⟨h1,a⟩:=cN x;simp only[eZ,jh,kq,ka,nj,h1,ih.1];have:=ih.2;refine⟨rfl,?_⟩;omega
def kRJ(L:List (List (List Int))):jg (d3 L)=true:=by
 obtain⟨h1,a⟩:=kTT L;unfold d3 jg;simp only[ka,nj,h1]
 first | (simp;omega) | (rw[iI];exact⟨rfl,decide_eq_true (by omega)⟩) | simp_all
def kTU(L:List (List (List Int))):ie (d3 L) (d3 L)=true:=by
 unfold d3
 have:iU (L.map λ r=>Cg (r.map yB)) (L.map λ r=>Cg (r.map yB))=true:=by
  induction L with
  | nil=>rfl
  | cons x l ih=>simp[iU,ie,ih,cO]
 simp[ie,this]
def TK(H H':Hp):Prop:=∀ b a,H b=some (.tup a)->H' b=some (.tup a)
def TK.of{H H':Hp}(g:Same H H'):TK H H':=λ b a e=>g _ _ e
def TK.pot{H H':Hp}{p:av}(h:PotAt H p)(g:SameBut p H H'):TK H H':=λ b a e=>g _ _ (λ z=>by
 obtain⟨x,y,hp,_⟩:=h;rw[z,hp]at e
 cases e) e
def Gw.tk{H H':Hp}{w z o:av}{W:Rows}{d:List Nat}{a b c:Nat}(h:Gw H w z o W d a b c)(g:TK H H'):Gw H' w z o W d a b c :=
 ⟨by obtain⟨l,h1,i,f⟩:=h.web;exact⟨l,g _ _ h1,i,λ j a row n m=>g _ _ (f j a row n m)⟩,h.tr,g _ _ h.base,g _ _ h.ord,h.perm,h.three,h.ab⟩
structure PtT(H:Hp)(t:av)(ta:List av)(n:Nat)(X:Nat->Int×Int):Prop where
 top:H t=some (.tup (ta.map V.ref))
 len:ta.length=n
 row:∀(p:Nat)(a:av),ta[p]?=some a->H a=some (.tup [.int (X p).1,.int (X p).2])
def PtT.tk{H H':Hp}{t:av}{b:List av}{n:Nat}{X:Nat->Int×Int}(h:PtT H t b n X)(g:TK H H'):PtT H' t b n X:=⟨g _ _ h.top,h.len,λ p a e=>g _ _ (h.row p a e)⟩
theorem PtT.rw{H:Hp}{t:av}{b:List av}{n:Nat}{X:Nat->Int×Int}(h:PtT H t b n X):RwT H t b ((cf n).map λ p=>[(X p).1,(X p).2]) :=
 ⟨h.top,by rw[aj,fu,h.len],λ i a r d c=>by
  have f:i<n:=by rw[<-h.len];exact(ak.mp d).1
  rw[bb,ua f]at c;cases c
  exact h.row i a d⟩
def kKW(L:List (List Int)):jg (.tuple (L.map yB))=true:=by
 obtain⟨h1,a⟩:=cN L;unfold jg;simp only[ka,nj,h1]
 first | (simp;omega) | (rw[iI];exact⟨rfl,decide_eq_true (by omega)⟩) | simp_all
def kHQ(L:List (List Int)):ie (.tuple (L.map yB)) (.tuple (L.map yB))=true:=by simp[ie,cO]
def kRH{α:Type}{l:List α}{i:Nat}(h:i<l.length)(d:α):l[i]?=some (l.getD i d):=by
 rw[ao,ae h]
 rfl
def Tr.mir{W M:Rows}(T:Tr W)(h:Mir W M):Tr M:=⟨kLY T.nb h,by rw[h.1];exact T.le,kIF T.nb T.three h,by rw[kPO h,h.1];exact T.cnt⟩
def Tr.base_mir{W M:Rows}(T:Tr W)(h:Mir W M){a b c:Nat}(e:Tri.E W a c)(n:(nxt W (a,c)).2=b):Tri.E M b c/\(nxt M (b,c)).2=a:=by
 have f:=T.three (a,c) (mem_steps.mpr e);obtain⟨z,i,g,d⟩:=xK T.nb e;rw[g]at n f;have n:z=b:=n;subst n;refine⟨(lZ h z c).mpr (T.nb.sym _ _ d),?_⟩;rw[rY T.nb T.three h d];exact f
def kED{H:Hp}{t D:av}{J:List av}{S:Sps}(h:TrT H t J S)(y:H D=none)(X:S.length<=42){B:TE}{L:St->Hp->Prop}(ex:St)(f:Nat×Int×Int->List Int)
  (N:∀ s∈S,∀(H':Hp)(Q:VK),Same H H'->(∀ q,H' q=none->Q (.ref q) (upd H' q (.tup ((f s).map V.int))))->B (some (vn s.1)::some (.int s.2.1)::some (.int s.2.2)::ex) H' Q)
  (Z:∀ σ H5 da,Same H H5->RwL H5 D da (S.map f)->L σ H5):zT (Itt K t) (aO K 3 (mK (vU 0) (mK (vU 1) (mK (vU 2) kQE)))) (kTX D B) L (none::none::none::ex) (upd H D (.lst [])):=by
 refine jM (xs:=J.map V.ref) (λ i σ c=>∃(o p u:Option V)(da:List av),σ=o::p::u::ex/\Same H c/\RwL c D da ((S.take i).map f)) ⟨none,none,none,[],rfl,kC y _,⟨kA,rfl,λ i a r e=>by simp at e⟩⟩ ?_ ?_ ?_
 ·rintro i σ c _ ⟨o,p,u,da,rfl,l,_⟩
  exact SqT.of (l _ _ h.top)
 ·rintro i x σ c C ⟨o,p,u,da,rfl,l,d⟩
  rw[bb]at C;obtain⟨a,G,rfl⟩:=bp.mp C;have I:i<S.length:=by rw[<-h.len];exact(ak.mp G).1
  have v:=ae I;have T:=l _ _ (h.row i a _ G v);refine⟨a,_,rfl,SqT.of T,rfl,_,_,rfl,_,_,rfl,_,_,rfl,rfl,?_⟩;refine N _ (iR I) c _ l λ q O=>?_;have A:=kC O (.tup ((f S[i]).map V.int));have j:=d.kept A;have ld:=d.len;rw[aj,dq]at ld;refine⟨_,j.top,(by rw[aj];exact kQ (by omega)),?_⟩
  have st:∀ b n,upd c q (.tup ((f S[i]).map V.int)) b=some (.tup n)->upd (upd c q (.tup ((f S[i]).map V.int))) D (.lst (da.map V.ref++[.ref q])) b=some (.tup n):=λ b n e=>by
   rw[kL λ z=>by rw[z,j.top]at e;cases e];exact e
  refine⟨_,_,_,da++[q],rfl,kZ y (l.trans A),?_⟩;rw[jd,v,cu];refine⟨by rw[cu];exact kA,by rw[bu,bu,d.len];rfl,λ Y b r m g=>?_⟩;rcases snoc m with⟨U,m⟩ | ⟨M,m⟩
  ·rw[bq (by rw[<-d.len];exact U)]at g
   exact st _ _ (j.row Y b r m g)
  ·rw[M,d.len]at g
   have g:((S.take i).map f++[f S[i]])[((S.take i).map f).length]?=some r:=g;rw[dr]at g;cases m
   cases g
   exact st _ _ kA
 ·rintro σ c ⟨o,p,u,da,rfl,l,d⟩
  rw[aj,h.len,iL]at d;exact Z _ c da l d
def kNZ{H:Hp}{t D:av}{G:List av}{n:Nat}{X:Nat->Int×Int}(h:PtT H t G n X)(v:H D=none)(S:n<=42){A:TE}{I:St->Hp->Prop}(ex:St)(f:Int×Int->List Int)
  (L:∀ p,p<n->∀(H':Hp)(Q:VK),Same H H'->(∀ q,H' q=none->Q (.ref q) (upd H' q (.tup ((f (X p)).map V.int))))->A (some (.int (X p).1)::some (.int (X p).2)::ex) H' Q)
  (Y:∀ σ H5 da,Same H H5->RwL H5 D da ((cf n).map λ p=>f (X p))->I σ H5):zT (Itt K t) (aO K 2 (mK (vU 0) (mK (vU 1) kQE))) (kTX D A) I (none::none::ex) (upd H D (.lst [])):=by
 refine jM (xs:=G.map V.ref) (λ i σ c=>∃(s u:Option V)(da:List av),σ=s::u::ex/\Same H c/\RwL c D da ((cf i).map λ p=>f (X p))) ⟨none,none,[],rfl,kC v _,⟨kA,rfl,λ i a r e=>by simp at e⟩⟩ ?_ ?_ ?_
 ·rintro i σ c _ ⟨s,u,da,rfl,j,_⟩
  exact SqT.of (j _ _ h.top)
 ·rintro i x σ c B ⟨s,u,da,rfl,j,d⟩
  rw[bb]at B;obtain⟨a,C,rfl⟩:=bp.mp B;have U:i<n:=by rw[<-h.len];exact(ak.mp C).1
  have N:=j _ _ (h.row i a C);refine⟨a,_,rfl,SqT.of N,rfl,_,_,rfl,_,_,rfl,rfl,?_⟩;refine L i U c _ j λ q M=>?_;have y:=kC M (.tup ((f (X i)).map V.int));have g:=d.kept y;have ld:=d.len;rw[aj,fu]at ld;refine⟨_,g.top,(by rw[aj];exact kQ (by omega)),?_⟩
  have st:∀ b o,upd c q (.tup ((f (X i)).map V.int)) b=some (.tup o)->upd (upd c q (.tup ((f (X i)).map V.int))) D (.lst (da.map V.ref++[.ref q])) b=some (.tup o):=λ b o e=>by
   rw[kL λ z=>by rw[z,g.top]at e;cases e];exact e
  refine⟨_,_,da++[q],rfl,kZ v (j.trans y),?_⟩;rw[BY,cu];refine⟨by rw[cu];exact kA,by rw[bu,bu,d.len];rfl,λ T b r l m=>?_⟩;rcases snoc l with⟨O,l⟩ | ⟨J,l⟩
  ·rw[bq (by rw[<-d.len];exact O)]at m
   exact st _ _ (g.row T b r l m)
  ·rw[J,d.len,De,dr]at m
   cases l
   cases m
   exact st _ _ kA
 ·rintro σ c ⟨s,u,da,rfl,j,d⟩
  rw[aj,h.len]at d;exact Y _ c da j d
def RwL.ps{H:Hp}{t:av}{a:List av}{L:List (List Int)}(h:RwL H t a L)(d:∀ r∈L,r≠[]):((a.zip L).map λ q=>V.ref q.1)=a.map V.ref/\kNT H (a.zip L)/\(a.zip L).map qh=L:=by
 have i:=h.len;refine⟨?_,λ q g=>?_,zd (by omega)⟩
 ·show(a.zip L).map (V.ref∘BZ)=_
  rw[<-sh,Am (by omega)]
 ·obtain⟨j,c⟩:=Ae.mp g
  obtain⟨f,b⟩:=kj.mp c;exact⟨h.row j _ _ f b,d _ (dh b)⟩
theorem RwL.tup{H H':Hp}{t u:av}{b:List av}{L:List (List Int)}(h:RwL H t b L)(g:Same H H')(c:H' u=some (.tup (b.map V.ref))):RwT H' u b L:=⟨c,h.len,λ i a r f d=>g _ _ (h.row i a r f d)⟩
end
section
def kLZ{W M:Rows}{f:List Nat}{a b c:Nat}{d g:List (List Nat)}(T:Tr W)(mir:Mir W M)(h:Tri.E W a b)(m:f.Perm (cf W.length))(y:3<=W.length)(l:jR W a b c f=some (d,g)) :
  ∃ r,f=a::b::r/\jR M b a c (b::a::r)=some (d.map fc,g.map fc)/\(∀ j,j<=d.length->(gF (b::a::r) (d.map fc) (g.map fc) j).1.Perm ((gF f d g j).1.map λ s=>(s.1,2*(j:Int)-s.2.1,s.2.2)))
   /\ ∀ p,p<W.length->atS (gF (b::a::r) (d.map fc) (g.map fc) d.length).1 p=(2*(d.length:Int)-(atS (gF f d g d.length).1 p).1,(atS (gF f d g d.length).1 p).2):=by
 have i:f.Nodup:=m.nodup_iff.mpr qk;have x:f.length=W.length:=by rw[m.length_eq,fu]
 have ok:=mG T h m y l;obtain⟨r,e,A⟩:=kMG T.nb T.three mir h i (by omega) l;obtain⟨q,u,_,o⟩:=uT (by omega) l;have v:q=r:=by rw[e]at u;injection u with _ z;injection z with _ z;exact z.symm
 subst v;have B:q.length=d.length:=(xD o).1.symm;rw[e]at o i;have R:=kTN T.nb T.three i h (bf _) o;have fst:∀ j,j<=d.length->(gF f d g j).1.map (·.1)=f.take (j+2):=λ j n=>(ok.inv j n).fst;refine⟨q,e,A,λ j n=>?_,λ p hp=>?_⟩
 ·rw[e]
  refine kPM (R j (by omega)) ?_;rw[<-e,fst j n];exact(m.nodup_iff.mpr qk).sublist (xm _ _)
 ·have:=(R d.length (by omega)).at' p (by
   rw[<-e,fst _ (bf _),<-ok.lm,iL];exact m.mem_iff.mpr (iP.mpr hp))
  rw[this,e]
def kLE{W V:Rows}{h d:List Nat}{a b c:Nat}{f l:List (List Nat)}(T:Tr W)(G:Nb V)(u:Ren W V d)(i:Tri.E W a b)(n:h.Perm (cf W.length))(v:3<=W.length)(m:jR W a b c h=some (f,l)) :
  jR V (d.getD a 0) (d.getD b 0) (d.getD c 0) (h.map λ x=>d.getD x 0)=some (f.map (·.map λ x=>d.getD x 0),l.map (·.map λ x=>d.getD x 0))/\(∀ j,j<=f.length->(gF (h.map λ x=>d.getD x 0) (f.map (·.map λ x=>d.getD x 0)) (l.map (·.map λ x=>d.getD x 0)) j).1=(gF h f l j).1.map (rho λ x=>d.getD x 0))
   /\ ∀ p,p<W.length->atS (gF (h.map λ x=>d.getD x 0) (f.map (·.map λ x=>d.getD x 0)) (l.map (·.map λ x=>d.getD x 0)) f.length).1 (d.getD p 0)=atS (gF h f l f.length).1 p:=by
 have o:h.Nodup:=n.nodup_iff.mpr qk;have H:h.length=W.length:=by rw[n.length_eq,fu]
 have ok:=mG T i n v m;obtain⟨B,r,_,q⟩:=uT (by omega) m;have J:B.length=f.length:=(xD q).1.symm;have inj:∀ x∈h,∀ y∈h,d.getD x 0=d.getD y 0->x=y:=λ x D y A z=>u.inj (iP.mp (n.mem_iff.mp D)) (iP.mp (n.mem_iff.mp A)) z;have R:=kTL T.nb T.three (g:=λ x=>d.getD x 0) o (by rw[r];rfl) i (by rw[r];exact bf _) q inj;refine⟨kMF T.nb G u i n v m,λ j I=>(R j (by omega)).1,λ p hp=>?_⟩;rw[(R f.length (by omega)).1];refine kDW (g:=λ x=>d.getD x 0) λ s C z=>inj _ ?_ p (n.mem_iff.mpr (iP.mpr hp)) z;have:s.1∈(gF h f l f.length).1.map (·.1):=fe.mpr ⟨s,C,rfl⟩;rw[(ok.inv _ (bf _)).fst]at this;exact uz this
def kHT{W V:Rows}{a d:List Nat}(b:Ren W V a)(g:d.Perm (cf W.length)):(d.map λ x=>a.getD x 0).Perm (cf V.length):=by
 have f:a.length=W.length:=b.nlen;rw[b.len];refine .trans (g.map _) ?_
 have:(cf W.length).map (λ x=>a.getD x 0)=a:=by
  refine AV λ i=>?_;rw[bb,<-f];rcases iY i a.length with c | c
  ·rw[ua c,ae c]
   show some (a.getD i 0)=_;rw[ao,ae c]
   rfl
  ·rw[jr (by rw[fu];exact c),jr c]
   rfl
 rw[this];exact b.perm
def RwT.tk{H H':Hp}{t:av}{b:List av}{L:List (List Int)}(h:RwT H t b L)(g:TK H H'):RwT H' t b L:=⟨g _ _ h.top,h.len,λ i a r d c=>g _ _ (h.row i a r d c)⟩
def kNE{H:Hp}{a:av}{r:List Int}(h:H a=some (.tup (r.map V.int))):Dt K H (yB r) (.ref a):=by
 unfold yB Dt;exact⟨a,_,rfl,SqT.of h,kBQ r⟩
def kKZ(r:List Int):jg (yB r)=true:=by
 obtain⟨h1,a⟩:=oW r;unfold yB jg;simp only[ka,nj,h1,a]
 rfl
def kOM(r:List Int):ie (yB r) (yB r)=true:=by simp[yB,ie,oX]
def kNQ(n:Nat):(gj n true).all id=true:=vg.mpr λ x a=>(Bj.mp a).2
def kSQ(B:Fx){f:av}{fd:ue}(F:Fun K "law" "law" kEZ f fd):FnOk P w K mg base CX0 11 f fd ["_law_script"] (nU K):=by
 refine F.ok sc_law (λ vs H Q E h=>?_) (λ i3 A h8 s H vs Q E Z h=>?_)
 ·obtain⟨a,ns,rfl,_⟩:=h
  rfl
 obtain⟨a,ns,rfl,hS,fz,q⟩:=h
 refine⟨_,(kH (pst 1 sc_law.nd (pf (kDD B) Z (p2 (pv 0) kI)))
   (kH (pst 2 sc_law.nd (kY xL kI (pf (jH B) Z (p2 (pv 1) kI))))
   (kH (pst 3 sc_law.nd (pf (aK B) Z (p2 (pf (fL B) Z (p2 (pv 1) (pv 2))) (pf (bG B) Z (p2 (pv 1) (pv 2))))))
   (kH (pst 4 sc_law.nd (pf (kAS B) Z (p2 (pv 1) (pv 3))))
   (kH (yH (pf (lN B) Z (kE (pv 1) (kE (pv 3) (kE (pv 4) kU)))) (qW (n:=2) rfl (kN (pgn 5 sc_law.nd) (kN (pgn 6 sc_law.nd) qM))))
   (kH (pst 7 sc_law.nd (pf (bG B) Z (p2 (pv 1) (pv 2))))
   (kH (pst 8 sc_law.nd (pf (lQ B) Z (kE (pv 3) (kE (pv 4) (kE (pv 5) kU)))))
   (kH (pst 9 sc_law.nd (pf (rT B) Z (kE (pv 3) (kE (pv 4) (kE (pv 5) kU)))))
   (kH (pst 10 sc_law.nd (pf (fK B) Z (p1 (pv 3))))
   (kH (pst 11 sc_law.nd (pf (lQ B) Z (kE (pv 10) (kE (pf (jY B) Z (p1 (pv 4))) (kE (pf (jY B) Z (p1 (pv 5))) kU)))))
   (kH (pst 12 sc_law.nd (qS (kE (pf (aK B) Z (p2 (jG (Nc:=["_law_row"]) (js:=[none]) rfl rfl (yI (pv 3)) (CS.of rfl rfl) rfl (λ C N O fp J=>(pgc 0)) (λ C N O fp J D L=>(qF (qV (qU (show zD _ _ (wJ K) from cE) rfl (B.z B.y12) Ce (p1 (pv 0))))))) (pv 7))) (kE (pf (aD B) Z (p2 (pv 7) (pv 4))) (kE (pf (aD B) Z (p2 (pv 7) (pv 5))) kU)))))
   (kH (rK (xE rfl (B.z B.y3) (p1 (kY yN (pv 2) kI))) (pgn 13 sc_law.nd) (kJ (yM (qG (cS Z.units) (kS vO rfl (B.z B.y7) si (p1 (pix qB (pv 11) (pv 13)))) (kS vO rfl (B.z B.y7) si (p1 (jG (Nc:=["_law_p","_law_x","_law_y","_law_k"]) (js:=[none,none,none,some 13]) rfl rfl (yI (pix qB (pv 8) (pv 13))) (CS.of rfl rfl) rfl (λ C N O fp J=>(show PG _ _ (aO K 3 _) from qW rfl (kN (jT (i:=0) (show tz (α:=Str) ["_law_p","_law_x","_law_y","_law_k"] by decide +kernel) rfl (ui rfl)) (kN (jT (i:=1) (show tz (α:=Str) ["_law_p","_law_x","_law_y","_law_k"] by decide +kernel) rfl (ui rfl)) (kN (jT (i:=2) (show tz (α:=Str) ["_law_p","_law_x","_law_y","_law_k"] by decide +kernel) rfl (ui rfl)) qM))))) (λ C N O fp J D L=>(qF (qV (qS (kE (pv 0) (kE (kY yN (kY lH kI (pv 3)) (pv 1)) (kE (pv 2) kU)))))))))) (jA _)) (kJ (kW oM)) jD)))
   (kH (yM (qG (cS Z.units) (pf (lQ B) Z (kE (pix qB (pv 12) kI) (kE (pix qB (pv 12) kI) (kE (pix qB (pv 12) kI) kU)))) (qU qE rfl (B.z B.y6) gy (p1 (jG (Nc:=["_law_one","_law_names_here"]) (js:=[none,some 7]) rfl rfl (yI (pv 8)) (CS.of rfl rfl) rfl (λ C N O fp J=>(pgc 0)) (λ C N O fp J D L=>(qF (qV (qU (show zD _ _ (yL K) from qE) rfl (B.z B.y6) gy (p1 (jG (Nc:=["_law_p","_law_x","_law_y","_law_names_here"]) (js:=[none,none,none,some 1]) rfl rfl (show PI _ _ _ (kTH K _) from(yI (pv 0))) (CS.of rfl rfl) rfl (λ C N O fp J=>(show PG _ _ (aO K 3 _) from qW rfl (kN (jT (i:=0) (show tz (α:=Str) ["_law_p","_law_x","_law_y","_law_names_here"] by decide +kernel) rfl (ui rfl)) (kN (jT (i:=1) (show tz (α:=Str) ["_law_p","_law_x","_law_y","_law_names_here"] by decide +kernel) rfl (ui rfl)) (kN (jT (i:=2) (show tz (α:=Str) ["_law_p","_law_x","_law_y","_law_names_here"] by decide +kernel) rfl (ui rfl)) qM))))) (λ C N O fp J D L=>(qF (qV (qS (kE (pix (show IxR _ (kHV K) from kX) (pv 3) (pv 0)) (kE (pv 1) (kE (pv 2) kU)))))))))))))))) (jA _)) (kJ (kW oM)) jD)
   (kH (yM (qG (cS Z.units) (pf (rT B) Z (kE (pv 10) (kE (pf (jY B) Z (p1 (pv 4))) (kE (pf (jY B) Z (p1 (pv 5))) kU)))) (qU qE rfl (B.z B.y6) gy (p1 (jG (Nc:=["_law_x","_law_y","_law_n"]) (js:=[none,none,some 2]) rfl rfl (yI (pv 9)) (CS.of rfl rfl) rfl (λ C N O fp J=>(show PG _ _ (aO K 2 _) from qW rfl (kN (pgc 0) (kN (pgc 1) qM)))) (λ C N O fp J D L=>(qF (qV (qS (p2 (kY yN (kY yN (kY lH kI (pv 2)) kI) (pv 0)) (pv 1))))))))) (jA _)) (kJ (kW oM)) jD)
   (kH (pst 14 sc_law.nd (pf (rT B) Z (kE (pix qB (pv 12) kI) (kE (pix qB (pv 12) kI) (kE (pix qB (pv 12) kI) kU)))))
   (kJ (kW (kS (dE rfl) rfl (B.z B.y11) Ad (p1 (jG (Nc:=["_law_p","_law_found","_law_last","_law_names_here"]) (js:=[none,some 14,some 9,some 7]) rfl rfl (xE rfl (B.z B.y3) (p1 (pv 2))) (CS.of rfl rfl) rfl (λ C N O fp J=>(jT (i:=0) (show tz (α:=Str) ["_law_p","_law_found","_law_last","_law_names_here"] by decide +kernel) rfl (ui rfl))) (λ C N O fp J D L=>(qF (qV (uS (show OpR _ _ (kOU K false) from kDC Z.units) (pix (show IxR _ (kAJ K) from qB) (pv 1) (pix (show IxR _ (kHV K) from kX) (pv 3) (pv 0))) (pix (show IxR _ (kAJ K) from qB) (pv 2) (pv 0)) (jA _))))))))))))))))))))))))),?_⟩
 try dsimp only[qX]
 refine⟨_,rfl,a,ns,_,rfl,hS,fz,(by decide),(by decide),λ p x y H1 hx g1 np hp=>?_⟩;have pA:PotAt H1 p:=⟨x,y,hp,hx⟩;have np:H p=none:=np;refine⟨_,rfl,p,_,rfl,pA,(by show(0:Int)<12;decide),nA (by decide),λ d1 H4 ge hn s4 p4=>⟨_,_,rfl,rfl,?_⟩⟩;obtain⟨d,rfl⟩:=qc ge;refine⟨_,rfl,_,rfl,p,3+d,rfl,p4,by omega,by omega,λ r A L H5 s5 p5 X GL lL NW=>?_⟩;refine⟨_,rfl,_,rfl,p,3+d,rfl,p5,by omega,λ l nm H6 s6 p6 nl la hl pm=>?_⟩;have X6:=X.but NW.pot.1 NW.pot.2 s6;rw[<-lL]at pm;refine⟨true,r,l,A,L,nm,rfl,X6.k,hl,pm,wV GL (by omega),(λ p row e x hx=>(GL.rng p row x e hx).1),λ t W H7 g7 hW lW f6=>?_⟩;have G:Good W:=kAH GL (oQ pm lW f6);have d9:W.length=3+d:=by rw[lW,lL]
 have ax:W.length<=42:=by omega
 have p7:=p6.kept g7;clear X X6 NW hl f6;refine⟨_,rfl,_,rfl,p,t,W,rfl,p7,hW,G,ax,λ z U y' c' H8 s8 p8 nz hz b7 b0=>?_⟩;have d8:=hW.pot s8 p7;refine⟨_,rfl,_,rfl,_,rfl,p,t,z,W,U,y',c',rfl,p8,d8,G,ax,hz,b7,b0,λ tt o rl ra ms I Ts H9 s9 p9 f4 ho RN aq a4=>?_⟩;have e3:=d8.pot s9 p8;obtain⟨i6,hm,dd,_⟩:=id p8;have f3:=s9 z _ (λ q=>by rw[q,dd]at hz;cases hz) hz;refine⟨tt,_,rfl,SqT.of f4,rfl,_,_,rfl,_,_,rfl,rfl,?_⟩;have S:=(Wb.of G).toNb;have T:Tr W:=⟨S,ax,(jC G).1,(jC G).2⟩;obtain⟨Y,m1,m2,m3,e1,e2⟩:=qT S T.three b7;rw[m1]at b0;have b0:Y=y':=b0;subst b0;have a5:Tri.E W U Y:=S.sym _ _ e2;have GG:Gw H9 t z o W ms U Y c':=⟨e3,T,f3,ho,a4,G.three,a5⟩;have ab:Tri.E W U c'/\(nxt W (U,c')).2=Y:=⟨b7,by rw[m1]⟩;have ok:=mG T a5 a4 G.three aq;have b9:ms.length=W.length:=by rw[a4.length_eq,fu]
 have hw:I.length+2=W.length:=by have:=ok.lm;omega
 clear hW d8 e3 hz f3 RN f4 ho;refine⟨_,rfl,_,rfl,p,3+d,rfl,p9,by omega,λ nl m i2 hc i8 i7 ht e9 e5=>?_⟩;have al:=GG.tk (TK.pot p9 hc);refine⟨_,rfl,_,rfl,_,rfl,t,z,o,W,ms,U,Y,c',I,Ts,rfl,al,ab,aq,λ fo us i4 f9 fm fr fl=>?_⟩;have b6:=al.kept f9;refine⟨_,rfl,_,rfl,_,rfl,t,z,o,W,ms,U,Y,c',I,Ts,rfl,b6,ab,aq,λ lt ed db d4 ex f8 eu=>?_⟩;have a8:=b6.kept d4;have bo:GrT db fo us (λ j=>(gF ms I Ts j).1) (I.length+1):=GrT.kept ⟨fm,fr,fl⟩ d4;have c5:PtT db lt ed W.length (atS (gF ms I Ts I.length).1):=⟨ex,f8,eu⟩;have c3:=d4 _ _ (f9 _ _ e9);clear e9 fm fr fl ex f8 eu GG al b6;refine⟨_,rfl,t,W,rfl,a8.web,G,ax,λ mt M hu c8 hM mir=>?_⟩;obtain⟨r',ay,el,f0,fg⟩:=kLZ T mir a5 a4 G.three aq;refine⟨_,rfl,_,rfl,z,vn U,vn Y,[vn c'],rfl,c8 _ _ a8.base,(by show 1<=900;decide),λ z2 i1 b8 dn=>?_⟩;refine⟨_,rfl,o,vn U,vn Y,r'.map vn,rfl,(by rw[b8 _ _ (c8 _ _ a8.ord),ay];rfl),(by rw[aj];rw[ay]at b9;simp only[iJ]at b9;omega),λ o2 gr bc eb=>?_⟩
 have as:(Y::U::r').Perm (cf M.length):=by
  rw[mir.1];rw[ay]at a4;exact(DB _ _ _).trans a4
 have c1:=T.base_mir mir ab.1 ab.2;have b4:Gw gr mt z2 o2 M (Y::U::r') Y U c':=⟨hM.kept (b8.trans bc),T.mir mir,bc _ _ dn,eb,as,by rw[mir.1];exact G.three,(lZ mir Y U).mpr (S.sym _ _ a5)⟩;refine⟨mt,z2,o2,M,Y::U::r',Y,U,c',_,_,rfl,b4,c1,el,λ ce gb c9 ez bt aw bn=>?_⟩;rw[aj]at aw;have ff:GrT c9 ce gb (λ j=>(gF (Y::U::r') (I.map fc) (Ts.map fc) j).1) (I.length+1):=⟨bt,aw,bn⟩;have bi:=c8.trans (b8.trans (bc.trans ez));have a7:=a8.kept bi;have bx:=bo.kept bi;have c2:=c5.tk (TK.of bi);have a6:=bi _ _ c3;have bw:=hM.kept (b8.trans (bc.trans ez));clear bt aw bn a8 bo c5 c3 dn eb b4 hM;obtain⟨wt,cc,f5,c4⟩:=id a7.web;refine⟨_,rfl,t,rfl,⟨_,SqT.of cc⟩,λ D nD=>?_⟩;refine jM (xs:=wt.map V.ref) (λ i σ H2=>∃(x0:Option V)(da:List av),σ=[x0]/\Same c9 H2/\H2 D=some (.lst (da.map V.ref))/\da.length=i/\∀(j:Nat)(a:av)(row:List Nat),da[j]?=some a->W[j]?=some row->H2 a=some (.lst (row.map vn))/\c9 a=none/\a≠D) ⟨none,[],rfl,kC nD _,kA,rfl,λ j a row e=>by simp at e⟩ ?_ ?_ ?_
 ·rintro i σ H2 _ ⟨x0,da,rfl,g2,_⟩
  exact SqT.of (g2 _ _ cc)
 ·rintro i x σ H2 hx ⟨x0,da,rfl,g2,hD,ld,hd⟩
  rw[bb]at hx;obtain⟨a,ea,rfl⟩:=bp.mp hx;have hi:i<W.length:=by rw[<-f5];exact(ak.mp ea).1
  have er:=ae hi;have ha:=g2 _ _ (c4 i a _ ea er);refine⟨_,rfl,a,_,rfl,.inr (SqT.of ha),λ p' ba=>?_⟩;have gp:=kC ba (.lst (W[i].map vn));refine⟨_,gp _ _ hD,(by rw[aj,ld];exact kQ (by omega)),?_⟩;have dg:p'≠D:=λ z=>by rw[z,hD]at ba;cases ba
  refine⟨_,da++[p'],rfl,kZ nD (g2.trans gp),by rw[cu];exact kA,by rw[bu,ld];rfl,λ j b row e1 e2=>?_⟩;rcases snoc e1 with⟨c,e1⟩ | ⟨ej,e1⟩
  ·obtain⟨h1,h2,h3⟩:=hd j b row e1 e2
   exact⟨by rw[kL h3];exact gp _ _ h1,h2,h3⟩
  ·rw[ej,ld,er]at e2
   cases e1
   cases e2
   exact⟨by rw[kL dg];exact kA,g2.free ba,dg⟩
 rintro σ hy ⟨x0,da,rfl,ey,hD,ld,hd⟩;rw[aj,f5]at ld;refine⟨_,rfl,true,D,nl,da,W,m,rfl,⟨hD,ld,λ i a ns e1 e2=>(hd i a ns e1 e2).1⟩,ey _ _ a6,(by rw[d9];exact e5),wV G (by omega),(λ p row e x hx=>(G.rng p row x e hx).1),λ t2 W2 i5 h7 ew gg dz=>?_⟩;have rn:=oQ (by rw[d9];exact e5) gg dz;have ca:m.length=W.length:=rn.nlen;have G2:Good W2:=kAH G rn;have S2:=(Wb.of G2).toNb;have T2:Tr W2:=⟨S2,by omega,(jC G2).1,(jC G2).2⟩;obtain⟨e6,fi,ef⟩:=kLE T S2 rn a5 a4 G.three aq;have cl:=ey.trans h7
 have inr:∀ x∈[U,Y,c'],x<m.length:=λ x hx=>by
  rw[ca];simp only[eA,ml,or_false]at hx;rcases hx with rfl | rfl | rfl
  ·exact(S.e a5).1
  ·exact(S.e a5).2.1
  ·exact(S.e b7).2.1
 refine⟨_,rfl,_,rfl,nl,z,m,[U,Y,c'],rfl,cl _ _ a6,cl _ _ a7.base,inr,(by show 3<=900;decide),λ z3 i0 dy e0=>?_⟩;have cz:=cl.trans dy;refine⟨_,rfl,_,rfl,nl,o,m,ms,rfl,cz _ _ a6,cz _ _ a7.ord,(λ x hx=>by rw[ca];exact iP.mp (a4.mem_iff.mp hx)),(by omega),λ o3 d7 d6 fw=>?_⟩;refine⟨yS3,λ ct h9=>?_⟩;have bm:=kC h9 (.tup [.ref t2,.ref z3,.ref o3]);have ek:=kA (H:=d7) (a:=ct) (o:=.tup [.ref t2,.ref z3,.ref o3]);have ah:=cz.trans (d6.trans bm);have bv:Tri.E W2 (m.getD U 0) (m.getD c' 0)/\(nxt W2 (m.getD U 0,m.getD c' 0)).2=m.getD Y 0:=⟨rn.e_to ab.1,by rw[kLD S S2 rn ab.1,ab.2]⟩;have en:Gw (upd d7 ct (.tup [.ref t2,.ref z3,.ref o3])) t2 z3 o3 W2 (ms.map λ x=>m.getD x 0) (m.getD U 0) (m.getD Y 0) (m.getD c' 0):=⟨ew.kept (dy.trans (d6.trans bm)),T2,bm _ _ (d6 _ _ e0),bm _ _ fw,kHT rn a4,by rw[rn.len];exact G.three,rn.e_to a5⟩;have ec:=a7.kept ah;have c6:=bx.kept ah;have fx:=ff.kept ah;have fn:=c2.tk (TK.of ah);have f7:=ah _ _ a6;have ga:=bw.kept ah;generalize upd d7 ct (.tup [.ref t2,.ref z3,.ref o3])=Hc at *;clear e0 fw ew hd hD a7 bx ff c2 a6 bw nD cc c4
 have lS:∀ j,j<=I.length->(gF ms I Ts j).1.length<=42:=λ j hj=>by
  have:=congrArg jb (ok.inv j hj).fst;rw[aj,dq]at this;omega
 refine⟨_,rfl,_,_,rfl,rfl,_,rfl,by omega,by omega,?_⟩;refine zN (n:=(3+(d:Int)-1).toNat) (λ i σ H'=>∃(d5 cr:Option V),σ=[some (.ref a),some (.ref p),some (.int (3+(d:Int))),some (.ref t),some (.ref z),some (.ref o),some (.ref rl),some (.ref nl),some (.ref fo),some (.ref lt),some (.ref mt),some (.ref ce),some (.ref ct),d5,cr]/\Same Hc H') ⟨_,_,rfl,Same.refl _⟩ ?_ ?_
 ·rintro i σ H2 hi ⟨d5,cr,rfl,g2⟩
  have e4:i<I.length+1:=by omega
  obtain⟨u,ta,hg,tu⟩:=(fx.kept g2).at e4;obtain⟨v,tb,gc,tv⟩:=(c6.kept g2).at e4;obtain⟨a1,a2,a3⟩:=tu.ps;refine⟨_,rfl,_,rfl,ce,_,_,_,rfl,rfl,SqT.of (g2 _ _ fx.top),hg,u,_,rfl,.inr (by rw[a1];exact SqT.of tu.top),a2,λ sl ac fy pp pw=>?_⟩;have gs:=kC fy (.lst (ac.map λ q=>V.ref q.1));have gf:=kA (H:=H2) (a:=sl) (o:=.lst (ac.map λ q=>V.ref q.1));have gi:∀ q∈ac,upd H2 sl (.lst (ac.map λ q=>V.ref q.1)) q.1=some (.tup (q.2.map V.int)):=λ q hq=>gs _ _ (a2 q (pp.mem_iff.mp hq)).1;have e7:=g2.trans gs;have fa:=tv.kept (TK.of gs);generalize upd H2 sl (.lst (ac.map λ q=>V.ref q.1))=H3 at *;refine⟨_,rfl,_,rfl,fo,_,_,_,rfl,rfl,SqT.of (e7 _ _ c6.top),gc,v,rfl,⟨_,SqT.of fa.top⟩,λ D2 cn=>?_⟩;refine kED fa cn (lS i (by omega)) [some (.int (0+(i:Int)))] (λ s=>[(s.1:Int),2*(i:Int)-s.2.1,s.2.2]) (λ s hs H' Q g k=>?_) λ σ H5 da g5 af=>?_
  ·refine⟨_,rfl,_,rfl,_,_,rfl,rfl,.inl ⟨by decide,by decide⟩,_,rfl,_,_,rfl,rfl,_,rfl,yS3,λ q nq=>?_⟩
   have:=k q nq;rw[wc];exact this
  ·obtain⟨b1,b2,b3⟩:=af.ps λ r Z=>by
    obtain⟨s,_,rfl⟩:=fe.mp Z;exact λ z=>nomatch z
   refine⟨D2,_,rfl,.inl (by rw[b1];exact SqL.of af.top),b2,λ sm et hf qp qw=>?_⟩;have gm:=kC hf (.lst (et.map λ q=>V.ref q.1));refine⟨_,_,(oH (gm _ _ (g5 _ _ gf)) λ q hq=>gm _ _ (g5 _ _ (gi q hq))).dt,(oH kA λ q hq=>gm _ _ (b2 q (qp.mem_iff.mp hq)).1).dt,kKX _,kKX _,_,rfl,?_⟩
   have e:ac.map qh=et.map qh:=by
    refine kCM (A:=(gF (Y::U::r') (I.map fc) (Ts.map fc) i).1.map r3) (B:=(gF ms I Ts i).1.map λ s=>[(s.1:Int),2*(i:Int)-s.2.1,s.2.2]) ?_ (by have:=pp.map qh;rwa[a3]at this) (by have:=qp.map qh;rwa[b3]at this) (me.mpr pw) (me.mpr qw);have:=(f0 i (by omega)).map r3;rw[sh]at this;exact this
   rw[e,kHR];exact yC ⟨_,_,rfl,e7.trans (g5.trans gm)⟩
 ·rintro σ H2 ⟨d5,cr,rfl,g2⟩
  have am:=g2 _ _ ek;refine⟨_,rfl,ct,_,_,_,rfl,rfl,SqT.of am,qP (j:=0) rfl,_,rfl,ct,_,_,_,rfl,rfl,SqT.of am,qP (j:=1) rfl,_,rfl,ct,_,_,_,rfl,rfl,SqT.of am,qP (j:=2) rfl,t2,z3,o3,W2,_,_,_,_,_,_,rfl,en.kept g2,bv,e6,λ gu gz H3 g3 e8 ap es=>?_⟩;rw[aj]at ap;have ch:=g2.trans g3;have ag:=c6.kept ch;refine⟨_,rfl,fo,rfl,⟨_,SqT.of ag.top⟩,λ D nD=>?_⟩;refine jM (xs:=us.map V.ref) (λ j σ H4=>∃(x0:Option V)(vs:List av),σ=[x0,some (.ref nl)]/\Same H3 H4/\H4 D=some (.lst (vs.map V.ref))/\vs.length=j/\∀(i:Nat)(u:av),vs[i]?=some u->∃ aa,RwT H4 u aa (((gF ms I Ts i).1.map (rho λ x=>m.getD x 0)).map r3)) ⟨none,[],rfl,kC nD _,kA,rfl,λ i u e=>by simp at e⟩ ?_ ?_ ?_
  ·rintro j σ H4 _ ⟨x0,vs,rfl,g4,_⟩
   exact SqT.of (g4 _ _ ag.top)
  ·rintro j x σ H4 hx ⟨x0,vs,rfl,g4,hD,lv,hv⟩
   rw[bb]at hx;obtain⟨v,ev,rfl⟩:=bp.mp hx;have hj:j<I.length+1:=by rw[<-ag.len];exact(ak.mp ev).1
   obtain⟨tb,tv⟩:=ag.row j v ev;have ds:=tv.kept (TK.of g4);have gd:=g4 _ _ (ch _ _ f7);refine⟨_,rfl,v,rfl,⟨_,SqT.of ds.top⟩,λ E' nE=>?_⟩;refine kED ds nE (lS j (by omega)) [some (.ref nl)] (λ s=>r3 (rho (λ x=>m.getD x 0) s)) (λ s hs H' Q' g' k=>?_) λ σ H5 da g5 hE=>?_
   ·have sp:s.1<m.length:=by
     rw[ca];have:s.1∈(gF ms I Ts j).1.map (·.1):=fe.mpr ⟨s,hs,rfl⟩;rw[(ok.inv j (by omega)).fst]at this;exact iP.mp (a4.mem_iff.mp (uz this))
    refine⟨_,rfl,_,rfl,nl,_,_,_,rfl,rfl,SqL.of (g' _ _ gd),fX sp,_,rfl,_,rfl,yS3,λ q nq=>?_⟩;have:=k q nq;have e:m[s.1]=m.getD s.1 0:=by rw[ao,ae sp];rfl
    rw[e];exact this
   ·refine⟨E',_,rfl,.inl ⟨SqL.of hE.top,λ q nq=>?_⟩⟩
    have gq:=kC nq (.tup (da.map V.ref));have co:=g5.trans gq;have dk:=co _ _ hD;refine⟨_,dk,(by rw[aj,lv];exact kQ (by omega)),?_⟩
    have st:TK (upd H5 q (.tup (da.map V.ref))) (upd (upd H5 q (.tup (da.map V.ref))) D (.lst (vs.map V.ref++[.ref q]))):=λ b xs e=>by
     rw[kL λ z=>by rw[z,dk]at e;cases e];exact e
    refine⟨_,vs++[q],rfl,kZ nD (g4.trans co),by rw[cu];exact kA,by rw[bu,lv];rfl,λ i u e=>?_⟩;rcases snoc e with⟨c,e⟩ | ⟨ei,e⟩
    ·obtain⟨aa,w⟩:=hv i u e
     exact⟨aa,(w.kept co).tk st⟩
    ·cases e
     rw[ei,lv,sh];exact⟨da,(hE.tup gq kA).tk st⟩
  rintro σ H4 ⟨x0,vs,rfl,g4,hD,lv,hv⟩;rw[aj,ag.len]at lv;refine⟨D,_,rfl,.inl ⟨SqL.of hD,λ q' nq=>?_⟩⟩;have gq:=kC nq (.tup (vs.map V.ref));have l3:((cf (I.length+1)).map λ j=>((gF ms I Ts j).1.map (rho λ x=>m.getD x 0)).map r3).length=I.length+1:=by rw[aj,fu]
  have mk:∀{H':Hp}(fo:av)(vs:List av),H' fo=some (.tup (vs.map V.ref))->vs.length=I.length+1->(∀(j:Nat)(u:av),vs[j]?=some u->∃ aa,RwT H' u aa (((gF ms I Ts j).1.map (rho λ x=>m.getD x 0)).map r3))->R3At H' fo vs ((cf (I.length+1)).map λ j=>((gF ms I Ts j).1.map (rho λ x=>m.getD x 0)).map r3):=λ{H'} fo vs h1 h2 h3=>⟨h1,by rw[l3,h2],λ i a r e1 e2=>by
   have hi:i<I.length+1:=by rw[<-h2];exact(ak.mp e1).1
   rw[bb,ua hi]at e2;cases e2
   exact h3 i a e1⟩
  have c7:=g4.trans gq
  have A1:=mk (H':=upd H4 q' (.tup (vs.map V.ref))) gu gz (c7 _ _ e8) ap λ j u e=>by
   have hj:j<I.length+1:=by rw[<-ap];exact(ak.mp e).1
   obtain⟨ta,w⟩:=es j u e;rw[fi j (by omega)]at w;exact⟨ta,w.rw.kept c7⟩
  have A2:=mk (H':=upd H4 q' (.tup (vs.map V.ref))) q' vs kA lv λ j u e=>by
   obtain⟨aa,w⟩:=hv j u e;exact⟨aa,w.kept gq⟩
  refine⟨_,_,A1.dt,A2.dt,kRJ _,kRJ _,_,rfl,?_⟩;rw[kTU];refine yC ?_;have g5:=ch.trans c7;clear A1 A2 mk hv hD ag
  generalize upd H4 q' (.tup (vs.map V.ref))=H5 at *
  refine⟨_,rfl,_,rfl,z,vn U,vn Y,[vn c'],rfl,g5 _ _ ec.base,(by show 1<=900;decide),λ z4 H6 g6 h6=>?_⟩;refine⟨_,rfl,o,vn U,vn Y,r'.map vn,rfl,(by rw[g6 _ _ (g5 _ _ ec.ord),ay];rfl),(by rw[aj];rw[ay]at b9;simp only[iJ]at b9;omega),λ o4 H7 g7 g0=>?_⟩;have eh:=g5.trans (g6.trans g7);have b4:Gw H7 mt z4 o4 M (Y::U::r') Y U c':=⟨ga.kept eh,T.mir mir,g7 _ _ h6,g0,as,by rw[mir.1];exact G.three,(lZ mir Y U).mpr (S.sym _ _ a5)⟩;refine⟨mt,z4,o4,M,Y::U::r',Y,U,c',_,_,rfl,b4,c1,el,λ tg h4 H8 g8 he gt gl=>?_⟩;have ep:=eh.trans g8;have cp:=fn.tk (TK.of ep);have ee:PtT H8 tg h4 M.length (atS (gF (Y::U::r') (I.map fc) (Ts.map fc) (I.map fc).length).1):=⟨he,gt,gl⟩;refine⟨_,rfl,lt,rfl,⟨_,SqT.of cp.top⟩,λ D2 cn=>?_⟩;refine kNZ cp cn ax [some (.int (3+(d:Int)))] (λ x=>[2*(3+(d:Int))-4-x.1,x.2]) (λ p' dv H' Q' g' k=>?_) λ σ hb da g9 af=>?_
  ·exact⟨_,rfl,_,_,rfl,rfl,.inl ⟨by decide,by decide⟩,_,_,rfl,rfl,_,rfl,_,_,rfl,rfl,_,rfl,yS2,λ q nq=>k q nq⟩
  refine⟨D2,_,rfl,.inl ⟨SqL.of af.top,λ q2 go=>?_⟩⟩;have d0:=kC go (.tup (da.map V.ref))
  have er:((cf M.length).map λ p=>[(atS (gF (Y::U::r') (I.map fc) (Ts.map fc) (I.map fc).length).1 p).1,(atS (gF (Y::U::r') (I.map fc) (Ts.map fc) (I.map fc).length).1 p).2])=(cf W.length).map λ p=>[2*(3+(d:Int))-4-(atS (gF ms I Ts I.length).1 p).1,(atS (gF ms I Ts I.length).1 p).2]:=by
   rw[mir.1,aj];refine um λ p' dv=>?_;rw[fg p' (iP.mp dv),show 2*(3+(d:Int))-4=2*(I.length:Int) by omega]
  have B1:=(ee.tk (TK.of (g9.trans d0))).rw;rw[er]at B1;refine⟨_,_,B1.dt,(af.tup d0 kA).dt,kKW _,kKW _,_,rfl,?_⟩;rw[kHQ];refine yC ?_;have cb:=ep.trans (g9.trans d0);clear B1 af cp ee b4
  generalize upd hb q2 (.tup (da.map V.ref))=hk at *
  have b5:=cb _ _ ek;refine⟨_,rfl,ct,_,_,_,rfl,rfl,SqT.of b5,qP (j:=0) rfl,_,rfl,ct,_,_,_,rfl,rfl,SqT.of b5,qP (j:=1) rfl,_,rfl,ct,_,_,_,rfl,rfl,SqT.of b5,qP (j:=2) rfl,t2,z3,o3,W2,_,_,_,_,_,_,rfl,en.kept cb,bv,e6,λ tf ft br eq gx h5 fh=>?_⟩;rw[aj]at fh;have pf:PtT br tf ft W2.length (atS (gF (ms.map λ x=>m.getD x 0) (I.map (·.map λ x=>m.getD x 0)) (Ts.map (·.map λ x=>m.getD x 0)) I.length).1):=⟨gx,h5,fh⟩;have dx:=cb.trans eq;have cd:=fn.tk (TK.of dx);have hh:=dx _ _ f7;refine⟨_,rfl,_,rfl,by omega,by omega,λ D3 dp=>?_⟩;refine wZ (lo:=0) (n:=(3+(d:Int)).toNat) (λ j σ a9=>∃(x0:Option V),σ=[x0,some (.ref tf),some (.ref lt),some (.ref nl)]/\Same br a9/\a9 D3=some (.lst ((gj j true).map V.bl))) ⟨none,rfl,kC dp _,kA⟩ ?_ ?_
  ·rintro j σ a9 hj ⟨x0,rfl,a0,cs⟩
   have dm:j<W.length:=by omega
   have d2:j<m.length:=by omega
   have eg:m[j]=m.getD j 0:=by rw[ao,ae d2];rfl
   have lg:m.getD j 0<ft.length:=by
    rw[pf.len,rn.len,<-eg];exact iP.mp (rn.perm.mem_iff.mp (iR d2))
   have f1:=kRH lg 0;have f2:=kRH (l:=ed) (i:=j) (by rw[cd.len];exact dm) 0;have t1:=a0 _ _ (pf.row _ _ f1);have t2:=a0 _ _ (cd.row _ _ f2);rw[ef j dm]at t1;have an:atI (m.map vn) (0+(j:Int))=some (vn (m.getD j 0)):=by rw[wc,<-eg];exact fX d2
   refine⟨_,rfl,_,rfl,_,rfl,nl,_,_,_,rfl,rfl,SqL.of (a0 _ _ hh),an,tf,_,_,_,rfl,rfl,SqT.of (a0 _ _ pf.top),qP (by rw[bb,f1];rfl),_,rfl,_,rfl,lt,_,_,_,rfl,rfl,SqT.of (a0 _ _ cd.top),(by rw[wc];exact qP (by rw[bb,f2];rfl)),_,_,kNE (r:=[_,_]) t1,kNE (r:=[_,_]) t2,kKZ _,kKZ _,_,cs,(by rw[aj,uo];exact kQ (by omega)),?_⟩;refine⟨_,rfl,kZ dp a0,?_⟩;rw[kOM,DF,cu];exact kA
  ·rintro σ a9 ⟨x0,rfl,a0,cs⟩
   refine⟨D3,_,rfl,SqL.of cs,?_⟩;rw[kNQ];exact q a9
end
def all_mk{l:Cj}{w:iN}{K:be}{h:iV}{mg:Str->Option au}{a:av}(X:K.In h)(G:h.Ns gn mg)(b:mg "law" = some (.ref a))(B:FxG K mg):∃ fd:ue,(∀(s:az)(v:au),Dh s fd ⟨[v],[]⟩ [("_law_script",v)])/\∀ base:iV,K.In base->base.Ns gn mg->FnOk l.prog w K mg base CX0 11 a fd ["_law_script"] (nU K):=by
 obtain⟨f,fd,e,F⟩:=B.d39
 cases b.symm.trans (Fg X G e)
 refine⟨fd,λ s v=>?_,λ base _ _=>?_⟩
 ·obtain⟨p,x,kV,j,y,u,m,q,g,rfl,_⟩:=F.ex
  exact .of_eq rfl
 refine eR λ n=>?_;obtain⟨o,r,d,c,i⟩ : Bad c0:=Classical.epsilon_spec ⟨⟨l.prog,w,K,mg,base⟩,B,a,fd,F,n⟩;exact i (kSQ o c)
def walk{l:Cj}{q:eX}{b:List Str}{r:(Str->Option au)->iV->Prop}{i:iN->iV->Prop}{d:DefRec}{K:Gc->be}(v:l.most=some 63)(c:d.params.defaults=[])
  (p:∀(w:iN)(h:iV),i w h->(K w.params).In h)
  (F:∀(w:iN)(mg:Str->Option au)(g:av)(h:iV),(K w.params).In h->h.Ns gn mg->mg d.name=some (.ref g) ->
   ∃ fd:ue,(∀(s:az)(u:au),Dh s fd ⟨[u],[]⟩ [("_law_script",u)])/\∀ base:iV,(K w.params).In base->base.Ns gn mg->FnOk l.prog w (K w.params) mg base CX0 11 g fd ["_law_script"] (nU (K w.params))) :
  Ff q b r i l.row.toRowW d [] (λ f vs=>Es f vs) :=
 L2.walk_of (n:=63) (k:=11) (x:="_law_script") (CX:=λ _=>CX0) (sp:=λ w=>nU (K w.params)) v (by decide) c ⟨rfl,by decide,by decide,rfl⟩ p F (λ _ _ a m o _ j=>⟨a,m,rfl,j,o,λ _=>rfl⟩) λ _ _ _ _ _ z=>z
end Prf
namespace PySem.W.Fast
def tw4420570351332529674:=0
def tw3068098634549177504:=0
def tw18389851962965941325:=0
def tw12865630449497747003:=0
def tw12038278077359545306:=0
def tw3211128423189963664:=0
def tw14362458217690447595:=0
def tw2443786739843847862:=0
def tw1498691027985453867:=0
def tw13147863677284182498:=0
def tw11070021726199793815:=0
def tw5365148595522160680:=0
def tw10644870755847007286:=0
def tw6305782798529582853:=0
def tw3743950704958049270:=0
def tw13235556827363288626:=0
def tw15891215540217079341:=0
def tw10782246451811963714:=0
def tw10868610398466452405:=0
def tw8023842713226408327:=0
def tw10488470968797891007:=0
def tw15202729478552278143:=0
def tw10974235026027198463:=0
def tw9961460960496148015:=0
def tw17390191250532359362:=0
def tw9780894391594416766:=0
def tw16982019228367609611:=0
def tw17115244335513637058:=0
def tw2807379534398905044:=0
def tw3311051543599967874:=0
def tw5933589404868851301:=0
def tw15519036947642551663:=0
def tw8011111839421552982:=0
def tw2103562308681123190:=0
def tw5533699781472849730:=0
def tw18252756413849263687:=0
def tw14494148231767237768:=0
def tw12311880242649852021:=0
def tw9317907413172961736:=0
def tw4505118348160285502:=0
def tw14527530615079065204:=0
def tw9922937729510929052:=0
def tw7681152486009184089:=0
def tw16983135013007348006:=0
def tw7634921795503399201:=0
def tw7475560245900352685:=0
def tw13527249905432072044:=0
def tw12165918662190987764:=0
def tw3793330239502451631:=0
def tw507309753649582843:=0
def tw12606395308866837764:=0
def tw11608336458886456384:=0
def tw9962802423436345615:=0
def tw413818419535496619:=0
def tw18119720706150425387:=0
def tw8850786867450017079:=0
def tw11146174661395499478:=0
def tw2320169482775575529:=0
def tw4428210318471530655:=0
def tw14561873995181471320:=0
def tw6229523983001477186:=0
def tw2338859502378206334:=0
def tw17764879351217397381:=0
def tw4395821550568843777:=0
def tw7508430710049108068:=0
def tw806579303170651350:=0
def tw9420426926399848997:=0
def tw2118598721229237152:=0
def tw5006944684660687841:=0
def tw14733183800791035842:=0
def tw15806916796260892932:=0
def tw4892247297083694341:=0
def tw10221083810215681766:=0
def tw2210157293672789355:=0
def tw17775960239786998835:=0
def tw16667338639231778167:=0
def tw12129214195894101880:=0
def tw5574518793346937017:=0
def tw10055701361951855226:=0
def tw14754027151140117852:=0
end PySem.W.Fast
open PySem PySem.W PyProof.Rows
set_option maxRecDepth 100000 in
set_option maxHeartbeats 0 in
theorem PySem.Challenge.cw_restdraw_k66_whole_mirrored_and_renamed_holds : PySem.Challenge.rw_restdraw_k66_whole_mirrored_and_renamed.Holds := by
 w_on;o_law;k_head;(case hw=>w_witness2)
 k_fill
 refine Prf.walk (l:=PySem.Challenge.rw_restdraw_k66_whole_mirrored_and_renamed) rfl rfl (λ w h Y=>PySem.W.kIn_of Y) ?F
 case F =>
  intro w mg fa h KX G hmg;refine' Prf.all_mk KX G hmg ?_;apply Prf.FxG.mk ⟨_,KX,G⟩<;>first | (refine' L2.df_mk ?a ?l ?c ?k;(case a=>k_is);(case l=>k_is);(case c=>k_is);(case k=>k_is)) | k_is
