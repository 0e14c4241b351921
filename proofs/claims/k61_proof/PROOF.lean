import PyProof.Rows.All
import Wide.All
import OpenK.AllK
import Wide.FinOn
import Lean
import PyProof.EqAt
import PyProof.EqKinds
import PyProof.TupleCall
import PyProof.Rows.SortRunsK
import PyProof.Rows.Walk
import KE.KSortTup
import PyProof.ListRange
import PyProof.Rows.SetFrom
import PySem.Challenge.RW_restdraw_k61_walked_place_by_place
set_option Elab.async false
set_option linter.all false
set_option maxRecDepth 100000
local macro_rules | `(tactic| omega)=>`(tactic| lia)
noncomputable section
open List renaming getElem?_eq_getElem->ae,length_map->aj,getElem?_eq_some_iff->ak,getD_eq_getElem?_getD->av,getElem?_map->az,getElem?_append_left->bf,length_append->bj,mem_singleton->bu,getElem?_append_right->bz,mem_append->ck,range->cq,getElem?_concat_length->cu,mem_of_getElem?->cv,length_take->cx,map_append->cy,nodup_append->dc,append_assoc->dh,mem_append_right->dj,mem_append_left->dw,dropLast_concat_getLast->eC,mem_cons_of_mem->eD,pairwise_append->eE,mem_cons->eK,mem_iff_getElem->eZ,getElem?_set_ne->eo,size_toArray->fb,mem_cons_self->fc,getLast?_eq_some_getLast->fe,length_singleton->fj,take_append_drop->fk,idxOf_lt_length_of_mem->fq,nodup_cons->gj,replicate->gk,map_cons->gm,take_length->gn,length_range->gv,length_cons->iC,mem_map->iJ,take_succ->iL,length_drop->iN,getElem_mem->iO,append_nil->iP,mem_filter->iW,length->ip,getLast?_append->iq,getLastD_eq_getLast?->jf,mem_range->jt,getElem?_set_self->jx,flatMap_append->kb,perm_append_comm->kh,take_of_length_le->ki,cons_append->kj,pairwise_map->md,length_filter_le->me,getElem?_zip_eq_some->mf,drop_eq_nil_of_le->ml,length_eq_zero_iff->og,pairwise_singleton->oh,pairwise_iff_getElem->oq,getLast?_cons_cons->ou,find?_cons_of_pos->ph,find?_cons_of_neg->qa,mem_of_mem_tail->qb,extract_eq_take_drop->qc,nil_append->qi,getElem?_take_of_lt->qk,flatMap_singleton->qw,not_mem_nil->rm,nodup_range->sh,filter_append->si,length_nil->tm,perm_ext_iff_of_nodup->ua,length_replicate->ub,getElem?_eq_none->ud,getLast?_eq_getElem?->uf,take_sublist->um,filter_cons->ux,mem_of_getLast?->uy,map_take->uz,foldl_cons->vh,length_pos_iff->vt,map_map->vw,replicate_succ->wc,range'_succ->wd,filter_cons_of_pos->wg,filter_cons_of_neg->wj,all_eq_true->wk,take_append_of_le_length->wo,find?_cons->xa,flatten_cons->xi,idxOf_append->xk,getElem?_inj->xp,flatMap_cons->xu,take_left'->ya,length_flatMap->yd,mem_of_mem_take->yf,reverse_append->yg,map_congr_left->yi,map_drop->yj,nodup_nil->yk,zipIdx_cons->ym,mem_reverse->yn,take_zero->yo,getElem?_range->yt,append_of_mem->yx,of_mem_zip->zg,forIn_cons->zh,getElem?_take->zr,range'->zu,eraseIdx_append_of_length_le->zw,drop_drop->AE,getElem_take->AF,filter_eq_nil_iff->AH,pairwise_lt_range->AI,pairwise_reverse->AK,mem_iff_getElem?->AN,lookup_cons->AO,mem_flatMap->AR,drop_append->AU,map_snd_zip->AW,length_zip->AZ,any_cons->Aa,sum_cons->Ab,getElem_inj->Ac,cons_ne_nil->Ai,mem_of_mem_drop->Aj,length_set->Am,zipIdx_nil->Ao,drop_left'->Ap,filterMap_cons->Av,length_reverse->Aw,mergeSort_perm->Ax,map_nil->BB,forIn_nil->BO,range_succ->BP,nodup_iff_pairwise_ne->BQ,take_take->BR,pairwise_cons->BU,zip_cons_cons->BV,getElem_idxOf->BW,getElem?_drop->BX,Nodup->BZ,filter_nil->Ba,map_singleton->Bb,drop_eq_getElem_cons->Bc,getElem_drop->Bm,reverse_cons->Bn,sublist_append_left->Bw,ext_getElem->CB,getElem_map->CC,perm_middle->CD,flatMap_nil->CH,map_fst_zip->CI,length_eq_one_iff->CY,pairwise_flatMap->Cp,take_eq_take_iff->Cq,reverse_reverse->Cv,drop_zero->Cw,replicate_succ'->DA,idxOf_cons_self->DB,filter_eq_self->DG,map_eq_nil_iff->DH,mem_filterMap->DN,mem_replicate->DU,find?_eq_none->DV,ext_getElem?->Dr,foldl_append->Du,mem_of_head?->Dz,any_eq_true->EJ,flatMap_def->EK,sum_append->EV,zip_append->EX,foldl->Ek,drop_take->Es,tail_cons->Eu,all_cons->FY,take->Fn,all_map->GA,drop->Gh
open PySem renaming wpAny_bind->ai,Value->ar,Addr->au,Shared->ay,wpAny_pure->bp,wpAny->dq,boot_len->eV,Program->eY,Around->gh,mainGlobals->gw,World->iG,Expr->iH,Heap->iK,wpAny_field->iY,wpAny_newObj_type->ir,wpAny_callSpecial?_slot->ju,wpAny_seqItems->jv,wpAny_setField_rec->jz,wpAny_holding->km,Stmt->kr,wpAny_call_entry->ky,mem_of_lookup->mh,wpAny_comprehension_free->ni,wpAny_truthy_bool->oy,wpAny_newFunctionEnv->qm,wpAny_dictEntries->qz,FuncData->sj,NameKind->sk,wpAny_passesOwn->uh,Fin->ui,wpAny_mono->vd,wpAny_standAt->ve,wpAny_rule->vf,wpAny_onRaise->vj,Scope->vy,IsZip->wm,wpAny_pyIter_tuple->wu,IsPair->xg,Model->yu,wpAny_attempt->yz,Builtin->zi,wpAny_loadPart'->zj,call_meets->zo,tupleKind_room_in1->zq,wpAny_typeOf->AA,wpAny_forIn_list->AQ,wpAny_pyIter_zip->AY,sizeLine_eq->Ad,wpAny_updateSeq_pair->Ag,wpAny_letGo->Ah,wpAny_execs_nil->Al,wpAny_dictEpoch->As,sizeLine->BE,wpAny_Call_Name_kw->BK,wpAny_letOwnedTupleGo_zip->Be,wpAny_assign_Name->Bh,wpAny_pyIter_list->Bi,noFill_tuple_add->By,DictEntry->Bz,wpAny_isInstance->CG,IsPart->CK,PyData->CP,wpAny_specialOf->Cf,size_of_entries->Cj,wpAny_isTrue_Compare1->Cm,exec_Assign_Name_used->Co,wpAny_newTuple->Ct,seq_tuple_add->DI,Comprehension->DJ,wpAny_newList->DK,BindsTo->Da,codeAny_mono->Dc,concat_meets->De,wpAny_sequenceKey->Df,seqIndex_neg->Dg,slot_list_getitem->Dh,callType_new->Dk,wpAny_pyIter_enum->Dl,arm_eval_DictComp->Dm,atKey_none_of_get->Dw,wpAny_eqBool_int->EB,Paired->EC,wpAny_execs_cons->ED,seqIndex_of->EL,Draws->EM,wpAny_tests_nil->ES,codeAny_builtin->EW,Keyword->EY,wpAny_Name->Ea,wpAny_bindName->Eb,typeIs_int->Ej,fitsIndex_both->El,call->Em,wpAny_setField->Eo,isSubtype_stop->Et,PassesOwn->Fi,Within->Fo,CmpOp->GK,Params->GV,Code->Gg
open PySem.Heap renaming get?_push_of_some->ao,lt_size->cf,get?_push_size->cg,size_push->iZ,SameBut->iz,get?_update_self->qe,get?_update_ne->yr,get?_update_other->CN,get?_push_cases->Cs
open PySem.W renaming Frag->bb,nsIn->jl,kia_one->ko,fnOf->uo,keepIn->zx,codeIn->BL,methodObj->Bf,cellsFrom_some->CJ,instObj->Cd,OpenLaw->Ce,lookIn->Cr,kitx_list->DY,kitx_dict->DZ,plainGet->EE,findIn->Ee,kitOne->Ef,WalkO->FZ,mg_of->Fb
open Nat renaming le_refl->be,lt_of_lt_of_le->cw,ne_of_lt->dr,le_of_lt->fv,zero_le->iA,lt_or_ge->iV,ne_of_gt->ja,le_trans->je,lt_of_le_of_lt->ji,min_eq_left->kq,lt_irrefl->qj,sub_add_cancel->tz,add_assoc->xc,lt_trichotomy->xj,lt_succ_of_lt->xm,add_comm->AB,le_succ->Ae,strongRecOn->Au,mul_le_mul_left->Az,lt_succ_self->CA,zero_add->CQ,sub_zero->CW,pow_le_pow_right->Cz,add_sub_cancel->DR,add_zero->Dq,sub_self->Ds,le_of_eq->Fw,div_one->GR
open Option.some renaming inj->bg,injEq->Gb
open Option renaming map_eq_some_iff->bh,toList_some->iw,isSome_iff_exists->jh,map_some->xb,getD_some->yp,map_eq_none_iff->Cb,isSome_map->Dj,getD_none->EG,none->GN,map->GZ
open PyProof.Rows renaming Keyed->bq,wpS_bind->cj,pendingOf->de,arrOf->df,wpS_pure->di,SortSt->eP,boot_tuple->fu,boot_isinstance->iX,callWith_type1->ie,slot_tuple_getitem->jj,wpS_forRange->jq,SortKind->nj,wpS_modify->om,wpS_mono->uq,failedOf->ur,boot_sorted->vk,wpS_get->zk,boot_int->AL,boot_all->AM,reverseSlice'_eq->AV,get?_update_seq->Aq,assignInOrder_cons->BI,AllBare->Bg,listUpdate_at->Bq,subscriptTail_builtinR->CL,boot_bool->CZ,boot_list->Ca,entry_tuple_getitem->DD,args_tuple_getitem->DO,assignInOrder_nil->DX,IntsAre->Di,listItems_at->Dv,callWith_builtin1->EF,seqEpoch_at->EN,IsTup->EZ,boot_range->Ed,slicePart_none->Eg,Subscript_->Eh,Call_->Fk,args_cons->Fz,args_nil->GC,boot_max->GD,boot_abs->GE,boot_min->GF,wpS_lift->GQ,lt_int->GT
open Sum renaming inl->cm,inr->DC
open Bool renaming false_ne_true->eA,false_eq_true->eN,and_eq_true->iI,eq_iff_iff->iQ,not_true->yy,or_eq_true->Ci,not_eq_true'->Do,false_and->Ec,not_false->Er
open List.Nodup renaming length_le_of_subset->eO,sublist->DW
open Classical renaming byContradiction->eW,choose_spec->qh,choose->we
open PySem.Builtin.SmallTypes renaming nextOf->gy,ownedTupleIsFree->iB,ownedTupleHandOut->mj
open Array renaming length_toList->iD,toList_append->iE,size_push->iu,size_extract->ka,getElem?_toList->mo,mem_toList_iff->uk,toList_extract->uu,toList_push->uw,size_append->xt,toList_reverse->ye,toList_setIfInBounds->BS,getElem_mem->Bk,size_setIfInBounds->Bp,toList_modify->DF,size_reverse->DQ,isEmpty_iff->Dx,toList->Fv,getD->GY
open PySem.PyData renaming eqvAll->iM,eqv->ig,canLayAll0->jg,int->jw,depthAll->kg,canLay0->kl,depth->pe,tuple->Cc
open PySem.F renaming slot_list_append->iR,type_list_append->iS,slot_list_index->jb,type_list_index->jc,slot_zip_next->rh,slot_tuple_iterator_next->tw,args_tuple_add_2->yw,plainAttrs_tuple->zd,slot_tuple_index->ze,type_tuple_index->zf,entry_tuple_add->zt,slot_tuple_add->zy,args_zip_next_1->AG,entry_zip_next->AX,slot_dict_itemiterator_iter->Ak,args_tuple_iterator_next_1->An,entry_tuple_iterator_next->BC,slot_dict_update->Br,slot_list_insert->Bs,type_list_insert->Bt,slot_list_remove->Bu,type_list_remove->Bv,slot_dict_items->Dy,slot_int_rmul->ER,entry_zip_new->ET,called_zip->Fy
open Int renaming toNat_natCast->iU,eq_ofNat_of_zero_le->ow,zero_add->wz,fdiv_eq_ediv_of_nonneg->BJ,emod_lt_of_pos->BY,emod_nonneg->Ck
open ForInStep renaming yield->jd,done->xx
open PySem.Heap.SameBut renaming update->jo,refl->AC
open PySem.Value renaming ref->jr,int->ug,none->zm,bool->BF,type->BG,str->EA,isStrOf->FK,isInt->GH,float->GJ
open PySem.SeqAt renaming shaped->lj,EqAt->Ei
open Ne renaming symm->ox
open True renaming intro->oz
open Std.Legacy.Range renaming forIn_eq_forIn_range'->qv,size->AJ
open Sum.inl renaming inj->rj
open PySem.Obj renaming mapSeq->so,data_mapDictKeys->yh,isFreed_of_dict->Ay,data_mapFields->DP,data_mapDict->EI
open PySem.Builtin.Slice renaming slicePlaces->ue,sliceAdjust->yq,sliceApplied->BM,slicePartIndex->EO,sliceFields->FG
open List.Perm renaming trans->uj,append_right->wy,append_left->xh,refl->AD
open PySem.Paired renaming length->va,snoc->GO
open PySem.Builtin.Tuple renaming tupleExact->vg,tupleItemsOf->BN,tupleIsExact->Ep,tupleHashOf->FH
open PySem.Builtin.List renaming listTooLong->vi,listExtendWith->BD
open Prod renaming ext->wb,snd->yc,fst->Cu
open False renaming elim->wq
open PySem.Str renaming ofString->wx
open Or renaming inl->xw,inr->EH
open PySem.Shared renaming heap->Af
open PySem.Builtin.Dict renaming entriesForEmpty->Ar,updateFrom->CF,mergeDict->CV,quietEq->Cy,readDirectly->FJ,selfAndRest->Ff,addKeywords->Fg,showsAll->GB,merge->Ga
open PySem.Challenge renaming rw_restdraw_k61_walked_place_by_place->BA
open PySem.Calls renaming Name_function_global->BH,callWith_builtin->CO
open List.Pairwise renaming nil->Bj,imp_of_mem->Fd,map->Gc,imp->Gd
open Iff renaming rfl->Bl
open PySem.NameKind renaming free->Bo
open List.Sublist renaming append_left->Bx
open PyProof.Rows.SortSt renaming mk'->CU
open PySem.Heap.DictOf renaming new->Cg
open PySem.SeqAt.EqAt renaming int_str->DL,str_int->DM
open PySem.PassesOwn renaming never->EU
open PySem.EqNone renaming eq_none_none->Ew,eq_none_bool->Ex,eq_bool_none->Ey,ne_none_none->FB,ne_none_bool->FC,ne_bool_none->FD,eq_none_int->FL,eq_none_str->FM,eq_int_none->FN,eq_str_none->FP,ne_none_int->FR,ne_none_str->FS,ne_int_none->FU,ne_str_none->FW
open PySem.EqMixed renaming eq_bool_str->Ez,eq_str_bool->FA,ne_bool_str->FE,ne_str_bool->FF,eq_int_str->FO,eq_str_int->FQ,ne_int_str->FV,ne_str_int->FX
open PySem.W.Looks renaming of_pure->Fe
open List.cons renaming inj->Fh
open PySem.Builtin.Range renaming rangeSize->Fj
open And renaming intro->Fm
open PySem.IsRange renaming new->GM
open PySem.MeetsSeq.EqGives renaming int->GP
open PySem.Builtin.Int renaming intBits->GS
open PySem.Heap.IsSliceOf renaming new->GU
open PySem.W.WShape renaming has->GW
open PUnit renaming unit->GX
open PySem.Flow renaming next->Ge
open PySem.W.WData renaming int->Gf
def yS0:0<=BE:=by decide
def yS1:1<=BE:=by decide
def yS2:2<=BE:=by decide
def yS3:3<=BE:=by decide
namespace L2
open PySem PySem.Spec PyProof.Rows
abbrev Key:=Sum Int Str
def mS:Key->ar->Bool
 | .inl k,v=>GH k v
 | .inr x,v=>FK x v
def kWC(w:iG):Key->Int
 | .inl k=>hashInt k
 | .inr x=>hashStr w x
def jH:∀{k:Key}{v:ar},mS k v=true->(∃ i t,k=cm i/\v=ug i t)\/(∃ x t,k=DC x/\v=EA x t)
 | .inl i,v,h=>by
  obtain⟨t,e⟩:=Value.isInt_shape (k:=i) (v:=v) h;exact .inl ⟨i,t,rfl,e⟩
 | .inr x,v,h=>by
  obtain⟨t,e⟩:=Value.isStrOf_shape (x:=x) (v:=v) h;exact .inr ⟨x,t,rfl,e⟩
def kJM(i:Int)(t:Tok):mS (.inl i) (.int i t)=true:=by simp[mS,GH]
def kJL(x:Str)(t:Tok):mS (.inr x) (.str x t)=true:=by simp[mS,FK]
def kSX(a b:Int):decide ((cm a:Key)=cm b)=(a == b):=by
 by_cases e:a=b
 ·subst e;simp
 ·have h:¬ (cm a:Key)=cm b:=λ q=>e (rj q)
  rw[decide_eq_false h];exact(beq_eq_false_iff_ne.mpr e).symm
def kSU(a b:Str):decide ((DC a:Key)=DC b)=decide (a=b):=by
 by_cases e:a=b
 ·subst e;simp
 ·have h:¬ (DC a:Key)=DC b:=λ q=>e (Sum.inr.inj q)
  rw[decide_eq_false h,decide_eq_false e]
def kSW(a:Int)(b:Str):decide ((cm a:Key)=DC b)=false:=decide_eq_false (λ q=>nomatch q)
def kSV(a:Str)(b:Int):decide ((DC a:Key)=cm b)=false:=decide_eq_false (λ q=>nomatch q)
def qH(prog:eY)(w:iG):PySem.KeyKind prog w Key where
 is:=mS
 hash:=kWC w
 inj:=λ v a b g d=>by
  rcases jH g with⟨i,t,rfl,rfl⟩ | ⟨x,t,rfl,rfl⟩
  ·rcases jH d with⟨j,u,rfl,e⟩ | ⟨y,u,rfl,e⟩
   ·injection e with e1 _;rw[e1]
   ·exact nomatch e
  ·rcases jH d with⟨j,u,rfl,e⟩ | ⟨y,u,rfl,e⟩
   ·exact nomatch e
   ·injection e with e1 _;rw[e1]
 byValue:=λ k v h=>by
  rcases jH h with⟨i,t,rfl,rfl⟩ | ⟨x,t,rfl,rfl⟩<;>rfl
 pyHash:=λ c h=>by
  rcases jH c with⟨i,t,rfl,rfl⟩ | ⟨x,t,rfl,rfl⟩
  ·exact wpAny_pyHash_int h
  ·exact wpAny_pyHash_str h
 eqBool:=λ f c h=>by
  rcases jH f with⟨i,t,rfl,rfl⟩ | ⟨x,t,rfl,rfl⟩
  ·rcases jH c with⟨j,u,rfl,rfl⟩ | ⟨y,u,rfl,rfl⟩
   ·rw[kSX]at h;exact EB h
   ·rw[kSW]at h;exact DL i t y u _ _ _ _ h
  ·rcases jH c with⟨j,u,rfl,rfl⟩ | ⟨y,u,rfl,rfl⟩
   ·rw[kSV]at h;exact DM x t j u _ _ _ _ h
   ·rw[kSU]at h;exact wpAny_eqBool_str h
 «strs»:=λ k x t v h=>by
  rcases jH h with⟨i,u,rfl,e⟩ | ⟨y,u,rfl,e⟩
  ·exact nomatch e
  ·injection e with e1 _
   subst e1;cases v<;>rfl
def kEG(prog:eY)(w:iG)(k:Key)(v:ar):(qH prog w).is k v=mS k v:=rfl
def kCA(prog:eY)(w:iG)(i:Int)(t:Tok):(qH prog w).is (.inl i) (.int i t)=true:=kJM i t
def kBZ(prog:eY)(w:iG)(x:Str)(t:Tok):(qH prog w).is (.inr x) (.str x t)=true:=kJL x t
inductive V where
 | non | bl (b:Bool) | int (i:Int) | str (x:Str) | byt (b:Array UInt8) | flt (b:UInt64) | ref (a:au) | ty (n:String)
 deriving DecidableEq
def RelV:V->ar->Prop
 | .non,u=>u=zm
 | .bl b,u=>u=BF b
 | .int i,u=>∃ t,u=ug i t
 | .str x,u=>∃ t,u=EA x t
 | .byt b,u=>∃ t,u=Value.bytes b t
 | .flt b,u=>∃ t,u=GJ b t
 | .ref a,u=>u=jr a
 | .ty n,u=>u=BG n
abbrev Vals:List V->List ar->Prop:=EC RelV
theorem Vals.length{xs:List V}{a:List ar}(r:Vals xs a):xs.length=a.length:=va r
theorem Vals.get:∀{xs:List V}{a:List ar}{i:Nat}{x:V},Vals xs a->xs[i]?=some x->∃ u,a[i]?=some u/\RelV x u
 | _,_,_,_,.nil,e=>by simp at e
 | _,_,0,_,.cons r _,e=>by simp at e;subst e;exact⟨_,rfl,r⟩
 | _,_,i+1,x,.cons _ t,e=>by
  obtain⟨u,h1,b⟩:=Vals.get (i:=i) (x:=x) t (by simpa using e);exact⟨u,by simpa using h1,b⟩
theorem Vals.set{x:V}{u:ar}(r:RelV x u):∀{xs:List V}{a:List ar}(i:Nat),Vals xs a->Vals (xs.set i x) (a.set i u)
 | _,_,_,.nil=>.nil
 | _,_,0,.cons _ t=>.cons r t
 | _,_,i+1,.cons q t=>.cons q (Vals.set r i t)
theorem Vals.append:∀{xs ys:List V}{b a:List ar},Vals xs b->Vals ys a->Vals (xs++ys) (b++a)
 | _,_,_,_,.nil,s=>s
 | _,_,_,_,.cons r t,s=>.cons r (Vals.append t s)
theorem Vals.take:∀{xs:List V}{a:List ar}(n:Nat),Vals xs a->Vals (xs.take n) (a.take n)
 | _,_,0,_=>.nil
 | _,_,_+1,.nil=>.nil
 | _,_,n+1,.cons r t=>.cons r (Vals.take n t)
theorem Vals.drop:∀{xs:List V}{a:List ar}(n:Nat),Vals xs a->Vals (xs.drop n) (a.drop n)
 | _,_,0,r=>r
 | _,_,_+1,.nil=>.nil
 | _,_,n+1,.cons _ t=>Vals.drop n t
def RelO:Option V->Option ar->Prop
 | some v,some u=>RelV v u
 | none,none=>True
 | _,_=>False
def KV{a:Type}:List (a×V)->List (a×ar)->Prop:=EC λ(p:a×V) (q:a×ar)=>p.1=q.1/\RelV p.2 q.2
def kV:Key->V
 | .inl i=>.int i
 | .inr x=>.str x
inductive HO where
 | lst (xs:List V)
 | tup (xs:List V)
 | dK (kvs:List (Key×V)) | dT (kvs:List (List Key×V))
 | set (S:Int->Bool) (n:Nat)
 | ins (C dx:au) (fs:List (Str×V))
 | own (x:au)
 | xd (fs:List (Str×V))
 | met (f x:au)
 | rng (lo hi:Int)
 | frz (o:Obj) (u:HO)
 | tbl (ps:Array ar)
 | ext (φ:iK->Prop)
abbrev Hp:=au->Option HO
def upd(H:Hp)(a:au)(o:HO):Hp:=λ b=>if b=a then some o else H b
def kA{H:Hp}{a:au}{o:HO}:upd H a o a=some o:=by unfold upd;rw[if_pos rfl]
def kM{H:Hp}{a b:au}{o:HO}(h:b≠a):upd H a o b=H b:=by unfold upd;rw[if_neg h]
def wW{H:Hp}{a b:au}{o u:HO}(h:H a=some o)(h':H b=some u)(d:o≠u):a≠b:=by
 intro e;subst e;rw[h]at h';exact d (bg h')
def kO{H:Hp}{a b:au}{o:HO}(h:H a=some o)(h':H b=none):a≠b:=by
 intro e;subst e;rw[h]at h';cases h'
section
def IsTupN(h:iK)(a:au)(items:Array ar):Prop:=∃ o,h.get? a=some o/\o.cls=.type "tuple"/\∃ n,o.data=.seq items n/\o.dict=none
def IsTupN.isTup{h:iK}{a:au}{items:Array ar}:IsTupN h a items->EZ h a items:=λ⟨o,e,c,n,d,_⟩=>⟨o,e,c,n,d⟩
theorem IsTupN.lt{h:iK}{a:au}{items:Array ar}(x:IsTupN h a items):a<h.objs.size:=x.isTup.lt
def IsTupN.new(h:iK)(items:Array ar):IsTupN (h.push {cls:=.type "tuple",data:=.seq items}) h.objs.size items:=⟨_,cg _ rfl,rfl,_,rfl,rfl⟩
variable (P:eY) (w:iG)
def ObjOk(H:Hp)(h:iK)(a:au):HO->Prop
 | .lst c=>c.length<=sizeLine/\∃(b:List ar)(n:Nat),Vals c b/\h.get? a=some {cls:=.type "list",data:=.seq b.toArray n}
 | .tup c=>c.length<=sizeLine/\∃ b:List ar,Vals c b/\IsTupN h a b.toArray
 | .dK kvs=>kvs.length<=sizeLine/\(a == sysModules)=false/\∃ i,KV kvs i/\h.DictOf (qH P w) a i
 | .dT kvs=>kvs.length<=sizeLine/\(a == sysModules)=false/\∃ c:List (List Key×au×ar),
   EC (λ(p:List Key×V) (q:List Key×au×ar)=>p.1=q.1/\H q.2.1=some (.tup (p.1.map kV))/\RelV p.2 q.2.2) kvs c /\
   ∃ o j l,h.get? a=some o/\o.ExactDict/\o.data=.dict j l/\j.toList=c.map (entryOfKey (tupleKind (qH P w)))/\(c.map (·.1)).Nodup
 | .set S n=>h.SetOf (intKind P w) a S n
 | .ins C dx fs=>H dx=some (.own a)/\fs.length<=1000/\dx≠a/\h.get? a=some (Cd C dx) /\
   ∃ d,h.Ns1 dx d/\(∀ f,RelO (fs.lookup f) (d f))/\Fo d (fs.map (·.1))
 | .own _=>∃ o,h.get? a=some o
 | .xd fs=>∃ d,h.Ns1 a d/\∀ f,RelO (fs.lookup f) (d f)
 | .rng lo hi=>∃ t u v,h.get? a=some {cls:=.type "range",data:=.fields #[.int lo t,.int hi u,.int 1 v]}
 | .frz o u=>h.get? a=some o/\ObjOk H h a u
 | .tbl ps=>h.get? a=some {cls:=.none,data:=.fields ps}
 | .met f x=>h.get? a=some (Bf (.ref f) (.ref x))
 | .ext φ=>φ h/\(∃ o,h.get? a=some o)/\∀ h1 g:iK,φ h1->(∀ o,h1.get? a=some o->g.get? a=some o)->φ g
def HOk(H:Hp)(h:iK):Prop:=∀ a o,H a=some o->ObjOk P w H h a o
end
section
variable {P:eY} {w:iG} {H H':Hp} {h h':iK} {a:au} {o:HO}
theorem ObjOk.lt(x:ObjOk P w H h a o):a<h.objs.size:=by
 cases o with
 | lst xs=>obtain⟨_,_,_,_,e⟩:=x;exact cf e
 | tup xs=>obtain⟨_,_,_,p⟩:=x;exact p.lt
 | dK kvs=>obtain⟨_,_,_,_,o,_,_,e,_⟩:=x;exact cf e
 | dT kvs=>obtain⟨_,_,_,_,o,_,_,e,_⟩:=x;exact cf e
 | set S n=>obtain⟨o,_,_,_,e,_⟩:=x;exact cf e
 | ins C dx fs=>obtain⟨_,_,_,e,_⟩:=x;exact cf e
 | own y=>obtain⟨_,e⟩:=x;exact cf e
 | xd fs=>obtain⟨_,⟨_,_,_,e,_⟩,_⟩:=x;exact cf e
 | rng lo hi=>obtain⟨_,_,_,e⟩:=x;exact cf e
 | frz ob u=>obtain⟨e,_⟩:=x;exact cf e
 | tbl ps=>exact cf (show h.get? a=some _ from x)
 | met f y=>exact cf (show h.get? a=some _ from x)
 | ext φ=>obtain⟨_,⟨_,e⟩,_⟩:=x;exact cf e
theorem Paired.mapP{α β:Type}{F G:α->β->Prop}:∀{l₁:List α}{l₂:List β},EC F l₁ l₂->(∀ a b,F a b->G a b)->EC G l₁ l₂
 | _,_,.nil,_=>.nil
 | _,_,.cons r t,f=>.cons (f _ _ r) (Paired.mapP t f)
def ObjOk.stay(x:ObjOk P w H h a o)(k:∀ b u,(b=a\/H b=some (.own a))->h.get? b=some u->h'.get? b=some u)
  (I:∀ b,H b=some (.own a)->H' b=some (.own a)) (G:∀ b xs,H b=some (.tup xs)->H' b=some (.tup xs)):ObjOk P w H' h' a o:=by
 induction o with
 | lst xs=>obtain⟨z,l,n,r,e⟩:=x;exact⟨z,l,n,r,k _ _ (.inl rfl) e⟩
 | tup xs=>obtain⟨z,l,r,g,e,c⟩:=x;exact⟨z,l,r,g,k _ _ (.inl rfl) e,c⟩
 | dK kvs=>obtain⟨z,y,D,r,g,j,i,e,c⟩:=x;exact⟨z,y,D,r,g,j,i,k _ _ (.inl rfl) e,c⟩
 | dT kvs =>
  obtain⟨z,y,xs,r,g,j,i,e,c⟩:=x;exact⟨z,y,xs,Paired.mapP r λ p q z=>⟨z.1,G _ _ z.2.1,z.2.2⟩,g,j,i,k _ _ (.inl rfl) e,c⟩
 | set S n=>obtain⟨g,j,i,t,e,c⟩:=x;exact⟨g,j,i,t,k _ _ (.inl rfl) e,c⟩
 | ins C dx fs =>
  obtain⟨d,z,B,e,s,⟨m,j,i,A,c⟩,r⟩:=x;exact⟨I _ d,z,B,k _ _ (.inl rfl) e,s,⟨m,j,i,k _ _ (.inr d) A,c⟩,r⟩
 | own y=>obtain⟨g,e⟩:=x;exact⟨g,k _ _ (.inl rfl) e⟩
 | xd fs=>obtain⟨s,⟨m,j,i,e,c⟩,r⟩:=x;exact⟨s,⟨m,j,i,k _ _ (.inl rfl) e,c⟩,r⟩
 | rng lo hi=>obtain⟨t,u,v,e⟩:=x;exact⟨t,u,v,k _ _ (.inl rfl) e⟩
 | frz g u ih=>obtain⟨e,q⟩:=x;exact⟨k _ _ (.inl rfl) e,ih q⟩
 | tbl ps =>
  have e:h.get? a=some {cls:=.none,data:=.fields ps}:=x;show h'.get? a=some {cls:=.none,data:=.fields ps};exact k a _ (.inl rfl) e
 | met f y =>
  have e:h.get? a=some (Bf (.ref f) (.ref y)):=x;show h'.get? a=some (Bf (.ref f) (.ref y));exact k a _ (.inl rfl) e
 | ext φ=>obtain⟨p,⟨o,e⟩,st⟩:=x;exact⟨st _ _ p λ o q=>k _ _ (.inl rfl) q,⟨o,k _ _ (.inl rfl) e⟩,st⟩
theorem HOk.lt(x:HOk P w H h)(e:H a=some o):a<h.objs.size:=(x a o e).lt
def HOk.fresh(x:HOk P w H h)(e:h.objs.size<=a):H a=none:=by
 cases q:H a with
 | none=>rfl
 | some u=>exact absurd (cw (x.lt q) e) (qj _)
def HOk.kept(x:HOk P w H h)(k:∀ b u,h.get? b=some u->h'.get? b=some u):HOk P w H h':=λ a o e =>
 (x a o e).stay (λ b u _ q=>k b u q) (λ _ q=>q) λ _ _ q=>q
def HOk.laid(x:HOk P w H h)(k:∀ b u,h.get? b=some u->h'.get? b=some u)(hp:h.objs.size<=a)(new:ObjOk P w (upd H a o) h' a o):HOk P w (upd H a o) h':=λ b u e=>by
 have f:=x.fresh hp;by_cases d:b=a
 ·subst d;rw[kA]at e;cases e;exact new
 ·rw[kM d]at e
  exact(x b u e).stay (λ c v _ q=>k c v q) (λ c q=>by rw[kM (kO q f)];exact q) λ c g q=>by rw[kM (kO q f)];exact q
end
def Rd(H:Hp)(a:au)(u:HO):Prop:=H a=some u\/∃ o,H a=some (.frz o u)
def Rd.ok{P:eY}{w:iG}{H:Hp}{h:iK}{a:au}{u:HO}(r:Rd H a u)(x:HOk P w H h):ObjOk P w H h a u:=by
 rcases r with r | ⟨o,r⟩
 ·exact x a u r
 ·obtain⟨_,q⟩:=x a _ r
  exact q
def Mut:Option HO->Prop
 | some (.lst _)=>True
 | some (.dK _)=>True
 | some (.dT _)=>True
 | some (.set _ _)=>True
 | some (.ins _ _ _)=>True
 | some (.ext _)=>True
 | _=>False
section
variable {P:eY} {w:iG} {H:Hp} {h h':iK} {x e:au} {o':HO}
def HOk.write(ok:HOk P w H h)(j:Mut (H x))(o:e=x\/H e=some (.own x))(k:∀ b u,b≠e->h.get? b=some u->h'.get? b=some u)(m:∃ u,h'.get? e=some u)
  (new:ObjOk P w (upd H x o') h' x o'):HOk P w (upd H x o') h':=λ b u q=>by
 have d:∀ c y,H c=some (.own y)->c≠x:=λ c y r z=>by subst z;rw[r]at j;exact j
 have f:∀ c i,H c=some (.tup i)->c≠x:=λ c i r z=>by subst z;rw[r]at j;exact j
 by_cases g:b=x
 ·subst g;rw[kA]at q;cases q;exact new
 ·rw[kM g]at q
  by_cases a:b=e
  ·have n:H b=some (.own x):=by
    rcases o with z | z
    ·exact absurd (a.trans z) g
    ·rw[a];exact z
   rw[q]at n;cases n;obtain⟨v,p⟩:=m;exact⟨v,by rw[a];exact p⟩
  ·refine(ok b u q).stay (λ c v l r=>k c v ?_ r) (λ c r=>by rw[kM (d c b r)];exact r) λ c i r=>by rw[kM (f c i r)];exact r
   rcases l with rfl | l
   ·exact a
   ·rintro rfl
    rcases o with z | z
    ·exact d c b l z
    ·rw[l]at z;cases z;exact g rfl
end
structure Un(fs ex:List au)(H H':Hp)(h h':iK):Prop where
 keep:∀ b o,h.get? b=some o->H b=none->b∉fs->b∉ex->h'.get? b=some o
 slot:∀ b o,h.get? b=some o->H b=none->b∈fs->b∉ex->∃ sl,h'.get? b=some {o with slots:=sl}
 free:∀ b o,h.get? b=some o->H b=none->b∉ex->H' b=none
 there:∀ b o,h.get? b=some o->b∉ex->∃ o',h'.get? b=some o'
 tups:∀ b xs,H b=some (.tup xs)->H' b=some (.tup xs)
 frzs:∀ b o u,H b=some (.frz o u)->H' b=some (.frz o u)
 tbls:∀ b ps,H b=some (.tbl ps)->∃ more,H' b=some (.tbl (ps++more))
section
variable {fs fs' ex ex':List au} {H H1 H2:Hp} {h h1 h2 h':iK} {a x e:au} {o:HO}
def Un.any(u:Un fs ex H H1 h h1){b:au}{ob:Obj}(q:h.get? b=some ob)(n:H b=none)(c:b∉ex):∃ sl,h1.get? b=some {ob with slots:=sl}:=by
 by_cases a:b∈fs
 ·exact u.slot b ob q n a c
 ·exact⟨ob.slots,u.keep b ob q n a c⟩
def Un.kept(k:∀ b u,h.get? b=some u->h'.get? b=some u):Un fs ex H H h h' :=
 ⟨λ b a q _ _ _=>k b a q,λ b a q _ _ _=>⟨a.slots,k b a q⟩,λ _ _ _ n _=>n,λ b a q _=>⟨a,k b a q⟩,λ _ _ q=>q,λ _ _ _ q=>q,λ _ c q=>⟨#[],by rw[q];simp⟩⟩
def Un.refl:Un fs ex H H h h:=Un.kept λ _ _ q=>q
def Un.laid(k:∀ b u,h.get? b=some u->h'.get? b=some u)(hp:h.objs.size<=a)(c:H a=none):Un fs ex H (upd H a o) h h' where
 keep:=λ b u q _ _ _=>k b u q
 slot:=λ b u q _ _ _=>⟨u.slots,k b u q⟩
 free:=λ b u q n _=>by rw[kM (dr (cw (cf q) hp))];exact n
 there:=λ b u q _=>⟨u,k b u q⟩
 tups:=λ b d q=>by rw[kM (kO q c)];exact q
 frzs:=λ b u d q=>by rw[kM (kO q c)];exact q
 tbls:=λ b f q=>⟨#[],by rw[kM (kO q c),q];simp⟩
def Un.write(c:Mut (H x))(m:e=x\/H e=some (.own x))(k:∀ b u,b≠e->h.get? b=some u->h'.get? b=some u)(f:∃ u,h'.get? e=some u):Un fs ex H (upd H x o) h h':=by
 have i:∀ b,H b=none->b≠x:=λ b n z=>by subst z;rw[n]at c;exact c
 have g:∀ b,H b=none->b≠e:=λ b n z=>by
  subst z;rcases m with r | r
  ·exact i b n r
  ·rw[n]at r;cases r
 have d:∀ b u,H b=some u->¬ Mut (some u)->b≠x:=λ b u q l z=>by subst z;rw[q]at c;exact l c
 refine⟨λ b u q n _ _=>k b u (g b n) q,λ b u q n _ _=>⟨u.slots,k b u (g b n) q⟩,λ b u q n _=>by rw[kM (i b n)];exact n,λ b u q _=>?_,
  λ b j q=>by rw[kM (d b _ q λ z=>z)];exact q,λ b u j q=>by rw[kM (d b _ q λ z=>z)];exact q,λ b p q=>⟨#[],by rw[kM (d b _ q λ z=>z),q];simp⟩⟩
 by_cases a:b=e
 ·subst a;exact f
 ·exact⟨u,k b u a q⟩
end
def trk(h:iK)(H:Hp):List au:=(cq h.objs.size).filter λ a=>(H a).isSome
def tR(h:iK)(H:Hp):iK:=PySem.W.hideAll h (trk h H)
def kJT(h:iK)(H:Hp):(tR h H).objs.size=h.objs.size:=PySem.W.hideAll_size _ _
def kNL{h:iK}{H:Hp}{b:au}{o:Obj}(e:h.get? b=some o)(n:H b=none):(tR h H).get? b=some o :=
 PySem.W.hideAll_get _ e λ a=>by
  have q:(H b).isSome=true:=(iW.mp a).2;rw[n]at q;simp at q
def kPO{h:iK}{H:Hp}{b:au}{o:Obj}(e:(tR h H).get? b=some o):h.get? b=some o/\H b=none:=by
 have a:h.get? b=some o:=PySem.W.of_hideAll (trk h H) e;refine⟨a,?_⟩
 cases q:H b with
 | none=>rfl
 | some x =>
  have c:b∈trk h H:=iW.mpr ⟨jt.mpr (cf a),by simp[q]⟩;have z:(tR h H).get? b=none:=PySem.W.hideAll_none (trk h H) c;rw[z]at e;cases e
structure Mod(K:bb)(mg:Str->Option ar)(base:iK):Prop where
 kin:K.In base
 glob:base.Ns gw mg
 blt:∃ mb,base.Ns builtinsNs mb/\∀ x:Str,x≠"__name__"->mb x=bootBuiltins x
 nolimit:base.NoLimit
structure Cx where
 prog:eY
 w:iG
 K:bb
 mg:Str->Option ar
 base:iK
 A:gh
 N:List Str
 s₀:ay
 H₀:Hp
 env:Env
 outer:List Env
 stack:List Env
 ex:List au
 fn:Str->Bool
 calm:Bool
 pn:List (au×Obj)
 xe:ar->ay->Prop
def frs(l:List Env):List au:=l.filterMap (·.frame)
abbrev Cx.fs(X:Cx):List au:=frs X.outer
def Vis(a:vy)(x:Str):Prop:=a.names.lookup x=some .local\/a.names.lookup x=some .cell\/a.names.lookup x=some .free
def Loc(a:vy)(x:Str):Prop:=a.names.lookup x=some .local\/a.names.lookup x=some .cell
def kWI(env:Env)(h:iK)(m:Str->Option ar)(x:Str)(u:ar):Prop :=
 (env.kindOf x=some .local/\m x=some u)\/((env.kindOf x=some .cell\/env.kindOf x=some .free)/\∃ c,env.cells.lookup x=some c/\h.IsCell c (some u))
structure Cx.Ok(X:Cx):Prop where
 mod:Mod X.K X.mg X.base
 kind:X.env.scope.kind=.function
 glob:X.env.globals=gw
 blt:X.env.builtins=builtinsNs
 above:X.s₀.heap.objs.size<=X.env.locals
 inj:∀ x y c,X.env.cells.lookup x=some c->X.env.cells.lookup y=some c->x=y
 has:∀ x,(X.env.kindOf x=some .cell\/X.env.kindOf x=some .free)->∃ c,X.env.cells.lookup x=some c
 cab:∀ x c,X.fn x=true->X.env.cells.lookup x=some c->X.s₀.heap.objs.size<=c
 hd:X.calm=true->X.A.handled=none
 frames:X.A.frames=some X.stack
 stk:X.stack=X.outer\/(X.stack=X.env::X.outer/\X.env.frame=some X.env.locals)
 exf:∀ b∈X.ex,b≠X.env.locals/\∀ x c,X.env.cells.lookup x=some c->c≠b
 bs:∀ b o,X.base.get? b=some o->X.s₀.heap.get? b=some o/\X.H₀ b=none
 bsz:X.base.objs.size<=X.s₀.heap.objs.size
 noex:∀ b o,X.base.get? b=some o->b∉X.ex
 exfs:∀ b∈X.ex,b∉X.fs
 funs:X.s₀.heap.FunFrames X.base X.outer
 frf:∀ b∈X.fs,X.H₀ b=none
structure Inv(X:Cx)(pins:List (au×Obj))(σ:List (Option V))(H:Hp)(s:ay):Prop where
 ok:X.Ok
 os:s.os=X.s₀.os
 bare:Bg s.gens
 base:Un X.fs X.ex X.H₀ H X.s₀.heap s.heap
 loc:∃ m,s.heap.Ns X.env.locals m/\∀(i:Nat)(x:Str)(v:V),X.N[i]?=some x->σ[i]?=some (some v)->Vis X.env.scope x->∃ u,RelV v u/\kWI X.env s.heap m x u
 cell:∀ x c,X.env.cells.lookup x=some c->∃ v,s.heap.IsCell c v
 free:H X.env.locals=none
 freeC:∀ x c,X.env.cells.lookup x=some c->H c=none
 pin:∀ p∈X.pn++pins,s.heap.get? p.1=some p.2/\H p.1=none/\p.1≠X.env.locals/\p.1∉X.fs/\∀ v,p.2.data≠.cell v
 hok:HOk X.prog X.w H s.heap
 len:σ.length=X.N.length
section
variable {X:Cx} {pins:List (au×Obj)} {σ:List (Option V)} {H H':Hp} {s:ay} {h':iK}
def Cx.Ok.nofr(ok:X.Ok){b:au}{o:Obj}(e:X.base.get? b=some o):b∉X.fs:=λ a=>by
 have:=(ok.funs.mem a).1;rw[e]at this;cases this
theorem Inv.bs(I:Inv X pins σ H s):∀ b o,X.base.get? b=some o->s.heap.get? b=some o/\H b=none:=λ b o e =>
 ⟨I.base.keep b o (I.ok.bs b o e).1 (I.ok.bs b o e).2 (I.ok.nofr e) (I.ok.noex b o e),I.base.free b o (I.ok.bs b o e).1 (I.ok.bs b o e).2 (I.ok.noex b o e)⟩
def Inv.bk(I:Inv X pins σ H s):∀ b o,X.base.get? b=some o->s.heap.get? b=some o:=λ b o e=>(I.bs b o e).1
theorem Inv.mod(I:Inv X pins σ H s):Mod X.K X.mg X.base:=I.ok.mod
def Inv.kIn(I:Inv X pins σ H s):X.K.In s.heap:=I.ok.mod.kin.keeps I.bk
theorem Inv.lt(I:Inv X pins σ H s):X.env.locals<s.heap.objs.size:=let ⟨_,hn,_⟩:=I.loc;hn.lt
def Inv.sz(I:Inv X pins σ H s):X.s₀.heap.objs.size<=s.heap.objs.size:=je I.ok.above (fv I.lt)
def Inv.nofs(I:Inv X pins σ H s){a:au}(h:s.heap.objs.size<=a):a∉X.fs:=λ b=>by
 obtain⟨_,o,c,_⟩:=I.ok.funs.mem b;exact absurd (cw (cf c) (je I.sz h)) (qj _)
def Inv.cne(I:Inv X pins σ H s):∀ x c,X.env.cells.lookup x=some c->c≠X.env.locals:=λ x c e z=>by
 obtain⟨v,o,d,f⟩:=I.cell x c e;obtain⟨m,⟨g,i,h,b,a,_⟩,_⟩:=I.loc;rw[z,b]at d;cases d;rw[a]at f;cases f
theorem Inv.funs(I:Inv X pins σ H s):s.heap.FunFrames X.base X.outer:=by
 have all:∀(l:List Env),(∀ b∈frs l,b∈X.fs)->X.s₀.heap.FunFrames X.base l->s.heap.FunFrames X.base l:=by
  intro l
  induction l with
  | nil=>intro _ _;trivial
  | cons env r ih =>
   intro f m;obtain⟨i,⟨L,o,a,g,h,n⟩,j⟩:=m;have d:L∈X.fs:=f L (by unfold frs;rw[Av,a];exact fc);obtain⟨p,e⟩:=I.base.slot L o h (I.ok.frf L d) d λ z=>I.ok.exfs L z d;exact⟨i,⟨L,_,a,g,e,n⟩,ih (λ b c=>f b (by unfold frs;rw[Av,a];exact eD _ c)) j⟩
 exact all X.outer (λ _ c=>c) I.ok.funs
theorem Inv.stack(I:Inv X pins σ H s):s.heap.FunFrames X.base X.stack:=by
 rcases I.ok.stk with e | ⟨e,a⟩
 ·rw[e];exact I.funs
 ·rw[e]
  obtain⟨m,b,_⟩:=I.loc;refine .cons (by rw[I.ok.kind];decide) a b ?_ I.funs;exact Heap.get?_none_of_le (je I.ok.bsz I.ok.above)
def Inv.stkSub(I:Inv X pins σ H s):∀ b∈frs X.stack,b∈X.env.locals::X.fs:=λ b a=>by
 rcases I.ok.stk with e | ⟨e,c⟩
 ·rw[e]at a;exact eD _ a
 ·rw[e]at a
  unfold frs at a;rw[Av,c]at a;exact a
def Inv.stkFree(I:Inv X pins σ H s):∀ b∈frs X.stack,H b=none:=λ b a=>by
 rcases eK.mp (I.stkSub b a) with e | a
 ·rw[e];exact I.free
 ·obtain⟨_,o,c,_⟩:=I.ok.funs.mem a
  exact I.base.free b o c (I.ok.frf b a) λ z=>I.ok.exfs b z a
def Inv.step{g':Array GenState}{t':Nat}{d':Drawn}{ch:List au}(I:Inv X pins σ H s)
  (g:∀ b∈ch,(b∈X.ex\/X.s₀.heap.objs.size<=b)/\b≠X.env.locals/\(∀ x c,X.env.cells.lookup x=some c->c≠b)/\∀ p∈X.pn++pins,p.1≠b)
  (keep:∀ b o,b≠X.env.locals->b∉X.fs->b∉ch->s.heap.get? b=some o->H b=none->h'.get? b=some o)
  (h:∀ b o,b≠X.env.locals->b∈X.fs->b∉ch->s.heap.get? b=some o->H b=none->∃ sl,h'.get? b=some {o with slots:=sl}) (free:∀ b o,b∉ch->s.heap.get? b=some o->H b=none->H' b=none)
  (there:∀ b o,b∉ch->s.heap.get? b=some o->∃ o',h'.get? b=some o')
  (D:∀ b xs,H b=some (.tup xs)->H' b=some (.tup xs)) (B:∀ b o u,H b=some (.frz o u)->H' b=some (.frz o u)) (C:∀ b ps,H b=some (.tbl ps)->∃ more,H' b=some (.tbl (ps++more)))
  (ns:∀ m,s.heap.Ns X.env.locals m->h'.Ns X.env.locals m) (O:HOk X.prog X.w H' h') (Z:Bg g') :
  Inv X pins σ H' {s with heap:=h',gens:=g',drawn:=d',toks:=t'}:=by
 have M:∀ b o,X.s₀.heap.get? b=some o->b≠X.env.locals:=λ b o e=>dr (cw (cf e) I.ok.above)
 have y:∀ b o,X.s₀.heap.get? b=some o->b∉X.ex->b∉ch:=λ b o e a G=>by
  rcases(g b G).1 with z | z
  ·exact a z
  ·exact absurd (cw (cf e) z) (qj _)
 have f:∀ x c,X.env.cells.lookup x=some c->∀ v,s.heap.IsCell c v->h'.IsCell c v:=λ x c e v ⟨o,J,Q⟩=>by
  have j:c∉ch:=λ z=>(g c z).2.2.1 x c e rfl;by_cases T:c∈X.fs
  ·obtain⟨sl,q⟩:=h c o (I.cne x c e) T j J (I.freeC x c e)
   exact⟨_,q,Q⟩
  ·exact⟨o,keep c o (I.cne x c e) T j J (I.freeC x c e),Q⟩
 refine⟨I.ok,I.os,Z,⟨λ b o e n G a=>?_,λ b o e n G a=>?_,λ b o e n a=>?_,λ b o e a=>?_,λ b xs e=>D b xs (I.base.tups b xs e),λ b o xs e=>B b o xs (I.base.frzs b o xs e),λ b ps e=>?_⟩,?_,λ x c e=>?_,?_,λ x c e=>?_,λ p hp=>?_,O,I.len⟩
 ·exact keep b o (M b o e) G (y b o e a) (I.base.keep b o e n G a) (I.base.free b o e n a)
 ·obtain⟨sl,A⟩:=I.base.slot b o e n G a
  obtain⟨N,L⟩:=h b _ (M b o e) G (y b o e a) A (I.base.free b o e n a);exact⟨N,L⟩
 ·obtain⟨o',A⟩:=I.base.there b o e a
  exact free b o' (y b o e a) A (I.base.free b o e n a)
 ·obtain⟨o',A⟩:=I.base.there b o e a
  exact there b o' (y b o e a) A
 ·obtain⟨m1,A⟩:=I.base.tbls b ps e
  obtain⟨Y,L⟩:=C b _ A;exact⟨m1++Y,by rw[L,Array.append_assoc]⟩
 ·obtain⟨m,hn,hl⟩:=I.loc
  refine⟨m,ns m hn,λ i x v A L e3=>?_⟩;obtain⟨u,r,l⟩:=hl i x v A L e3;refine⟨u,r,?_⟩;rcases l with l | ⟨k,c,e,z⟩
  ·exact .inl l
  ·exact .inr ⟨k,c,e,f x c e _ z⟩
 ·obtain⟨v,z⟩:=I.cell x c e
  exact⟨v,f x c e v z⟩
 ·obtain⟨m,⟨o,_,_,J,_⟩,_⟩:=I.loc
  exact free _ o (λ z=>(g _ z).2.1 rfl) J I.free
 ·obtain⟨v,o,J,Q⟩:=I.cell x c e
  exact free c o (λ z=>(g c z).2.2.1 x c e rfl) J (I.freeC x c e)
 ·obtain⟨e,n,S,U,d⟩:=I.pin p hp
  have j:p.1∉ch:=λ z=>(g p.1 z).2.2.2 p hp rfl;exact⟨keep p.1 p.2 S U j e n,free p.1 p.2 j e n,S,U,d⟩
def Inv.un{t':Nat}(I:Inv X pins σ H s)(u:Un X.fs [] H H' s.heap h')(d:HOk X.prog X.w H' h'):Inv X pins σ H' {s with heap:=h',toks:=t'}:=by
 obtain⟨m,⟨o,y,v,h,r⟩,_⟩:=id I.loc;obtain⟨q,i⟩:=u.any h I.free (by simp)
 exact I.step (g':=s.gens) (d':=s.drawn) (ch:=[]) (λ _ z=>nomatch z) (λ b o _ f _ e n=>u.keep b o e n f (by simp)) (λ b o _ f _ e n=>u.slot b o e n f (by simp)) (λ b o _ e n=>u.free b o e n (by simp)) (λ b o _ e=>u.there b o e (by simp)) u.tups u.frzs u.tbls (λ x l=>by
  obtain⟨p,c,g,a,j⟩:=l;rw[h]at a;cases a;exact⟨_,c,g,i,j⟩) d I.bare
def Inv.call{g':Array GenState}{t':Nat}{d':Drawn}{ch:List au}(I:Inv X pins σ H s)(u:Un (frs X.stack) ch H H' s.heap h')(h:HOk X.prog X.w H' h')(q:Bg g')
  (f:∀ b∈ch,(b∈X.ex\/X.s₀.heap.objs.size<=b)/\b≠X.env.locals/\(∀ x c,X.env.cells.lookup x=some c->c≠b)/\∀ p∈X.pn++pins,p.1≠b) :
  Inv X pins σ H' {s with heap:=h',gens:=g',drawn:=d',toks:=t'}:=by
 obtain⟨m,⟨o,J,G,l,r⟩,_⟩:=id I.loc;obtain⟨C,i⟩:=u.any l I.free λ z=>(f _ z).2.1 rfl
 exact I.step (ch:=ch) f (λ b o i y a e n=>u.keep b o e n (λ z=>(eK.mp (I.stkSub b z)).elim i y) a) (λ b o _ _ a e n=>u.any e n a) (λ b o a e n=>u.free b o e n a) (λ b o a e=>u.there b o e a) u.tups u.frzs u.tbls (λ D A=>by
  obtain⟨B,g,j,d,v⟩:=A;rw[l]at d;cases d;exact⟨_,g,j,i,v⟩) h q
def Inv.turned{t':Nat}{it:au}(I:Inv X pins σ H s)(k:∀ b o,b≠it->s.heap.get? b=some o->h'.get? b=some o)(h:H it=none)(f:it≠X.env.locals)
  (h1:it∈X.ex\/X.s₀.heap.objs.size<=it) (j:∀ x c,X.env.cells.lookup x=some c->c≠it) (A:∀ p∈X.pn++pins,p.1≠it):Inv X pins σ H {s with heap:=h',toks:=t'}:=by
 have d:∀ b u,H b=some u->b≠it:=λ b u e z=>by rw[z,h]at e;cases e
 refine I.step (g':=s.gens) (d':=s.drawn) (ch:=[it]) (λ b g=>?_) (λ b o _ _ a e _=>k b o (λ z=>a (by simp[z])) e) (λ b o _ _ a e _=>⟨o.slots,k b o (λ z=>a (by simp[z])) e⟩) (λ _ _ _ _ n=>n)
  (λ b o a e=>⟨o,k b o (λ z=>a (by simp[z])) e⟩) (λ _ _ e=>e) (λ _ _ _ e=>e) (λ b C e=>⟨#[],by rw[e];simp⟩) (λ m l=>?_) (λ b u e=>?_) I.bare
 ·have e:b=it:=by simpa using g
  subst e;exact⟨h1,f,j,A⟩
 ·obtain⟨o,B,y,i,r⟩:=l
  exact⟨o,B,y,k _ o (ox f) i,r⟩
 ·refine(I.hok b u e).stay (λ c v a q=>k c v ?_ q) (λ _ q=>q) λ _ _ q=>q
  rcases a with z | z
  ·rw[z];exact d b u e
  ·exact d c _ z
def Inv.tok(I:Inv X pins σ H s)(t:Nat):Inv X pins σ H {s with toks:=t}:=I.un (h':=s.heap) (t':=t) Un.refl I.hok
theorem Inv.kept{t':Nat}(I:Inv X pins σ H s)(k:∀ b u,s.heap.get? b=some u->h'.get? b=some u):Inv X pins σ H {s with heap:=h',toks:=t'}:=I.un (Un.kept k) (I.hok.kept k)
theorem Inv.laid{a:au}{o:HO}{t':Nat}(I:Inv X pins σ H s)(k:∀ b u,s.heap.get? b=some u->h'.get? b=some u)(hp:s.heap.objs.size<=a)(new:ObjOk X.prog X.w (upd H a o) h' a o) :
  Inv X pins σ (upd H a o) {s with heap:=h',toks:=t'}:=I.un (Un.laid k hp (I.hok.fresh hp)) (I.hok.laid k hp new)
theorem Inv.write{x e:au}{o:HO}{t':Nat}(I:Inv X pins σ H s)(c:Mut (H x))(d:e=x\/H e=some (.own x))(k:∀ b u,b≠e->s.heap.get? b=some u->h'.get? b=some u)(a:∃ u,h'.get? e=some u)
  (new:ObjOk X.prog X.w (upd H x o) h' x o):Inv X pins σ (upd H x o) {s with heap:=h',toks:=t'}:=I.un (Un.write c d k a) (I.hok.write c d k a new)
def Inv.pins_of{a:List (au×Obj)}(I:Inv X pins σ H s)(h:∀ p∈a,s.heap.get? p.1=some p.2/\H p.1=none/\p.1≠X.env.locals/\p.1∉X.fs/\∀ v,p.2.data≠.cell v):Inv X a σ H s :=
 ⟨I.ok,I.os,I.bare,I.base,I.loc,I.cell,I.free,I.freeC,λ p hp=>(ck.mp hp).elim (λ z=>I.pin p (dw _ z)) (h p),I.hok,I.len⟩
def kBY{N:List Str}(f:N.Nodup){i j:Nat}{x:Str}(a:N[i]?=some x)(b:N[j]?=some x):i=j:=by
 obtain⟨h1,d⟩:=ak.mp a;obtain⟨g,c⟩:=ak.mp b;exact(Ac f).mp (d.trans c.symm)
def cX{M:yu}{A:gh}{E:ar->ay->Prop}{i:Nat}{x:Str}{v:V}{u:ar}{Q:Unit->ay->Prop}(I:Inv X pins σ H s)(hN:X.N.Nodup)(hi:X.N[i]?=some x)(C:Loc X.env.scope x)(r:RelV v u)
  (h:∀ s',Inv X pins (σ.set i (some v)) H s'->(∃ a,iz a s.heap s'.heap/\(a=X.env.locals\/X.env.cells.lookup x=some a))->Q () s') (hf:X.fn x=true\/X.env.scope.names.lookup x=some .local:=by first | exact .inl rfl | exact .inr rfl | assumption):dq M A (storeName X.env x u) Q E s:=by
 obtain⟨m,hn,hl⟩:=id I.loc;have a0:(X.env.scope.kind == .class || (X.env.scope.kind == .module && X.env.locals != X.env.globals))=false:=by rw[I.ok.kind];rfl
 have L:i<σ.length:=by rw[I.len];exact(ak.mp hi).1
 have cne:=I.cne
 have l:∀{a:au}{U:iK},(∃ o,s.heap.get? a=some o/\H a=none)->iz a s.heap U->HOk X.prog X.w H U:=λ{a U} ha f b ob e=>by
  obtain⟨_,_,D⟩:=ha;refine(I.hok b ob e).stay (λ c w' B q=>(f.2 c ?_).trans q) (λ _ q=>q) λ _ _ q=>q;rintro rfl;rcases B with rfl | B
  ·rw[D]at e;cases e
  ·rw[D]at B;cases B
 rcases C with J | J
 ·refine wpAny_storeName_local J hn (λ U a4 f=>?_) a0
  obtain⟨oL,_,_,a3,_⟩:=id hn;refine h _ ⟨I.ok,I.os,I.bare,⟨λ b o e n S C=>?_,λ b o e n S C=>?_,I.base.free,λ b o e C=>?_,I.base.tups,I.base.frzs,I.base.tbls⟩,⟨_,a4,λ j y v' g G e3=>?_⟩,λ y c e=>?_,I.free,I.freeC,λ p hp=>?_,l ⟨oL,a3,I.free⟩ f,by simpa using I.len⟩ ⟨_,f,.inl rfl⟩
  ·exact(f.2 b (dr (cw (cf e) I.ok.above))).trans (I.base.keep b o e n S C)
  ·obtain⟨sl,g⟩:=I.base.slot b o e n S C
   exact⟨sl,(f.2 b (dr (cw (cf e) I.ok.above))).trans g⟩
  ·obtain⟨o',g⟩:=I.base.there b o e C
   exact⟨o',(f.2 b (dr (cw (cf e) I.ok.above))).trans g⟩
  ·by_cases O:j=i
   ·subst O
    rw[hi]at g;cases g;rw[jx L]at G;cases G
    exact⟨u,r,.inl ⟨J,by simp⟩⟩
   ·rw[eo (ox O)]at G
    obtain⟨u',r',q⟩:=hl j y v' g G e3;refine⟨u',r',?_⟩;rcases q with⟨k,e⟩ | ⟨k,c,e,z⟩
    ·refine .inl ⟨k,?_⟩
     have:y≠x:=λ e=>O (kBY hN g (e ▸ hi));simp[this,e]
    ·exact .inr ⟨k,c,e,z.sameBut f (cne y c e)⟩
  ·obtain⟨w',z⟩:=I.cell y c e
   exact⟨w',z.sameBut f (cne y c e)⟩
  ·obtain⟨e,n,ne,nf,d⟩:=I.pin p hp
   exact⟨(f.2 p.1 ne).trans e,n,ne,nf,d⟩
 ·have T:X.fn x=true:=by
   rcases hf with z | z
   ·exact z
   ·rw[z]at J;cases J
  obtain⟨c,B⟩:=I.ok.has x (.inl J);obtain⟨w',z⟩:=I.cell x c B;refine wpAny_storeName_cell I.ok.kind J B z (λ U a1 f=>?_);obtain⟨oc,Z,a2⟩:=id z;refine h {s with heap:=U} ⟨I.ok,I.os,I.bare,⟨λ b o e n S C=>?_,λ b o e n S C=>?_,I.base.free,λ b o e C=>?_,I.base.tups,I.base.frzs,I.base.tbls⟩,⟨m,hn.sameBut f (ox (cne x c B)),λ j y v' g G e3=>?_⟩,λ y c' e=>?_,I.free,I.freeC,λ p hp=>?_,l ⟨oc,Z,I.freeC x c B⟩ f,by simpa using I.len⟩ ⟨c,f,.inr B⟩
  ·exact(f.2 b (dr (cw (cf e) (I.ok.cab x c T B)))).trans (I.base.keep b o e n S C)
  ·obtain⟨sl,g⟩:=I.base.slot b o e n S C
   exact⟨sl,(f.2 b (dr (cw (cf e) (I.ok.cab x c T B)))).trans g⟩
  ·obtain⟨o',g⟩:=I.base.there b o e C
   exact⟨o',(f.2 b (dr (cw (cf e) (I.ok.cab x c T B)))).trans g⟩
  ·by_cases O:j=i
   ·subst O
    rw[hi]at g;cases g;rw[jx L]at G;cases G
    exact⟨u,r,.inr ⟨.inl J,c,B,a1⟩⟩
   ·rw[eo (ox O)]at G
    obtain⟨u',r',q⟩:=hl j y v' g G e3;refine⟨u',r',?_⟩;rcases q with q | ⟨k,c',e,z'⟩
    ·exact .inl q
    ·refine .inr ⟨k,c',e,z'.sameBut f ?_⟩
     rintro rfl;exact O (kBY hN g (I.ok.inj _ _ _ e B ▸ hi))
  ·by_cases Y:c'=c
   ·subst Y;exact⟨_,a1⟩
   ·obtain⟨w2,z2⟩:=I.cell y c' e
    exact⟨w2,z2.sameBut f Y⟩
  ·obtain⟨e,n,ne,nf,d⟩:=I.pin p hp
   refine⟨(f.2 p.1 ?_).trans e,n,ne,nf,d⟩;intro q;rw[q,Z]at e;have q':oc=p.2:=bg e;exact d w' (by rw[<-q'];exact a2)
def bG{M:yu}{A:gh}{E:ar->ay->Prop}{i:Nat}{x:Str}{v:V}{u:ar}{Q:Unit->ay->Prop}(I:Inv X pins σ H s)(d:X.N.Nodup)(hi:X.N[i]?=some x)(b:Loc X.env.scope x)(r:RelV v u)
  (h:∀ s',Inv X pins (σ.set i (some v)) H s'->Q () s') (a:X.fn x=true\/X.env.scope.names.lookup x=some .local:=by first | exact .inl rfl | exact .inr rfl | assumption):dq M A (storeName X.env x u) Q E s :=
 cX I d hi b r (λ s' c _=>h s' c) a
def Inv.call'{a:ay}{ch:List au}(I:Inv X pins σ H s)(m:a.os=s.os)(u:Un (frs X.stack) ch H H' s.heap a.heap)(d:HOk X.prog X.w H' a.heap)(j:Bg a.gens)
  (f:∀ b∈ch,(b∈X.ex\/X.s₀.heap.objs.size<=b)/\b≠X.env.locals/\(∀ x c,X.env.cells.lookup x=some c->c≠b)/\∀ p∈X.pn++pins,p.1≠b):Inv X pins σ H' a:=by
 obtain⟨n,g,i,h,l⟩:=a;have e:l=s.os:=m;subst e;exact I.call (g':=g) (t':=h) (d':=i) u d j f
end
abbrev XK:=ar->Option au->Hp->Prop
abbrev St:=List (Option V)
abbrev VK:=V->Hp->Prop
abbrev TE:=St->Hp->VK->Prop
abbrev TT:=St->Hp->(Bool->Hp->Prop)->Prop
abbrev TA:=St->Hp->(List V->Hp->Prop)->Prop
structure Ends where
 nx:St->Hp->Prop
 rt:VK
 bk:St->Hp->Prop:=λ _ _=>False
 ct:St->Hp->Prop:=λ _ _=>False
abbrev TS:=Ends->St->Hp->Prop
def EP(X:Cx)(a:List (au×Obj))(d:St)(Q:VK)(u:ar)(c:ay):Prop:=∃ v b,Inv X a d b c/\RelV v u/\Q v b
def TP(X:Cx)(a:List (au×Obj))(f:St)(Q:Bool->Hp->Prop)(b:Bool)(d:ay):Prop:=∃ c,Inv X a f c d/\Q b c
def AP(X:Cx)(a:List (au×Obj))(f:St)(Q:List V->Hp->Prop)(g:List ar)(d:ay):Prop:=∃ c b,Inv X a f b d/\Vals c g/\Q c b
def SP(X:Cx)(b:List (au×Obj))(D:Ends)(f:Flow)(d:ay):Prop :=
 match f with
 | .next=>∃ a c,Inv X b a c d/\D.nx a c
 | .brk=>∃ a c,Inv X b a c d/\D.bk a c
 | .cont=>∃ a c,Inv X b a c d/\D.ct a c
 | .ret u=>∃ v a c,Inv X b a c d/\RelV v u/\D.rt v c
def PE(X:Cx)(e:iH)(t:TE):Prop :=
 ∀(pins:List (au×Obj))(s:ay)(σ:St)(H:Hp)(Q:VK),Inv X pins σ H s->t σ H Q->dq (model X.prog X.w) X.A (eval e X.env) (EP X pins σ Q) X.xe s
def PT(X:Cx)(e:iH)(t:TT):Prop :=
 ∀(pins:List (au×Obj))(s:ay)(σ:St)(H:Hp)(Q:Bool->Hp->Prop),Inv X pins σ H s->t σ H Q->dq (model X.prog X.w) X.A (isTrue e X.env (eval e X.env)) (TP X pins σ Q) X.xe s
def PW(X:Cx)(e:iH)(t:TT):Prop :=
 ∀(vT:Sem ar)(pins:List (au×Obj))(s:ay)(σ:St)(H:Hp)(Q:Bool->Hp->Prop),Inv X pins σ H s->t σ H Q->dq (model X.prog X.w) X.A (isTrue e X.env vT) (TP X pins σ Q) X.xe s
def PW.pt{X:Cx}{e:iH}{t:TT}(h:PW X e t):PT X e t:=h _
def PA(X:Cx)(b:List iH)(t:TA):Prop :=
 ∀(a:Pos)(pins:List (au×Obj))(s:ay)(σ:St)(H:Hp)(Q:List V->Hp->Prop),Inv X pins σ H s->t σ H Q->dq (model X.prog X.w) X.A (spliced (backTo a (starEach b X.env))) (AP X pins σ Q) X.xe s
def PS(X:Cx)(st:kr)(t:TS):Prop :=
 ∀(pins:List (au×Obj))(s:ay)(σ:St)(H:Hp)(D:Ends),Inv X pins σ H s->t D σ H->dq (model X.prog X.w) X.A (exec st X.env) (SP X pins D) X.xe s
def PSs(X:Cx)(st:List kr)(t:TS):Prop :=
 ∀(pins:List (au×Obj))(s:ay)(σ:St)(H:Hp)(D:Ends),Inv X pins σ H s->t D σ H->dq (model X.prog X.w) X.A (execs st X.env) (SP X pins D) X.xe s
def thn{α:Type}{t:Sem α}{Q b:α->ay->Prop}{M:yu}{A:gh}{E:ar->ay->Prop}{s:ay}(h:dq M A t Q E s)(c:∀ a s,Q a s->b a s):dq M A t b E s:=vd h c λ _ _ x=>x
section
variable {X:Cx}
inductive kRO(i:Nat)(σ:St)(H:Hp)(Q:VK):Prop
 | mk:∀ v,(σ[i]?=some (some v))->(Q v H)->kRO i σ H Q
def tC(v:V):TE:=λ _ H Q=>Q v H
def kSH{i:Nat}{x:Str}{j:Pos}(B:X.N[i]?=some x)(y:Vis X.env.scope x)(n:(x == ("__debug__" : Str))=false:=by decide)(g:(x == ("__classdict__" : Str))=false:=by decide):PE X (.Name x j) (kRO i):=by
 intro f s q H Q I h;obtain⟨v,e,h⟩:=h;obtain⟨m,p,C⟩:=I.loc;obtain⟨u,r,l⟩:=C i x v B e y;have d:EP X f q Q u s:=⟨v,H,I,r,h⟩;rcases l with⟨b,A⟩ | ⟨b,c,o,a⟩
 ·exact Ea (wpAny_loadName_local I.ok.kind b p A d) n
 ·rcases b with b | b
  ·exact Ea (wpAny_loadName_cell I.ok.kind b o a d) n
  ·exact Ea (wpAny_loadName_free I.ok.kind b o a d g) n
def kJ {i j pos}:PE X (.Constant (.int i) j pos) (tC (.int i)):=λ _ _ _ H _ I h=>wpAny_Constant_int ⟨.int i,H,I.tok _,⟨_,rfl⟩,h⟩
def fI {b j pos}:PE X (.Constant (.bool b) j pos) (tC (.bl b)):=λ _ _ _ H _ I h=>Constant_bool ⟨.bl b,H,I,rfl,h⟩
def vI {j pos}:PE X (.Constant .none j pos) (tC .non):=λ _ _ _ H _ I h=>Constant_none ⟨.non,H,I,rfl,h⟩
def Gl(X:Cx)(x:Str):Prop:=X.env.kindOf x=some .globalImplicit
def kPU{E:ar->ay->Prop}{a:List (au×Obj)}{s:ay}{d:St}{H:Hp}{x:Str}{u:ar}{b:Pos}{Q:ar->ay->Prop}(I:Inv X a d H s)(c:Gl X x)(f:X.mg x=some u)(h:Q u s)
  (g:(x == ("__debug__" : Str))=false:=by decide):dq (model X.prog X.w) X.A (eval (.Name x b) X.env) Q E s :=
 BH I.ok.kind c (Calls.loadGlobal_global (by rw[I.ok.glob];exact I.mod.glob.keeps I.bk) f h) g
def wN{E:ar->ay->Prop}{a:List (au×Obj)}{s:ay}{f:St}{H:Hp}{x:Str}{u:ar}{b:Pos}{Q:ar->ay->Prop}(I:Inv X a f H s)(c:Gl X x)(j:X.mg x=none)(i:bootBuiltins x=some u)(h:Q u s)
  (d:x≠"__name__":=by decide) (l:(x == ("__debug__" : Str))=false:=by decide):dq (model X.prog X.w) X.A (eval (.Name x b) X.env) Q E s:=by
 obtain⟨m,h1,g⟩:=I.mod.blt;exact BH I.ok.kind c (Calls.loadGlobal_builtin (by rw[I.ok.glob];exact I.mod.glob.keeps I.bk) j (by rw[I.ok.blt];exact h1.keeps I.bk) ((g x d).trans i) h) l
def wB{x:Str}{v:V}{u:ar}{a:Pos}(b:Gl X x)(f:X.mg x=none)(d:bootBuiltins x=some u)(r:RelV v u)(c:x≠"__name__":=by decide)(g:(x == ("__debug__" : Str))=false:=by decide):PE X (.Name x a) (tC v) :=
 λ _ _ _ H _ I h=>wN I b f d ⟨v,H,I,r,h⟩ c g
variable {a b:iH} {ta tb:TE} {pos:Pos}
def PC(X:Cx)(f:GK)(a b:iH)(t:TE):Prop :=
 ∀(pins:List (au×Obj))(s:ay)(σ:St)(H:Hp)(Q:VK),Inv X pins σ H s->t σ H Q ->
  dq (model X.prog X.w) X.A (eval a X.env) (λ v d=>dq (model X.prog X.w) X.A (eval b X.env) (λ u c=>dq (model X.prog X.w) X.A (compareOp f v u) (EP X pins σ Q) X.xe c) X.xe d) X.xe s
inductive tBY(Q:Bool->Hp->Prop)(x:V)(H1:Hp):Prop
 | mk:∀ c,(x=.bl c)->(Q c H1)->tBY Q x H1
def tB(t:TE):TT:=λ a H Q=>t a H λ x b=>tBY Q x b
def kSC{g:GK}{t:TE}(h:PC X g a b t)(h1:behindInMarks g b=false:=by first | exact nobehind _ (by decide) (by decide) | rfl):PT X (.Compare a [g] [b] pos) (tB t):=by
 intro f s i H Q I l;refine Cm (thn (h f s i H _ I l) λ v r h1=>thn h1 λ u y n=>thn n λ c A ⟨x,j,o,p,m⟩=>?_) h1;obtain⟨d,rfl,q⟩:=m;cases p
 exact oy ⟨j,o,q⟩
def zC{e:iH}{t:TE}(h:PE X e t)(j:∀ vT,isTrue e X.env vT=(do let v <-vT;standAt e.pos;holding [v] (truthy v)):=by intro _;rfl):PT X e (tB t):=by
 intro a s c H Q I b;refine isTrue_plain (thn (h a s c H _ I b) λ v m ⟨x,g,i,l,f⟩=>?_) (j _);obtain⟨d,rfl,q⟩:=f;cases l
 exact oy ⟨g,i,q⟩
variable {tA tB':TT} {rest:List iH}
def kVZ(t u:TT):TT:=λ a H Q=>t a H λ c b=>if c=true then u a b Q else Q false b
def tOr(t u:TT):TT:=λ a H Q=>t a H λ c b=>if c=true then Q true b else u a b Q
def kVV(t:TT):TT:=λ a H Q=>t a H λ c b=>Q (!c) b
def sN(f:PT X a tA):PW X (.BoolOp .And [a] pos) tA:=by
 intro g b s d H Q I h;refine isTrue_and (thn (f b s d H Q I h) λ c i e=>?_)
 cases c with
 | true=>exact isTrue_and_nil e
 | false=>exact e
def dC(f:PT X a tA):PW X (.BoolOp .Or [a] pos) tA:=by
 intro g b s d H Q I h;refine isTrue_or (thn (f b s d H Q I h) λ c i e=>?_)
 cases c with
 | false=>exact isTrue_or_nil e
 | true=>exact e
def sO(m:PT X a tA)(l:PW X (.BoolOp .And (b::rest) pos) tB'):PW X (.BoolOp .And (a::b::rest) pos) (kVZ tA tB'):=by
 intro n d s f H Q I h;refine isTrue_and (thn (m d s f H _ I h) λ c o ⟨j,i,g⟩=>?_)
 cases c with
 | true=>exact l n d o f j Q i g
 | false=>exact⟨j,i,g⟩
def pI(m:PT X a tA)(l:PW X (.BoolOp .Or (b::rest) pos) tB'):PW X (.BoolOp .Or (a::b::rest) pos) (tOr tA tB'):=by
 intro n d s f H Q I h;refine isTrue_or (thn (m d s f H _ I h) λ c o ⟨j,i,g⟩=>?_)
 cases c with
 | true=>exact⟨j,i,g⟩
 | false=>exact l n d o f j Q i g
def zD(f:PT X a tA):PT X (.UnaryOp .Not a pos) (kVV tA):=by
 intro b s d H Q I h;exact isTrue_not (f b s d H (λ c g=>Q (!c) g) I h)
inductive kLB(tb:TE)(σ:St)(Q:VK)(x:V)(H1:Hp):Prop
 | mk:∀ c,(x=.bl c)->(if c=true then tb σ H1 Q else Q (.bl false) H1)->kLB tb σ Q x H1
def kUB(d b:TE):TE:=λ a H Q=>d a H λ x c=>kLB b a Q x c
inductive kKX(Q:VK)(x:V)(H1:Hp):Prop
 | mk:∀ c,(x=.bl c)->(Q (.bl (!c)) H1)->kKX Q x H1
def kTU(c:TE):TE:=λ a H Q=>c a H λ x b=>kKX Q x b
def mF {op} {t:TE} (h:PE X a t):PE X (.BoolOp op [a] pos) t:=λ b s d H Q I c=>BoolOp_one (h b s d H Q I c)
def aV(m:PE X a ta)(l:PE X (.BoolOp .And (b::rest) pos) tb):PE X (.BoolOp .And (a::b::rest) pos) (kUB ta tb):=by
 intro d s g H Q I h;refine BoolOp_and (thn (m d s g H _ I h) λ v n ⟨x,j,i,o,f⟩=>?_);obtain⟨c,rfl,f⟩:=f;cases o
 refine oy ?_
 cases c with
 | true=>exact l d n g j Q i f
 | false=>exact⟨.bl false,j,i,rfl,f⟩
def kML(f:PE X a ta):PE X (.UnaryOp .Not a pos) (kTU ta):=by
 intro b s g H Q I h;refine UnaryOp_ (thn (f b s g H _ I h) λ v m ⟨x,j,i,l,d⟩=>?_);obtain⟨c,rfl,d⟩:=d;cases l
 exact not_of (oy ⟨.bl (!c),j,i,rfl,d⟩)
def tIf(t:TT)(f d:TE):TE:=λ a H Q=>t a H λ c b=>if c=true then f a b Q else d a b Q
def kBM{c:iH}(p:PT X c tA)(o:PE X a ta)(n:PE X b tb):PE X (.IfExp c a b pos) (tIf tA ta tb):=by
 intro f s g H Q I h;refine wpAny_IfExp (thn (p f s g H _ I h) λ d l ⟨m,j,i⟩=>?_)
 cases d with
 | true=>exact o f l g m Q j i
 | false=>exact n f l g m Q j i
end
def SqL(K:bb)(H:Hp)(a:au)(xs:List V):Prop :=
 Rd H a (.lst xs) \/
  ∃(o:Obj)(b:Array ar)(n:Nat),K.lookup a=some o/\o.cls=.type "list"/\o.dict=none/\o.data=.seq b n/\b.size<=sizeLine/\Vals xs b.toList
def SqT(K:bb)(H:Hp)(a:au)(xs:List V):Prop :=
 Rd H a (.tup xs) \/
  ∃(o:Obj)(b:Array ar)(n:Nat),K.lookup a=some o/\o.cls=.type "tuple"/\o.data=.seq b n/\b.size<=sizeLine/\Vals xs b.toList
def kWG:ar->Option V
 | .none=>some .non
 | .bool b=>some (.bl b)
 | .int i _=>some (.int i)
 | .str x _=>some (.str x)
 | .bytes b _=>some (.byt b)
 | .float b _=>some (.flt b)
 | .ref a=>some (.ref a)
 | .type n=>some (.ty n)
 | _=>none
def RelV.abs{x:V}{u:ar}(r:RelV x u):kWG u=some x:=by
 cases x with
 | non=>cases r;rfl
 | bl _=>cases r;rfl
 | int _=>obtain⟨t,rfl⟩:=r;rfl
 | str _=>obtain⟨t,rfl⟩:=r;rfl
 | byt _=>obtain⟨t,rfl⟩:=r;rfl
 | flt _=>obtain⟨t,rfl⟩:=r;rfl
 | ref _=>cases r;rfl
 | ty _=>cases r;rfl
def RelV.inj{x y:V}{u:ar}(r:RelV x u)(q:RelV y u):x=y:=bg (r.abs.symm.trans q.abs)
theorem Vals.inj:∀{xs ys:List V}{a:List ar},Vals xs a->Vals ys a->xs=ys
 | _,_,_,.nil,.nil=>rfl
 | _,_,_,.cons r t,.cons r' t'=>by rw[r.inj r',Vals.inj t t']
section
variable {X:Cx} {pins:List (au×Obj)} {σ:St} {H:Hp} {s:ay} {a:au} {xs ys:List V}
def SqL.of{K:bb}(h:H a=some (.lst xs)):SqL K H a xs:=.inl (.inl h)
def SqT.of{K:bb}(h:H a=some (.tup xs)):SqT K H a xs:=.inl (.inl h)
def Inv.list(I:Inv X pins σ H s)(h:SqL X.K H a xs):∃ its:List ar,Vals xs its/\PlainL s.heap a its.toArray/\xs.length<=sizeLine:=by
 rcases h with h | ⟨o,its,n,d,c,f,b,g,r⟩
 ·obtain⟨z,its,n,r,e⟩:=h.ok I.hok
  exact⟨its,r,⟨_,n,e,rfl,rfl,rfl⟩,z⟩
 ·refine⟨its.toList,r,⟨o,n,I.kIn a o d,c,f,by simpa using b⟩,?_⟩
  have e:=r.length;simp only[iD]at e;omega
def Inv.tuple(I:Inv X pins σ H s)(h:SqT X.K H a xs):∃ its:List ar,Vals xs its/\EZ s.heap a its.toArray/\xs.length<=sizeLine:=by
 rcases h with h | ⟨o,its,n,d,c,b,f,r⟩
 ·obtain⟨z,its,r,p⟩:=h.ok I.hok
  exact⟨its,r,p.isTup,z⟩
 ·refine⟨its.toList,r,⟨o,I.kIn a o d,c,n,by simpa using b⟩,?_⟩
  have e:=r.length;simp only[iD]at e;omega
def Inv.list_inj(I:Inv X pins σ H s)(h:SqL X.K H a xs)(h':SqL X.K H a ys):xs=ys:=by
 obtain⟨c,r,⟨o,n,e,_,_,d⟩,_⟩:=I.list h;obtain⟨b,i,⟨j,l,f,_,_,g⟩,_⟩:=I.list h';rw[e]at f;cases f;rw[d]at g;injection g with d1 _
 have:c=b:=by simpa using congrArg Fv d1
 subst this;exact r.inj i
def Inv.tuple_inj(I:Inv X pins σ H s)(h:SqT X.K H a xs)(h':SqT X.K H a ys):xs=ys:=by
 obtain⟨c,r,⟨o,e,_,n,d⟩,_⟩:=I.tuple h;obtain⟨b,i,⟨j,f,_,l,g⟩,_⟩:=I.tuple h';rw[e]at f;cases f;rw[d]at g;injection g with d1 _
 have:c=b:=by simpa using congrArg Fv d1
 subst this;exact r.inj i
end
abbrev Cx.wish(X:Cx)(E:ar->ay->Prop):Cx:={X with xe:=E}
abbrev Cx.nox(X:Cx):Cx:=X.wish λ _ _=>False
theorem Cx.Ok.wish{X:Cx}(ok:X.Ok)(E:ar->ay->Prop):(X.wish E).Ok :=
 ⟨ok.mod,ok.kind,ok.glob,ok.blt,ok.above,ok.inj,ok.has,ok.cab,ok.hd,ok.frames,ok.stk,ok.exf,ok.bs,ok.bsz,ok.noex,ok.exfs,ok.funs,ok.frf⟩
def Cx.Ok.unwish{X:Cx}{E:ar->ay->Prop}(ok:(X.wish E).Ok):X.Ok :=
 ⟨ok.mod,ok.kind,ok.glob,ok.blt,ok.above,ok.inj,ok.has,ok.cab,ok.hd,ok.frames,ok.stk,ok.exf,ok.bs,ok.bsz,ok.noex,ok.exfs,ok.funs,ok.frf⟩
section
variable {X:Cx} {pins:List (au×Obj)} {σ:St} {H:Hp} {s:ay} {E:ar->ay->Prop}
theorem Inv.wish(I:Inv X pins σ H s)(E:ar->ay->Prop):Inv (X.wish E) pins σ H s:=⟨I.ok.wish E,I.os,I.bare,I.base,I.loc,I.cell,I.free,I.freeC,I.pin,I.hok,I.len⟩
theorem Inv.unwish(I:Inv (X.wish E) pins σ H s):Inv X pins σ H s:=⟨I.ok.unwish,I.os,I.bare,I.base,I.loc,I.cell,I.free,I.freeC,I.pin,I.hok,I.len⟩
theorem SP.unwish{D:Ends}{f:Flow}{c:ay}(h:SP (X.wish E) pins D f c):SP X pins D f c:=by
 cases f with
 | next=>obtain⟨a,b,I,q⟩:=h;exact⟨a,b,I.unwish,q⟩
 | brk=>obtain⟨a,b,I,q⟩:=h;exact⟨a,b,I.unwish,q⟩
 | cont=>obtain⟨a,b,I,q⟩:=h;exact⟨a,b,I.unwish,q⟩
 | ret u=>obtain⟨v,a,b,I,r,q⟩:=h;exact⟨v,a,b,I.unwish,r,q⟩
theorem PSs.nox{st:List kr}{t:TS}(h:PSs X.nox st t):PSs X st t:=λ a s c H D I b =>
 vd (h a s c H D (I.wish _) b) (λ _ _ q=>q.unwish) λ _ _ z=>wq z
end
section
variable {X:Cx} {st:kr} {rest:List kr} {t u:TS} {e:iH} {te:TE} {pos:Pos}
def kTV:TS:=λ D a H=>D.nx a H
def kVR(t u:TS):TS:=λ D a H=>t {D with nx:=u D} a H
def jC:PSs X [] kTV:=λ _ _ a H _ I h=>Al ⟨a,H,I,h⟩
def kE(h1:PS X st t)(g:PSs X rest u):PSs X (st::rest) (kVR t u):=by
 intro a s c H D I h;refine ED (thn (h1 a s c H {D with nx:=u D} I h) λ f j q=>?_)
 cases f with
 | next =>
  obtain⟨b,i,d,q⟩:=q;exact g a j b i D d q
 | ret v=>exact q
 | brk=>exact q
 | cont=>exact q
def kL(h1:PS X st t):PSs X [st] t:=by
 intro a s b H D I h;refine ED (thn (h1 a s b H D I h) λ f c q=>?_)
 cases f with
 | next=>exact Al q
 | ret v=>exact q
 | brk=>exact q
 | cont=>exact q
def Inv.quiet{a:List (au×Obj)}{b:St}{H:Hp}{s:ay}(I:Inv X a b H s):interactive X.env=false:=by simp[interactive,I.ok.kind]
def kTX(b:TE):TS:=λ D a H=>b a H λ _ c=>D.nx a c
def qM(i:PE X e te)(c:swapsWith e none pos.line X.env=pure false:=by rfl):PS X (.Expr e pos) (kTX te):=by
 intro a s b H D I h;exact wpAny_Expr_any (thn (i a s b H _ I h) λ v j ⟨x,f,g,l,d⟩=>⟨b,f,g,d⟩) I.quiet c
def kVT(b:TE):TS:=λ D a H=>b a H D.rt
def kU(g:PE X e te):PS X (.Return (some e) pos) (kVT te):=by
 intro a s b H D I h;exact wpAny_Return_some (thn (g a s b H _ I h) λ v j ⟨x,d,f,i,c⟩=>⟨x,b,d,f,i,c⟩)
def kVX(c:TT)(t u:TS):TS:=λ D a H=>c a H λ b d=>if b=true then t D a d else u D a d
def yE{c:iH}{a b:List kr}{n:TT}(q:PT X c n)(p:PSs X a t)(o:PSs X b u):PS X (.If c a b pos) (kVX n t u):=by
 intro f s g H D I h;refine wpAny_If (thn (q f s g H _ I h) λ d l ⟨m,j,i⟩=>?_)
 cases d with
 | true=>exact p f l g m D j i
 | false=>exact o f l g m D j i
end
abbrev TG:=V->St->Hp->(St->Hp->Prop)->Prop
abbrev TGs:=List V->St->Hp->(St->Hp->Prop)->Prop
def PG(X:Cx)(a:iH)(t:TG):Prop :=
 ∀(pins:List (au×Obj))(s:ay)(σ:St)(H:Hp)(v:V)(u:ar)(Q:St->Hp->Prop),Inv X pins σ H s->RelV v u->t v σ H Q ->
  dq (model X.prog X.w) X.A (assign a X.env u) (λ _ d=>∃ b c,Inv X pins b c d/\Q b c) X.xe s
def PGs(X:Cx)(ts:List iH)(t:TGs):Prop :=
 ∀(pins:List (au×Obj))(s:ay)(σ:St)(H:Hp)(vs:List V)(us:List ar)(Q:St->Hp->Prop),Inv X pins σ H s->Vals vs us->t vs σ H Q ->
  dq (model X.prog X.w) X.A (assignInOrder ((assignEach ts X.env).map (·.2)) us) (λ _ c=>∃ a b,Inv X pins a b c/\Q a b) X.xe s
abbrev kTO:=V->V->V->Hp->(Hp->Prop)->Prop
def kVJ(X:Cx)(t:kTO):Prop :=
 ∀(pins:List (au×Obj))(s:ay)(σ:St)(H:Hp)(o i v:V)(ov iv u:ar)(Q:Hp->Prop),Inv X pins σ H s->RelV o ov->RelV i iv->RelV v u->t o i v H Q ->
  dq (model X.prog X.w) X.A (setItem ov iv u) (λ _ b=>∃ a,Inv X pins σ a b/\Q a) X.xe s
section
variable {X:Cx} {pos:Pos}
def nA(i:Nat):TG:=λ v a H Q=>Q (a.set i (some v)) H
def zY{i:Nat}{x:Str}(f:X.N.Nodup)(hi:X.N[i]?=some x)(d:Loc X.env.scope x)(b:X.fn x=true\/X.env.scope.names.lookup x=some .local:=by first | exact .inl rfl | exact .inr rfl | assumption):PG X (.Name x pos) (nA i):=by
 intro a s g H v u Q I r h;exact Bh (bG I f hi d r (λ j c=>⟨_,H,c,h⟩) b)
inductive kVA(vs:List V)(σ:St)(H:Hp)(Q:St->Hp->Prop):Prop
 | mk:(vs=[])->(Q σ H)->kVA vs σ H Q
inductive kRE(t:TG)(u:TGs)(vs:List V)(σ:St)(H:Hp)(Q:St->Hp->Prop):Prop
 | mk:∀ v r,(vs=v::r)->(t v σ H λ σ' H'=>u r σ' H' Q)->kRE t u vs σ H Q
def qV:PGs X [] kVA:=by
 intro a s b H c d Q I r h;obtain⟨e,h⟩:=h;subst e;cases r
 exact DX ⟨b,H,I,h⟩
def kT{e:iH}{b:List iH}{t:TG}{u:TGs}(h1:PG X e t)(m:PGs X b u)
  (f:(assignEach (e::b) X.env).map (·.2)=assign e X.env::(assignEach b X.env).map (·.2):=by rfl):PGs X (e::b) (kRE t u):=by
 intro a s g H q p Q I r h;obtain⟨v,o,i,h⟩:=h;subst i
 cases r with
 | cons r rr =>
  rw[f];refine BI (thn (h1 a s g H _ _ _ I r h) λ _ d ⟨c,j,n,l⟩=>?_);exact m a d c j _ _ Q n rr l
inductive mZ(K:bb)(n:Nat)(t:TGs)(v:V)(σ:St)(H:Hp)(Q:St->Hp->Prop):Prop
 | mk:∀ a xs,(v=.ref a)->(SqT K H a xs)->(xs.length=n)->(t xs σ H Q)->mZ K n t v σ H Q
def jK{d:List iH}{k:Nat}{t:TGs}{n:Nat}(p:X.calm=true)(h:PGs X d t)
  (m:(assignEach d X.env).length=n:=by rfl) (f:(assignEach d X.env).findIdx? (·.1)=none:=by rfl):PG X (.Tuple d k pos) (mZ X.K n t):=by
 intro c s i H v u Q I r g;obtain⟨a,A,q,y,G,g⟩:=g;subst q;cases r
 obtain⟨l,j,C,J⟩:=I.tuple y;refine assign_Tuple_tuple (I.ok.hd p) C (by simp[m,<-G,j.length]) f λ x B=>?_;have D:Inv X c i H {s with heap:=x}:=I.kept (t':=s.toks) λ b o e=>B b o (dr (cf e)) e
 exact h c _ i H A _ Q D (by simpa using j) g
def kWD(to b:TE)(t:kTO):TG:=λ v a H Q=>to a H λ o d=>b a d λ i c=>t o i v c λ f=>Q a f
def kDW{o i:iH}{to c:TE}{t:kTO}(G:PE X o to)(hi:PE X i c)(j:kVJ X t)
  (d:∀ v,assign (.Subscript o i pos) X.env v=(do
   let ov <-holding [v] (eval o X.env)
   let iv <-holding [v,ov] (eval i X.env)
   standAt pos
   holding [v,ov,iv] (setItem ov iv v)
   release [v,ov,iv] []):=by intro _;rfl):PG X (.Subscript o i pos) (kWD to c t):=by
 intro a s b H v u Q I r h;rw[d];refine ai (km (thn (G a s b H _ I h) λ ov f ⟨x,n,J,L,B⟩=>?_));refine ai (km (thn (hi a f b n _ J B) λ iv C ⟨y,m,l,p,D⟩=>?_));refine ai (ve (ai (km (thn (j a C b m x y v ov iv u _ l L p r D) λ _ M ⟨g,A,q⟩=>?_))));exact wpAny_release ⟨b,g,A,q⟩
def kLA(b:TE)(g:TG):TS:=λ D a H=>b a H λ x c=>g x a c D.nx
def yC{b e:iH}{d:TE}{g:TG}(l:PE X e d)(j:PG X b g)(i:swapsWithSole [b] e pos.line X.env=pure false:=by rfl)(n:swappedStores [b] e X.env=pure none:=by rfl)
  (h1:(assignEach [b] X.env).map (·.2)=[assign b X.env]:=by rfl):PS X (.Assign [b] e pos) (kLA d g):=by
 intro a s c H D I h;refine wpAny_Assign_stores (thn (l a s c H _ I h) λ v f ⟨x,m,p,r,o⟩=>?_) i n;rw[h1];exact thn (j a f c m x v _ p r o) λ _ u q=>q
def kSD{i:Nat}{x:Str}{e:iH}{c:TE}{a:Pos}(n:X.N.Nodup)(hi:X.N[i]?=some x)(p:Loc X.env.scope x)(j:PE X e c)(d:swapsWith e (some (.Name x a)) pos.line X.env=pure false:=by rfl)(o:X.fn x=true\/X.env.scope.names.lookup x=some .local:=by first | exact .inl rfl | exact .inr rfl | assumption) :
  PS X (.Assign [.Name x a] e pos) (kLA c (nA i)):=by
 intro b s f H D I h;refine wpAny_Assign_Name (thn (j b s f H _ I h) λ v u ⟨y,l,q,r,m⟩=>?_) d;exact bG q n hi p r (λ A g=>⟨_,l,g,m⟩) o
inductive kQP(i:Nat)(j:Nat)(D:Ends)(σ:St)(vs:List V)(H1:Hp):Prop
 | mk:∀ v w,(vs=[v,w])->(D.nx ((σ.set i (some v)).set j (some w)) H1)->kQP i j D σ vs H1
def kVU(i j:Nat)(d:TA):TS:=λ D a H=>d a H λ c b=>kQP i j D a c b
def kSE{i j:Nat}{x y:Str}{a b:iH}{G:TA}{B r pt:Pos} {kt k2 pt2} (hc:X.calm=true) (O:X.N.Nodup) (hi:X.N[i]?=some x) (T:X.N[j]?=some y) (n:i≠j)
  (Q:X.env.scope.names.lookup x=some .local) (C:X.env.scope.names.lookup y=some .local) (U:PA X [a,b] G)
  (hw:swappedStores [.Tuple [.Name x B,.Name y r] kt pt] (.Tuple [a,b] k2 pt2) X.env=pure (some [x,y]))
  (Y:swapsWithSole [.Tuple [.Name x B,.Name y r] kt pt] (.Tuple [a,b] k2 pt2) pos.line X.env=pure false:=by rfl) :
  PS X (.Assign [.Tuple [.Name x B,.Name y r] kt pt] (.Tuple [a,b] k2 pt2) pos) (kVU i j G):=by
 intro c s J H D I h;rw[exec_Assign_arm];refine ai (ve ?_);rw[Y];refine ai (bp ?_);rw[if_neg (by decide)];refine ai (Tuple_ (thn (U _ c s J H _ I h) λ us d ⟨vs,L,I1,r1,u⟩=>?_));obtain⟨v,w,e1,u⟩:=u;subst e1
 obtain⟨g,f,rfl,rv,l⟩ : ∃ g f,us=[g,f]/\RelV v g/\RelV w f:=by
  cases r1 with
  | cons p q =>
   cases q with
   | cons p' q' =>
    cases q'
    exact⟨_,_,rfl,p,p'⟩
 refine ir ?_ yS2;have Z:Inv X c J L {d with heap:=d.heap.push {cls:=.type "tuple",data:=.seq [g,f].toArray}}:=I1.kept (t':=d.toks) λ b o e=>ao _ e
 rw[hw];refine ai (bp ?_);show dq (model X.prog X.w) X.A (do rule "assign.swapped-stores";let items <-unpackItems (.ref d.heap.objs.size) 2 none;assignInOrder [λ v=>bindName X.env y v,λ v=>bindName X.env x v] items.reverse;pure Ge) _ _ _;refine ai (vf (ai (unpackItems_tuple (items:=#[g,f]) (I.ok.hd hc) (IsTup.new d.heap _) λ M m=>?_)));have I3:=Z.kept (h':=M) (t':=d.toks) λ b o e=>m b o (dr (cf e)) e;show dq _ _ (assignInOrder [λ v=>bindName X.env y v,λ v=>bindName X.env x v] [f,g] >>= λ _=>pure Ge) _ _ _;refine ai (BI (Eb (bG I3 O T (.inl C) l (λ s2 I4=>?_) (.inr C))));refine BI (Eb (bG I4 O hi (.inl Q) rv (λ s3 S=>DX (bp ?_)) (.inr Q)));rw[List.set_comm _ _ (ox n)]at S;exact⟨_,L,S,u⟩
def kKU(c:TT)(i:TS):TS:=λ D a H=>∃ W:Nat->St->Hp->Prop,(∃ m,W m a H)/\∀ m a H,W m a H ->
 c a H λ b h=>if b=true then ∃ N:St->Hp->Prop,(∀ d g,N d g->∃ f,f<m/\W f d g)/\i {D with nx:=N,ct:=N,bk:=D.nx} a h else D.nx a h
def kMI{c:iH}{i:List kr}{L:TT}{y:TS}(hp:Fi (model X.prog X.w) X.A X.env X.xe)(T:PT X c L)(Z:PSs X i y):PS X (.While c i [] pos) (kKU L y):=by
 intro a s S H D I h;obtain⟨W,⟨U,w0⟩,turn⟩:=h;refine wpAny_While (codeAny_whileLoop (λ n Q=>∃ l G,Inv X a l G Q/\W n l G) ?_ U ⟨S,H,I,w0⟩);rintro n O ⟨g,J,I1,Y⟩;refine uh hp (thn (T a O g J _ I1 (turn n g J Y)) λ b s2 ⟨C,B,o⟩=>?_)
 cases b with
 | true =>
  obtain⟨N,M,o⟩:=o;rw[if_pos rfl];refine uh hp (thn (Z a s2 g C _ B o) λ f s3 m=>?_)
  cases f with
  | next =>
   obtain⟨d,j,q,p⟩:=m;obtain⟨x,r,u⟩:=M d j p;exact⟨x,r,d,j,q,u⟩
  | cont =>
   obtain⟨d,j,q,p⟩:=m;obtain⟨x,r,u⟩:=M d j p;exact⟨x,r,d,j,q,u⟩
  | brk=>exact m
  | ret v=>exact m
 | false =>
  rw[if_neg eA];exact Al ⟨g,C,B,o⟩
end
structure It where
 go:Nat->Hp->Prop
 yld:Nat->Hp->V->Hp->Prop
 stop:Nat->Hp->Prop
def zF(X:Cx)(a:List (au×Obj))(H:Hp)(b:au):Prop :=
 H b=none/\b≠X.env.locals/\b∉X.fs/\(b∈X.ex\/X.s₀.heap.objs.size<=b)/\(∀ x c,X.env.cells.lookup x=some c->c≠b)/\∀ p∈X.pn++a,p.1≠b
def Inv.fpOk{X:Cx}{a:List (au×Obj)}{g:St}{H H':Hp}{s:ay}{b:au}(I:Inv X a g H s)(d:s.heap.objs.size<=b)(f:H' b=none):zF X a H' b:=by
 refine⟨f,ja (cw I.lt d),I.nofs d,.inr (je I.sz d),λ x c e z=>?_,λ p hp z=>?_⟩
 ·obtain⟨v,q⟩:=I.cell x c e
  exact absurd (cw q.lt (by rw[z];exact d)) (qj _)
 ·exact absurd (cw (cf (I.pin p hp).1) (by rw[z];exact d)) (qj _)
structure Turn(P:eY)(w:iG)(K:bb)(tg:iH)(J:It)(fp:List au)(it:au)(tn:Nat->iK->Prop):Prop where
 mem:it∈fp
 obj:∀ i h,tn i h->∀ b∈fp,∃ o,h.get? b=some o/\∀ v,o.data≠.cell v
 keep:∀ i h h',tn i h->(∀ b∈fp,∀ o,h.get? b=some o->h'.get? b=some o)->tn i h'
 item:∀(X:Cx),X.prog=P->X.w=w->X.K=K->X.calm=true->∀(i:Nat)(pins:List (au×Obj))(s:ay)(σ:St)(H:Hp)(E:ar->ay->Prop),Inv X pins σ H s->(∀ b∈fp,zF X pins H b)->tn i s.heap->J.go i H ->
  dq (model P w) X.A (pyNext (.ref it)) (λ r s1=>∃ u,r=some u /\
   dq (model P w) X.A (letOwnedTupleGo tg (.ref it) u) (λ _ s2=>∃ x H',Inv X pins σ H' s2/\RelV x u/\J.yld i H x H'/\tn (i+1) s2.heap/\∀ b∈fp,H' b=none) E s1) E s
 done:∀(X:Cx),X.prog=P->X.w=w->X.K=K->X.calm=true->∀(i:Nat)(pins:List (au×Obj))(s:ay)(σ:St)(H:Hp)(E:ar->ay->Prop),Inv X pins σ H s->(∀ b∈fp,zF X pins H b)->tn i s.heap->J.stop i H ->
  dq (model P w) X.A (pyNext (.ref it)) (λ r s1=>r=none/\Inv X pins σ H s1) E s
 self:∀(A:gh)(i:Nat)(s:ay)(Q:ar->ay->Prop)(E:ar->ay->Prop),tn i s.heap->Q (.ref it) s->dq (model P w) A (pyIter (.ref it)) Q E s
abbrev TI:=St->Hp->(It->Hp->Prop)->Prop
def PIE(X:Cx)(a:List (au×Obj))(i:St)(j:iH)(R:It->Hp->Prop)(c:ar)(f:ay):Prop :=
 ∃(it:au)(h:List au)(g:Nat->iK->Prop)(J:It)(d:Hp),c=.ref it/\Inv X a i d f/\Turn X.prog X.w X.K j J h it g/\g 0 f.heap/\(∀ b∈h,zF X a d b)/\R J d
def PI(X:Cx)(c iter:iH)(a:TI):Prop :=
 ∀(pins:List (au×Obj))(s:ay)(σ:St)(H:Hp)(R:It->Hp->Prop),Inv X pins σ H s->a σ H R ->
  dq (model X.prog X.w) X.A (eval iter X.env) (λ v b=>dq (model X.prog X.w) X.A (pyIter v) (PIE X pins σ c R) X.xe b) X.xe s
def kNN{M : yu}{A : gh}{E : ar -> ay -> Prop}{s : ay}{b : iH}{it : au}{u : ar}{o : Obj}{n : String}{c : Array ar}{Q : Unit -> ay -> Prop}(g : s.heap.get? it = some o)(f : o.cls = .type n)(i : o.data = .fields c)
    (d : ["enumerate", "zip", "dict_itemiterator", "dict_reverseitemiterator", "odict_iterator", "itertools.zip_longest", "itertools.pairwise"].contains n = false) (a : Q () s) : dq M A (letOwnedTupleGo b (.ref it) u) Q E s := by
  unfold letOwnedTupleGo
  cases b <;> first
    | exact bp a
    | (cases u <;> first
        | exact bp a
        | (refine ai (wpAny_load g ?_)
           rw[f, i];show dq M A (if(["enumerate", "zip", "dict_itemiterator", "dict_reverseitemiterator", "odict_iterator", "itertools.zip_longest", "itertools.pairwise"].contains n && c[0]? == some (rawInt _)) = true then _ else _) Q E s;rw[if_neg (by intro h; rw[d, Ec]at h; cases h)];exact bp a))
def Itl(K:bb)(a:au):It :=
 ⟨λ i H=>∃ b x,SqL K H a b/\b[i]?=some x,λ i H x c=>c=H/\∀ b,SqL K H a b->b[i]?=some x,λ i H=>∃ b,SqL K H a b/\b.length<=i⟩
def Itt(K:bb)(a:au):It :=
 ⟨λ i H=>∃ b x,SqT K H a b/\b[i]?=some x,λ i H x c=>c=H/\∀ b,SqT K H a b->b[i]?=some x,λ i H=>∃ b,SqT K H a b/\b.length<=i⟩
def Itr(lo:Int)(n:Nat):It:=⟨λ i _=>i<n,λ i H x a=>a=H/\x=.int (lo+i),λ i _=>n<=i⟩
def kIJ{P:eY}{w:iG}{K:bb}{Y:iH}(a it:au):Turn P w K Y (Itl K a) [it] it (λ i h=>h.IsListIter it a i) where
 mem:=by simp
 obj:=λ i h st b g=>by
  have e:b=it:=by simpa using g
  subst e;obtain⟨o,e,c,d⟩:=st;exact⟨o,e,λ v z=>by rw[d]at z;cases z⟩
 keep:=λ i h l st k=>st.at λ o e=>k it (by simp) o e
 item:=by
  intro X B D r Q i f s O H E I n st y;subst B D r;obtain⟨xs,x,m,N⟩:=y;obtain⟨q,G,p,T⟩:=I.list m;obtain⟨u,U,ru⟩:=G.get N;obtain⟨C,M,Z,J,A,L⟩:=n it (by simp);refine wpAny_pyNext_list_item st p.isList (x:=u) (by simpa using U) λ l j sb=>?_;have I1:Inv X f O H {s with heap:=l}:=I.turned (t':=s.toks) (λ b o g e=>(sb.2 b g).trans e) C M J A L
  obtain⟨o,e,c,d⟩:=id j;exact⟨u,rfl,kNN (s:={s with heap:=l}) e c d (by decide) ⟨x,H,I1,ru,⟨rfl,λ ys S=>by rw[I.list_inj S m];exact N⟩,j,λ b g=>(n b g).1⟩⟩
 done:=by
  intro X B D r Q i f s O H E I n st y;subst B D r;obtain⟨xs,m,N⟩:=y;obtain⟨q,G,p,T⟩:=I.list m;obtain⟨C,M,Z,J,A,L⟩:=n it (by simp);have hl:=G.length;exact wpAny_pyNext_list_end (I.ok.hd Q) st p.isList (by simp;omega) λ l eb=>⟨rfl,I.turned (t':=s.toks) (λ b o g e=>eb b o g e) C M J A L⟩
 self:=λ _ _ _ _ _ st h=>wpAny_pyIter_listiter st h
def kDD{P:eY}{w:iG}{K:bb}{Y:iH}(a it:au):Turn P w K Y (Itt K a) [it] it (λ i h=>h.IsTupleIter it a i) where
 mem:=by simp
 obj:=λ i h st b j=>by
  have e:b=it:=by simpa using j
  subst e;obtain⟨o,e,c,d⟩:=st;exact⟨o,e,λ v z=>by rw[d]at z;cases z⟩
 keep:=λ i h m st k=>st.at λ o e=>k it (by simp) o e
 item:=by
  intro X B D r Q i f s O H E I q st y;subst B D r;obtain⟨xs,x,n,N⟩:=y;obtain⟨g,G,p,T⟩:=I.tuple n;obtain⟨u,U,ru⟩:=G.get N;obtain⟨C,M,Z,J,A,L⟩:=q it (by simp);refine wpAny_pyNext_tuple_item st (show s.heap.IsTuple a g.toArray from p) (x:=u) (by simpa using U) λ m l sb=>?_;have I1:Inv X f O H {s with heap:=m}:=I.turned (t':=s.toks) (λ b o j e=>(sb.2 b j).trans e) C M J A L
  obtain⟨o,e,c,d⟩:=id l;exact⟨u,rfl,kNN (s:={s with heap:=m}) e c d (by decide) ⟨x,H,I1,ru,⟨rfl,λ ys S=>by rw[I.tuple_inj S n];exact N⟩,l,λ b j=>(q b j).1⟩⟩
 done:=by
  intro X B D r Q i f s O H E I q st y;subst B D r;obtain⟨xs,n,N⟩:=y;obtain⟨g,G,p,T⟩:=I.tuple n;obtain⟨C,M,Z,J,A,L⟩:=q it (by simp);have hl:=G.length;exact wpAny_pyNext_tuple_end (I.ok.hd Q) st (show s.heap.IsTuple a g.toArray from p) (by simp;omega) λ m eb=>⟨rfl,I.turned (t':=s.toks) (λ b o j e=>eb b o j e) C M J A L⟩
 self:=λ _ _ _ _ _ st h=>wpAny_pyIter_tupleiter st h
def kDE{P:eY}{w:iG}{K:bb}{J:iH}(it:au)(lo:Int)(n:Nat):Turn P w K J (Itr lo n) [it] it (λ i h=>IsRangeIter h it (lo+(i:Nat)*1) ((n:Int)-(i:Nat)) 1) where
 mem:=by simp
 obj:=λ i h st b c=>by
  have e:b=it:=by simpa using c
  subst e
  exact⟨_,st,λ v z=>by
   have D:Data.fields _=Data.cell v:=z
   cases D⟩
 keep:=λ i h f st k=>k it (by simp) _ st
 item:=by
  intro X q u j p i a s B H E I g st m;subst q u j;obtain⟨r,A,L,x,l,y⟩:=g it (by simp);have W:=Walks.range (prog:=X.prog) (w:=X.w) (I.ok.hd p) it lo 1 n;refine W.item i s _ _ m st λ v f C G d N=>?_;obtain⟨t,rfl⟩:=G;have O:Inv X a B H {s with heap:=f,toks:=C}:=I.turned (λ b o c e=>N b o (by simpa using c) e) r A x l y
  refine⟨_,rfl,kNN (s:={s with heap:=f,toks:=C}) (n:="range_iterator") d rfl rfl (by decide) ⟨.int (lo+i),H,O,⟨t,?_⟩,⟨rfl,rfl⟩,d,λ b c=>(g b c).1⟩⟩
  rw[Int.mul_one]
 done:=by
  intro X q u j p i a s B H E I g st m;subst q u j;obtain⟨r,A,L,x,l,y⟩:=g it (by simp);exact wpAny_pyNext_range_end (I.ok.hd p) st (by have:n<=i:=m;omega) λ f M=>⟨rfl,I.turned (t':=s.toks) (λ b o c e=>M b o c e) r A x l y⟩
 self:=λ _ _ _ _ _ st h=>wpAny_pyIter_rangeiter st h
section
variable {X:Cx} {tg:iH}
inductive kNI(K:bb)(R:It->Hp->Prop)(x:V)(H1:Hp):Prop
 | mk:∀ a,(x=.ref a)->((∃ xs,SqL K H1 a xs))->(R (Itl K a) H1)->kNI K R x H1
def kNJ(K:bb)(a:TE):TI:=λ b H R=>a b H λ x c=>kNI K R x c
inductive kRC(K:bb)(R:It->Hp->Prop)(x:V)(H1:Hp):Prop
 | mk:∀ a,(x=.ref a)->((∃ xs,SqT K H1 a xs))->(R (Itt K a) H1)->kRC K R x H1
def kUV(K:bb)(a:TE):TI:=λ b H R=>a b H λ x c=>kRC K R x c
def jP{l:iH}{g:TE}(y:PE X l g):PI X tg l (kNJ X.K g):=by
 intro c s j H R I h;refine thn (y c s j H _ I h) λ v d ⟨x,m,f,A,u⟩=>?_;obtain⟨a,e,⟨D,r⟩,q⟩:=u;subst e;cases A
 obtain⟨i,C,p,B⟩:=f.list r;refine Bi p.isList ?_;refine⟨d.heap.objs.size,[d.heap.objs.size],_,_,m,rfl,f.kept (t':=d.toks) λ b o e=>ao _ e,kIJ a _,⟨_,cg _ rfl,rfl,rfl⟩,λ b n=>?_,q⟩;have e:b=d.heap.objs.size:=by simpa using n
 subst e;exact f.fpOk (be _) (f.hok.fresh (be _))
def yR{l:iH}{i:TE}(y:PE X l i):PI X tg l (kUV X.K i):=by
 intro d s j H R I h;refine thn (y d s j H _ I h) λ v c ⟨x,m,f,A,u⟩=>?_;obtain⟨a,e,⟨D,r⟩,q⟩:=u;subst e;cases A
 obtain⟨g,C,p,B⟩:=f.tuple r;refine wu (show c.heap.IsTuple a g.toArray from p) ?_;refine⟨c.heap.objs.size,[c.heap.objs.size],_,_,m,rfl,f.kept (t':=c.toks) λ b o e=>ao _ e,kDD a _,⟨_,cg _ rfl,rfl,rfl⟩,λ b n=>?_,q⟩;have e:b=c.heap.objs.size:=by simpa using n
 subst e;exact f.fpOk (be _) (f.hok.fresh (be _))
def kBJ{a:List (au×Obj)}{c:St}{H:Hp}{s:ay}{R:It->Hp->Prop}{E:ar->ay->Prop}{lo hi:Int}{t u v:Tok}{tk:Nat}(I:Inv X a c H s)(h1 : -(2 ^ 62)<=lo)(h:lo<2 ^ 62)(l : -(2 ^ 62)<=hi)(g:hi<2 ^ 62)
  (q:R (Itr lo (hi-lo).toNat) H):dq (model X.prog X.w) X.A (pyIter (.ref s.heap.objs.size)) (PIE X a c tg R) E {s with heap:=s.heap.push {cls:=.type "range",data:=.fields #[.int lo t,.int hi u,.int 1 v]},toks:=tk}:=by
 refine wpAny_pyIter_range (GM ..) (small_one h1 h l g) ?_;have d:Inv X a c H {s with heap:=s.heap.push {cls:=.type "range",data:=.fields #[.int lo t,.int hi u,.int 1 v]},toks:=tk}:=I.kept λ b o e=>ao _ e
 refine⟨(s.heap.push {cls:=.type "range",data:=.fields #[.int lo t,.int hi u,.int 1 v]}).objs.size,[(s.heap.push {cls:=.type "range",data:=.fields #[.int lo t,.int hi u,.int 1 v]}).objs.size],_,_,H,rfl,
  d.kept (t':=tk) λ b o e=>ao _ e,kDE _ lo (hi-lo).toNat,?_,λ b f=>?_,q⟩
 ·have j:lo+((0:Nat):Int)*1=lo:=by simp
  have i:(((hi-lo).toNat:Nat):Int)-((0:Nat):Int)=Fj lo hi 1:=by rw[rangeSize_one];split<;>omega
  show IsRangeIter _ _ (lo+((0:Nat):Int)*1) ((((hi-lo).toNat:Nat):Int)-((0:Nat):Int)) 1;rw[j,i];exact cg _ rfl
 ·have e:b=(s.heap.push {cls:=.type "range",data:=.fields #[.int lo t,.int hi u,.int 1 v]}).objs.size:=by simpa using f
  subst e;exact d.fpOk (be _) (d.hok.fresh (be _))
inductive kNH(R:It->Hp->Prop)(vs:List V)(H1:Hp):Prop
 | mk:∀(j:Int),(vs=[.int j])->(-(2 ^ 62)<=j)->(j<2 ^ 62)->(R (Itr 0 j.toNat) H1)->kNH R vs H1
def kUX(d:TA):TI:=λ a H R=>d a H λ c b=>kNH R c b
inductive kNG(R:It->Hp->Prop)(vs:List V)(H1:Hp):Prop
 | mk:∀(i j:Int),(vs=[.int i,.int j])->((-(2 ^ 62)<=i/\i<2 ^ 62/\-(2 ^ 62)<=j/\j<2 ^ 62))->(R (Itr i (j-i).toNat) H1)->kNG R vs H1
def kUW(d:TA):TI:=λ a H R=>d a H λ c b=>kNG R c b
def xC{a:iH}{f:TA}{p c:Pos}(l:Gl X "range")(n:X.mg "range" = none)(g:PA X [a] f)(i:starEach [a] X.env=[(false,eval a X.env)]:=by rfl):PI X tg (.Call (.Name "range" p) [a] [] c) (kUX f):=by
 intro b s m H R I h;refine Fk (wN I l n Ed (ie (thn (g c b s m H _ I h) λ A x ⟨B,y,u,v,d⟩=>?_) i rfl));obtain⟨j,e,d,o,q⟩:=d;subst e
 cases v with
 | cons r rr =>
  cases rr
  obtain⟨t,rfl⟩:=r;exact call_range_1 (kBJ u (by omega) (by omega) d o (by simpa using q))
def kIZ{a b:iH}{l:TA}{p d:Pos}(o:Gl X "range")(x:X.mg "range" = none)(m:PA X [a,b] l)(n:starEach [a,b] X.env=[(false,eval a X.env),(false,eval b X.env)]:=by rfl)(f:starEach [b] X.env=[(false,eval b X.env)]:=by rfl) :
  PI X tg (.Call (.Name "range" p) [a,b] [] d) (kUW l):=by
 intro c s u H R I h;refine Fk (wN I o x Ed (ie (thn (m d c s u H _ I h) λ J D ⟨M,G,B,C,g⟩=>?_) (by rw[n,f]) (by rw[f];rfl)));obtain⟨i,j,e,⟨g,A,v,y⟩,q⟩:=g;subst e
 cases C with
 | cons r rr =>
  cases rr with
  | cons r' rr =>
   cases rr
   obtain⟨t,rfl⟩:=r;obtain⟨L,rfl⟩:=r';exact call_range_2 (kBJ B g A v y q)
def kTW(n:TI)(g:TG)(h:TS):TS:=λ D a H=>n a H λ J l=>∃ W:Nat->Nat->St->Hp->Prop,(∃ m,W 0 m a l)/\∀ i m a H,W i m a H ->
 (J.stop i H/\D.nx a H)\/(J.go i H/\∃ N:St->Hp->Prop,(∀ b c,N b c->∃ f,f<m/\W (i+1) f b c)/\∀ x c,J.yld i H x c->g x a c λ d j=>h {D with nx:=N,ct:=N,bk:=D.nx} d j)
def sQ(a:List au)(h:iK):List (au×Obj):=a.filterMap λ b=>(h.get? b).map λ o=>(b,o)
def vL{a:List au}{h:iK}{b:au}{o:Obj}(c:b∈a)(e:h.get? b=some o):(b,o)∈sQ a h:=DN.mpr ⟨b,c,by rw[e];rfl⟩
def kJD{a:List au}{h:iK}{p:au×Obj}(hp:p∈sQ a h):p.1∈a/\h.get? p.1=some p.2:=by
 obtain⟨b,c,e⟩:=DN.mp hp
 cases q:h.get? b with
 | none=>rw[q]at e;cases e
 | some o =>
  rw[q]at e;have d:(b,o)=p:=bg e;subst d;exact⟨c,q⟩
def Inv.pinned{a:List (au×Obj)}{g:St}{H:Hp}{s:ay}{c:List au}(I:Inv X a g H s)(i:∀ b∈c,zF X a H b)(l:∀ b∈c,∃ o,s.heap.get? b=some o/\∀ v,o.data≠.cell v):Inv X (a++sQ c s.heap) g H s :=
 I.pins_of λ p hp=>(ck.mp hp).elim (λ z=>I.pin p (dj _ z)) λ z=>by
  obtain⟨f,e⟩:=kJD z;obtain⟨n,j,m,_⟩:=i p.1 f;obtain⟨o,h,d⟩:=l p.1 f;rw[e]at h;cases h;exact⟨e,n,j,m,d⟩
def Inv.unpinned{a c:List (au×Obj)}{b:St}{H:Hp}{s:ay}(I:Inv X (a++c) b H s):Inv X a b H s:=I.pins_of λ p hp=>I.pin p (dj _ (dw _ hp))
def kSF{iter:iH}{L:List kr}{wi:TI}{g:TG}{tb:TS}{a1:Pos}(hp:Fi (model X.prog X.w) X.A X.env X.xe)(hc:X.calm=true)(hi:PI X tg iter wi)(hg:PG X tg g)(p:PSs X L tb)
  (hs:∀ x,foldedSetIterable iter X.env x=pure x:=by intro _;rfl):PS X (.For tg iter L [] a1) (kTW wi g tb):=by
 intro c s σ H D I h;refine wpAny_For (thn (hi c s σ H _ I h) λ v s1 h1=>thn h1 λ a4 s2 h2=>?_) hs;obtain⟨it,U,tn,J,H2,e,I2,T,Z,f2,W,⟨m0,w0⟩,turn⟩:=h2
 subst e
 have l:∀{C:Hp},(∀ b∈U,C b=none)->∀ b∈U,zF X c C b:=λ hn b p=>⟨hn b p,(f2 b p).2⟩;refine codeAny_forLoop_any (λ n s'=>∃ i B C,Inv X c B C s'/\tn i s'.heap/\(∀ b∈U,C b=none)/\W i n B C) ?_ m0 ⟨0,σ,H2,I2,Z,λ b p=>(f2 b p).1,w0⟩;rintro n s3 ⟨i,y,Y,I3,S,Q,w3⟩;rcases turn i n y Y w3 with⟨stop,qn⟩ | ⟨go,N,hN,step⟩
 ·refine uh hp (thn (T.done X rfl rfl rfl hc i c s3 y Y X.xe I3 (l Q) S stop) λ r s4 ⟨hr,I4⟩=>?_)
  subst hr;exact Al ⟨y,Y,I4,qn⟩
 ·refine uh hp (thn (T.item X rfl rfl rfl hc i c s3 y Y X.xe I3 (l Q) S go) λ r s4 ⟨u,hr,h4⟩=>?_)
  subst hr;refine uh hp (thn h4 λ _ s5 ⟨x,H5,I5,r5,y5,M,a0⟩=>?_);have a3:=I5.pinned (l a0) (T.obj _ _ M);refine uh hp (thn (hg _ s5 y H5 x u _ a3 r5 (step x H5 y5)) λ _ s6 ⟨a2,H6,I6,q6⟩=>?_);refine uh hp (thn (p _ s6 a2 H6 _ I6 q6) λ f s7 G=>?_)
  have again:∀{a:St}{q:Hp},Inv X (c++sQ U s5.heap) a q s7->N a q->∃ m,m<n/\∃ i B C,Inv X c B C s7/\tn i s7.heap/\(∀ b∈U,C b=none)/\W i m B C:=λ{a q} j O=>by
   obtain⟨m',hm,w7⟩:=hN a q O;refine⟨m',hm,i+1,a,q,j.unpinned,T.keep _ _ _ M λ b p o e=>(j.pin (b,o) (dj _ (dj _ (vL p e)))).1,λ b p=>?_,w7⟩;obtain⟨o,e,d⟩:=T.obj _ _ M b p;exact(j.pin (b,o) (dj _ (dj _ (vL p e)))).2.1
  cases f with
  | next=>obtain⟨a,q,j,O⟩:=G;exact again j O
  | cont=>obtain⟨a,q,j,O⟩:=G;exact again j O
  | brk=>obtain⟨a,q,j,G⟩:=G;exact⟨a,q,j.unpinned,G⟩
  | ret v=>obtain⟨x7,a,q,j,r7,G⟩:=G;exact⟨x7,a,q,j.unpinned,r7,G⟩
end
def cI{K:bb}{a:au}{xs:List V}{g:TG}{d:TS}{D:Ends}{b:St}{H:Hp}(Pv:Nat->St->Hp->Prop)(h0:Pv 0 b H)(l:∀ i b H,i<=xs.length->Pv i b H->SqL K H a xs)
  (f:∀ i x b H,xs[i]?=some x->Pv i b H->g x b H λ σ2 H2=>d {D with nx:=Pv (i+1),ct:=Pv (i+1),bk:=D.nx} σ2 H2) (n:∀ b H,Pv xs.length b H->D.nx b H) :
  ∃ W:Nat->Nat->St->Hp->Prop,(∃ m,W 0 m b H)/\∀ i m b H,W i m b H ->
   ((Itl K a).stop i H/\D.nx b H)\/((Itl K a).go i H/\∃ N:St->Hp->Prop,(∀ σ' H',N σ' H'->∃ m',m'<m/\W (i+1) m' σ' H')/\∀ x H',(Itl K a).yld i H x H'->g x b H' λ σ2 H2=>d {D with nx:=N,ct:=N,bk:=D.nx} σ2 H2):=by
 refine⟨λ i m b H=>m=xs.length-i/\i<=xs.length/\Pv i b H,⟨xs.length,by simp,iA _,h0⟩,?_⟩;rintro i m b H ⟨rfl,j,p⟩;have q:=l i b H j p;by_cases c:i<xs.length
 ·refine .inr ⟨⟨xs,xs[i],q,by simp[c]⟩,Pv (i+1),λ σ' H' h=>⟨xs.length-(i+1),by omega,rfl,c,h⟩,λ x H' y=>?_⟩
  obtain⟨e,y⟩:=y;subst e;exact f i x b _ (y xs q) p
 ·have e:i=xs.length:=by omega
  subst e;exact .inl ⟨⟨xs,q,be _⟩,n b H p⟩
def tS{K:bb}{a:au}{xs:List V}{g:TG}{d:TS}{D:Ends}{b:St}{H:Hp}(Pv:Nat->St->Hp->Prop)(h0:Pv 0 b H)(l:∀ i b H,i<=xs.length->Pv i b H->SqT K H a xs)
  (f:∀ i x b H,xs[i]?=some x->Pv i b H->g x b H λ σ2 H2=>d {D with nx:=Pv (i+1),ct:=Pv (i+1),bk:=D.nx} σ2 H2) (n:∀ b H,Pv xs.length b H->D.nx b H) :
  ∃ W:Nat->Nat->St->Hp->Prop,(∃ m,W 0 m b H)/\∀ i m b H,W i m b H ->
   ((Itt K a).stop i H/\D.nx b H)\/((Itt K a).go i H/\∃ N:St->Hp->Prop,(∀ σ' H',N σ' H'->∃ m',m'<m/\W (i+1) m' σ' H')/\∀ x H',(Itt K a).yld i H x H'->g x b H' λ σ2 H2=>d {D with nx:=N,ct:=N,bk:=D.nx} σ2 H2):=by
 refine⟨λ i m b H=>m=xs.length-i/\i<=xs.length/\Pv i b H,⟨xs.length,by simp,iA _,h0⟩,?_⟩;rintro i m b H ⟨rfl,j,p⟩;have q:=l i b H j p;by_cases c:i<xs.length
 ·refine .inr ⟨⟨xs,xs[i],q,by simp[c]⟩,Pv (i+1),λ σ' H' h=>⟨xs.length-(i+1),by omega,rfl,c,h⟩,λ x H' y=>?_⟩
  obtain⟨e,y⟩:=y;subst e;exact f i x b _ (y xs q) p
 ·have e:i=xs.length:=by omega
  subst e;exact .inl ⟨⟨xs,q,be _⟩,n b H p⟩
def yG{lo:Int}{n:Nat}{g:TG}{c:TS}{D:Ends}{a:St}{H:Hp}(Pv:Nat->St->Hp->Prop)(h0:Pv 0 a H)
  (d:∀ i a H,i<n->Pv i a H->g (.int (lo+i)) a H λ σ2 H2=>c {D with nx:=Pv (i+1),ct:=Pv (i+1),bk:=D.nx} σ2 H2) (h:∀ a H,Pv n a H->D.nx a H) :
  ∃ W:Nat->Nat->St->Hp->Prop,(∃ m,W 0 m a H)/\∀ i m a H,W i m a H ->
   ((Itr lo n).stop i H/\D.nx a H)\/((Itr lo n).go i H/\∃ N:St->Hp->Prop,(∀ σ' H',N σ' H'->∃ m',m'<m/\W (i+1) m' σ' H')/\∀ x H',(Itr lo n).yld i H x H'->g x a H' λ σ2 H2=>c {D with nx:=N,ct:=N,bk:=D.nx} σ2 H2):=by
 refine⟨λ i m a H=>m=n-i/\i<=n/\Pv i a H,⟨n,by simp,iA _,h0⟩,?_⟩;rintro i m a H ⟨rfl,j,p⟩;by_cases b:i<n
 ·refine .inr ⟨b,Pv (i+1),λ σ' H' f=>⟨n-(i+1),by omega,rfl,b,f⟩,λ x H' y=>?_⟩
  obtain⟨e,y⟩:=y;subst e y;exact d i a _ b p
 ·have e:i=n:=by omega
  subst e;exact .inl ⟨be _,h a H p⟩
def kKL{c:TT}{f:TS}{D:Ends}{a:St}{H:Hp}(Pv:St->Hp->Prop)(d:St->Hp->Nat)(h0:Pv a H)
  (g:∀ a H,Pv a H->c a H λ b H1=>if b=true then f {D with nx:=λ σ' H'=>Pv σ' H'/\d σ' H'<d a H,ct:=λ σ' H'=>Pv σ' H'/\d σ' H'<d a H,bk:=D.nx} a H1 else D.nx a H1)
  (mono:∀ a H Q Q',(∀ b H1,Q b H1->Q' b H1)->c a H Q->c a H Q'):kKU c f D a H:=by
 refine⟨λ m a H=>m=d a H/\Pv a H,⟨_,rfl,h0⟩,?_⟩;rintro m a H ⟨rfl,p⟩;refine mono a H _ _ (λ b H1 q=>?_) (g a H p)
 cases b with
 | true=>exact⟨_,λ σ' H' ⟨h,l⟩=>⟨_,l,rfl,h⟩,q⟩
 | false=>exact q
abbrev R2:=V->V->Hp->VK->Prop
def OpR(X:Cx)(f:ar->ar->Sem ar)(r:R2):Prop :=
 ∀(pins:List (au×Obj))(s:ay)(σ:St)(H:Hp)(x y:V)(v u:ar)(Q:VK),Inv X pins σ H s->RelV x v->RelV y u->r x y H Q ->
  dq (model X.prog X.w) X.A (f v u) (EP X pins σ Q) X.xe s
def UnR(X:Cx)(f:ar->Sem ar)(r:V->Hp->VK->Prop):Prop :=
 ∀(pins:List (au×Obj))(s:ay)(σ:St)(H:Hp)(x:V)(v:ar)(Q:VK),Inv X pins σ H s->RelV x v->r x H Q ->
  dq (model X.prog X.w) X.A (f v) (EP X pins σ Q) X.xe s
def zH(X:Cx)(f:ar)(r:List V->Hp->VK->Prop):Prop :=
 ∀(pins:List (au×Obj))(s:ay)(σ:St)(H:Hp)(xs:List V)(us:List ar)(Q:VK),Inv X pins σ H s->Vals xs us->r xs H Q ->
  dq (model X.prog X.w) X.A (call f us) (EP X pins σ Q) X.xe s
def kWH(X:Cx)(r:V->Hp->(Bool->Hp->Prop)->Prop):Prop :=
 ∀(pins:List (au×Obj))(s:ay)(σ:St)(H:Hp)(x:V)(v:ar)(Q:Bool->Hp->Prop),Inv X pins σ H s->RelV x v->r x H Q ->
  dq (model X.prog X.w) X.A (truthy v) (TP X pins σ Q) X.xe s
def tOp(r:R2)(f b:TE):TE:=λ a H Q=>f a H λ x d=>b a d λ y c=>r x y c Q
def tUn(r:V->Hp->VK->Prop)(c:TE):TE:=λ a H Q=>c a H λ x b=>r x b Q
inductive rI(C:Int->Int->Prop)(g:Int->Int->V)(x:V)(y:V)(H:Hp)(Q:VK):Prop
 | mk:∀ i j,(x=.int i)->(y=.int j)->(C i j)->(Q (g i j) H)->rI C g x y H Q
inductive rI0(g:Int->Int->V)(x:V)(y:V)(H:Hp)(Q:VK):Prop
 | mk:∀ i j,(x=.int i)->(y=.int j)->(Q (g i j) H)->rI0 g x y H Q
inductive rU(g:Int->V)(x:V)(H:Hp)(Q:VK):Prop
 | mk:∀ i,(x=.int i)->(Q (g i) H)->rU g x H Q
section
variable {X:Cx} {a b c:iH} {ta tb tc:TE} {pos:Pos}
def kTN(n:PE X a ta)(i:PE X b tb){c:List (au×Obj)}{s:ay}{d:St}{H:Hp}{R:V->V->Hp->Prop}(I:Inv X c d H s)
  (h:ta d H λ x H1=>tb d H1 λ y H2=>R x y H2) {Q:ar->ay->Prop} {f:ar->ar->Sem ar}
  (g:∀ v u s2 x y H2,Inv X c d H2 s2->RelV x v->RelV y u->R x y H2->dq (model X.prog X.w) X.A (f v u) Q X.xe s2) :
  dq (model X.prog X.w) X.A (eval a X.env) (λ v s₁=>dq (model X.prog X.w) X.A (eval b X.env) (λ u s₂=>dq (model X.prog X.w) X.A (f v u) Q X.xe s₂) X.xe s₁) X.xe s:=by
 refine thn (n c s d H _ I h) λ v p ⟨x,H1,o,r,l⟩=>?_;refine thn (i c p d H1 _ o l) λ u s2 ⟨y,H2,m,q,j⟩=>?_;exact g v u s2 x y H2 m r q j
def kX{d:Operator}{r:R2}(p:OpR X (binaryOp d) r)(g:PE X a ta)(n:PE X b tb):PE X (.BinOp a d b pos) (tOp r ta tb):=by
 intro c s i H Q I h;exact wpAny_BinOp (kTN g n I h λ v u o x y l j f m q=>p c o i l x y v u Q j f m q)
def wU{d:UnaryOp}{r:V->Hp->VK->Prop}(i:UnR X (unaryOp d) r)(g:PE X a ta):PE X (.UnaryOp d a pos) (tUn r ta):=by
 intro b s c H Q I h;exact UnaryOp_ (thn (g b s c H _ I h) λ v l ⟨x,m,j,n,f⟩=>i b l c m x v Q j n f)
def opI{f:ar->ar->Sem ar}{C:Int->Int->Prop}{g:Int->Int->Int}
  (rule:∀(i j:Int)(t u:Tok)(s:ay)(Q:ar->ay->Prop)(E:ar->ay->Prop),C i j->Q (.int (g i j) s.toks) {s with toks:=s.toks+1}->dq (model X.prog X.w) X.A (f (.int i t) (.int j u)) Q E s) :
  OpR X f (rI C λ i j=>.int (g i j)):=by
 intro a s m H x y v u Q I b l h;obtain⟨i,j,rfl,rfl,c,q⟩:=h;obtain⟨t,rfl⟩:=b;obtain⟨d,rfl⟩:=l;exact rule i j t d s _ _ c ⟨.int (g i j),H,I.tok _,⟨_,rfl⟩,q⟩
def kUN{f:ar->ar->Sem ar}{g:Int->Int->Int}
  (rule:∀(i j:Int)(t u:Tok)(s:ay)(Q:ar->ay->Prop)(E:ar->ay->Prop),Q (.int (g i j) s.toks) {s with toks:=s.toks+1}->dq (model X.prog X.w) X.A (f (.int i t) (.int j u)) Q E s) :
  OpR X f (rI0 λ i j=>.int (g i j)):=by
 intro a s l H x y v u Q I b d h;obtain⟨i,j,rfl,rfl,q⟩:=h;obtain⟨t,rfl⟩:=b;obtain⟨c,rfl⟩:=d;exact rule i j t c s _ _ ⟨.int (g i j),H,I.tok _,⟨_,rfl⟩,q⟩
def kSK{f:ar->ar->Sem ar}{g:Int->Int->Bool}
  (rule:∀(i j:Int)(t u:Tok)(s:ay)(Q:ar->ay->Prop)(E:ar->ay->Prop),Q (.bool (g i j)) s->dq (model X.prog X.w) X.A (f (.int i t) (.int j u)) Q E s) :
  OpR X f (rI0 λ i j=>.bl (g i j)):=by
 intro a s l H x y v u Q I b d h;obtain⟨i,j,rfl,rfl,q⟩:=h;obtain⟨t,rfl⟩:=b;obtain⟨c,rfl⟩:=d;exact rule i j t c s _ _ ⟨.bl (g i j),H,I,rfl,q⟩
def kWK(i j:Int):Prop:=0<j/\j<1073741824
def kWJ(i j:Int):Prop:=0<=j/\j<=1000000/\i.natAbs<2 ^ 64
def CMul(i j:Int):Prop:=(-(2 ^ 64)<i/\i<2 ^ 64)\/(-(2 ^ 64)<j/\j<2 ^ 64)
def CMul.ok{i j:Int}(h:CMul i j):IntMulOk i j:=by
 rcases h with⟨h1,a⟩ | ⟨h1,a⟩
 ·exact .of_left (intBits_le_64 h1 a)
 ·exact .of_right (intBits_le_64 h1 a)
def qY:OpR X (binaryOp .Add) (rI0 λ i j=>.int (i+j)):=kUN λ _ _ _ _ _ _ _ q=>add_int q
def yL:OpR X (binaryOp .Sub) (rI0 λ i j=>.int (i-j)):=kUN λ _ _ _ _ _ _ _ q=>sub_int q
def sX:OpR X (binaryOp .Mult) (rI CMul λ i j=>.int (i*j)):=opI λ _ _ _ _ _ _ _ a q=>mul_int q a.ok
def gI:OpR X (binaryOp .FloorDiv) (rI kWK λ i j=>.int (i / j)):=opI λ i j _ _ _ _ _ a q=>by
 have h1:(0:Int)<j:=a.1;have b:j<1073741824:=a.2;exact floordiv_int (by omega) (by rw[BJ i (by omega)];exact q) (.inl (PyProof.noPylong_small (by omega)))
def mH:OpR X (binaryOp .Mod) (rI (λ _ j=>0<j) λ i j=>.int (i % j)):=opI λ i j _ _ _ _ _ a q=>by
 have h1:(0:Int)<j:=a;exact mod_int' (by omega) (by rw[Int.fmod_eq_emod_of_nonneg i (by omega)];exact q)
def kDZ:OpR X (binaryOp .Pow) (rI kWJ λ i j=>.int (i ^ j.toNat)):=opI λ _ _ _ _ _ _ _ a q=>pow_int_small a.1 a.2.1 a.2.2 q
def unI{f:ar->Sem ar}{g:Int->Int}
  (rule:∀(i:Int)(t:Tok)(s:ay)(Q:ar->ay->Prop)(E:ar->ay->Prop),Q (.int (g i) s.toks) {s with toks:=s.toks+1}->dq (model X.prog X.w) X.A (f (.int i t)) Q E s) :
  UnR X f (rU λ i=>.int (g i)):=by
 intro a s c H x v Q I b h;obtain⟨i,rfl,q⟩:=h;obtain⟨t,rfl⟩:=b;exact rule i t s _ _ ⟨.int (g i),H,I.tok _,⟨_,rfl⟩,q⟩
def yQ:UnR X (unaryOp .USub) (rU λ i=>.int (-i)):=unI λ _ _ _ _ _ q=>neg_int q
end
def kUD:V->V->Bool
 | .non,.non=>true | .non,.int _=>true | .int _,.non=>true | .non,.bl _=>true | .bl _,.non=>true | .non,.str _=>true | .str _,.non=>true
 | .int _,.int _=>true | .bl _,.bl _=>true | .str _,.str _=>true | .byt _,.byt _=>true
 | .int _,.str _=>true | .str _,.int _=>true | .bl _,.str _=>true | .str _,.bl _=>true
 | _,_=>false
inductive rEq(x:V)(y:V)(H:Hp)(Q:VK):Prop
 | mk:(kUD x y=true)->(Q (.bl (decide (x=y))) H)->rEq x y H Q
inductive rNe(x:V)(y:V)(H:Hp)(Q:VK):Prop
 | mk:(kUD x y=true)->(Q (.bl (!decide (x=y))) H)->rNe x y H Q
def kHJ{i j:Int}:decide (V.int i=V.int j)=(i == j):=by
 rw[iQ];simp
def kNZ{i j:Bool}:decide (V.bl i=V.bl j)=(i == j):=by
 rw[iQ];simp
def kHI{i j:Str}:decide (V.str i=V.str j)=(i == j):=by
 rw[iQ];simp
def kHK{i j:Array UInt8}:decide (V.byt i=V.byt j)=(i.toList == j.toList):=by
 rw[iQ];cases i
 cases j
 simp
section
variable {X:Cx} {a b c:iH} {ta tb tc:TE} {pos:Pos}
def qQ{a:List (au×Obj)}{b:St}{H:Hp}{s:ay}{Q:VK}{k c:Bool}(I:Inv X a b H s)(q:Q (.bl k) H)(e:k=c):EP X a b Q (.bool c) s:=by
 subst e;exact⟨.bl k,H,I,rfl,q⟩
def kMR:OpR X (compareOp .Eq) rEq:=by
 intro f s g H x y v u Q I d a h;obtain⟨c,q⟩:=h
 cases x with
 | non =>
  cases d
  cases y with
  | non=>cases a;exact Ew (qQ I q (by simp))
  | bl j=>cases a;exact Ex (qQ I q (by simp))
  | int j=>obtain⟨b,rfl⟩:=a;exact FL (qQ I q (by simp))
  | str j=>obtain⟨b,rfl⟩:=a;exact FM (qQ I q (by simp))
  | _=>exact absurd (show false=true from c) eA
 | bl i =>
  cases d
  cases y with
  | non=>cases a;exact Ey (qQ I q (by simp))
  | bl j=>cases a;exact eq_bool (qQ I q kNZ)
  | str j=>obtain⟨b,rfl⟩:=a;exact Ez (qQ I q (by simp))
  | _=>exact absurd (show false=true from c) eA
 | int i =>
  obtain⟨t,rfl⟩:=d
  cases y with
  | non=>cases a;exact FN (qQ I q (by simp))
  | int j=>obtain⟨b,rfl⟩:=a;exact eq_int (qQ I q kHJ)
  | str j=>obtain⟨b,rfl⟩:=a;exact FO (qQ I q (by simp))
  | _=>exact absurd (show false=true from c) eA
 | str i =>
  obtain⟨t,rfl⟩:=d
  cases y with
  | non=>cases a;exact FP (qQ I q (by simp))
  | bl j=>cases a;exact FA (qQ I q (by simp))
  | int j=>obtain⟨b,rfl⟩:=a;exact FQ (qQ I q (by simp))
  | str j=>obtain⟨b,rfl⟩:=a;exact eq_str (qQ I q kHI)
  | _=>exact absurd (show false=true from c) eA
 | byt i =>
  obtain⟨t,rfl⟩:=d
  cases y with
  | byt j=>obtain⟨b,rfl⟩:=a;exact PySem.W.eq_bytes (qQ I q kHK)
  | _=>exact absurd (show false=true from c) eA
 | _=>cases y<;>exact absurd (show false=true from c) eA
def mG:OpR X (compareOp .NotEq) rNe:=by
 intro f s g H x y v u Q I d a h;obtain⟨c,q⟩:=h
 cases x with
 | non =>
  cases d
  cases y with
  | non=>cases a;exact FB (qQ I q (by simp))
  | bl j=>cases a;exact FC (qQ I q (by simp))
  | int j=>obtain⟨b,rfl⟩:=a;exact FR (qQ I q (by simp))
  | str j=>obtain⟨b,rfl⟩:=a;exact FS (qQ I q (by simp))
  | _=>exact absurd (show false=true from c) eA
 | bl i =>
  cases d
  cases y with
  | non=>cases a;exact FD (qQ I q (by simp))
  | bl j=>cases a;exact ne_bool (qQ I q (congrArg not kNZ))
  | str j=>obtain⟨b,rfl⟩:=a;exact FE (qQ I q (by simp))
  | _=>exact absurd (show false=true from c) eA
 | int i =>
  obtain⟨t,rfl⟩:=d
  cases y with
  | non=>cases a;exact FU (qQ I q (by simp))
  | int j=>obtain⟨b,rfl⟩:=a;exact ne_int (qQ I q (congrArg not kHJ))
  | str j=>obtain⟨b,rfl⟩:=a;exact FV (qQ I q (by simp))
  | _=>exact absurd (show false=true from c) eA
 | str i =>
  obtain⟨t,rfl⟩:=d
  cases y with
  | non=>cases a;exact FW (qQ I q (by simp))
  | bl j=>cases a;exact FF (qQ I q (by simp))
  | int j=>obtain⟨b,rfl⟩:=a;exact FX (qQ I q (by simp))
  | str j=>obtain⟨b,rfl⟩:=a;exact ne_str (qQ I q (congrArg not kHI))
  | _=>exact absurd (show false=true from c) eA
 | byt i =>
  obtain⟨t,rfl⟩:=d
  cases y with
  | byt j=>obtain⟨b,rfl⟩:=a;exact PySem.W.ne_bytes (qQ I q (congrArg not kHK))
  | _=>exact absurd (show false=true from c) eA
 | _=>cases y<;>exact absurd (show false=true from c) eA
def kMP:OpR X (compareOp .Lt) (rI0 λ i j=>.bl (decide (i<j))):=kSK λ _ _ _ _ _ _ _ q=>lt_int q
def kUM:OpR X (compareOp .LtE) (rI0 λ i j=>.bl (decide (i<=j))):=kSK λ _ _ _ _ _ _ _ q=>le_int q
def kRA:OpR X (compareOp .Gt) (rI0 λ i j=>.bl (decide (j<i))):=kSK λ _ _ _ _ _ _ _ q=>gt_int q
inductive kGP(x:V)(y:V)(H:Hp)(Q:VK):Prop
 | mk:(y=.non)->(Q (.bl (decide (x=.non))) H)->kGP x y H Q
def kMQ:OpR X (compareOp .Is) kGP:=by
 intro a s d H x y v u Q I b c h;obtain⟨rfl,q⟩:=h;cases c
 refine is_none_gen (qQ I q ?_)
 cases x<;>first
  | (cases b;rfl)
  | (obtain⟨t,rfl⟩:=b;rfl)
inductive kBO(x:V)(y:V)(H:Hp)(Q:VK):Prop
 | mk:(y=.non)->(Q (.bl (!decide (x=.non))) H)->kBO x y H Q
def kPJ:OpR X (compareOp .IsNot) kBO:=by
 intro a s d H x y v u Q I b c h;obtain⟨rfl,q⟩:=h;cases c
 refine isnot_none_gen (qQ I q ?_)
 cases x<;>first
  | (cases b;rfl)
  | (obtain⟨t,rfl⟩:=b;rfl)
def jE(b:iH){a:GK}(h:a≠.In:=by decide)(c:a≠.NotIn:=by decide):behindInMarks a b=false:=by
 have f:(a == CmpOp.In)=false:=by cases a<;>first | rfl | exact absurd rfl h
 have d:(a == CmpOp.NotIn)=false:=by cases a<;>first | rfl | exact absurd rfl c
 cases b<;>simp[behindInMarks,f,d]
def zZ{d:GK}{r:R2}(A:OpR X (compareOp d) r)(g:PE X a ta)(n:PE X b tb)(o:behindInMarks d b=false):PE X (.Compare a [d] [b] pos) (tOp r ta tb):=by
 intro c s i H Q I h;exact wpAny_Compare1 (kTN g n I h λ v u p x y l j f m q=>A c p i l x y v u Q j f m q) o
inductive kKV(Q:Bool->Hp->Prop)(x:V)(H':Hp):Prop
 | mk:∀ k,(x=.bl k)->(Q k H')->kKV Q x H'
def kTS(t:TE):TT:=λ a H Q=>t a H λ x b=>kKV Q x b
def qN{f:GK}{r:R2}(L:OpR X (compareOp f) r)(i:PE X a ta)(A:PE X b tb)(D:behindInMarks f b=false):PT X (.Compare a [f] [b] pos) (kTS (tOp r ta tb)):=by
 intro d s g H Q I h
 refine Cm (thn (i d s g H _ I h) λ v j ⟨x,o,M,N,C⟩=>thn (A d j g o _ M C) λ u G ⟨y,n,m,p,J⟩ =>
  thn (L d G g n x y v u _ m N p J) λ c O ⟨z,l,B,r3,k,e,q⟩=>?_) D
 subst e;cases r3
 exact oy ⟨l,B,q⟩
inductive kFF(r':R2)(tc:TE)(σ:St)(Q:VK)(y:V)(z:V)(H3:Hp):Prop
 | mk:∀ k,(z=.bl k)->((if k=true then tc σ H3 λ w' H4=>r' y w' H4 Q else Q (.bl false) H3))->kFF r' tc σ Q y z H3
def kRR(r r':R2)(f b h:TE):TE:=λ a H Q=>f a H λ x d=>b a d λ y c=>r x y c λ z g=>kFF r' h a Q y z g
def kMN{l g:GK}{r r':R2}(ho:OpR X (compareOp l) r)(j:OpR X (compareOp g) r')(q:PE X a ta)(N:PE X b tb)(D:PE X c tc)
  (T:lastMarks [l,g] [b,c]=false:=by with_unfolding_all rfl):PE X (.Compare a [l,g] [b,c] pos) (kRR r r' ta tb tc):=by
 intro f s i H Q I h
 refine Compare_chain (thn (q f s i H _ I h) λ v A ⟨x,L,I1,r1,O⟩=>chain_link (thn (N f A i L _ I1 O) λ u Y ⟨y,G,C,n,q2⟩ =>
  thn (ho f Y i G x y v u _ C r1 n q2) λ d Z ⟨z,m,p,r3,k,e,o⟩=>?_)) T
 subst e;cases r3
 refine oy ?_
 cases k with
 | false=>exact ite_ff ⟨.bl false,m,p,rfl,o⟩
 | true=>exact ite_tt (chain_last (thn (D f Z i m _ p o) λ M B ⟨J,S,I4,r4,U⟩=>j f B i S y J u M Q I4 n r4 U))
def kVI(K:bb)(x:V)(H:Hp)(k:Bool):Prop :=
 match x with
 | .non=>k=false
 | .bl b=>k=b
 | .int i=>k=(i != 0)
 | .str y=>y.length<=sizeLine/\k=((y.length:Int) != 0)
 | .byt y=>y.size<=sizeLine/\k=((y.size:Int) != 0)
 | .ref p=>(∃ a,SqL K H p a/\k = !a.isEmpty)\/(∃ a,SqT K H p a/\k = !a.isEmpty)\/∃ c,H p=some (.dK c)/\k = !c.isEmpty
 | _=>False
def kEK{b:Type}{kvs:List (b×V)}{a:List (b×ar)}(r:KV kvs a):(!a.isEmpty) = !kvs.isEmpty:=by
 cases r<;>rfl
def mT{xs:List V}{a:List ar}(r:Vals xs a):(!a.toArray.isEmpty) = !xs.isEmpty:=by
 cases r<;>simp
def dI:(sizeLine:Nat)<2 ^ 63:=by rw[Ad];decide
def kRN:kWH X (λ x H Q=>∃ k,kVI X.K x H k/\Q k H):=by
 intro B s J H x v Q I g h;obtain⟨k,e,q⟩:=h;have L:=dI;have G:sizeLine=16777216:=Ad
 cases x with
 | non =>
  cases g
  have a:k=false:=e;subst a;exact truthy_none ⟨H,I,q⟩
 | bl b =>
  cases g
  have a:k=b:=e;subst a;exact oy ⟨H,I,q⟩
 | int i =>
  obtain⟨t,rfl⟩:=g;have a:k=(i != 0):=e;subst a;exact PySem.P.truthy_int ⟨H,I,q⟩
 | str y =>
  obtain⟨t,rfl⟩:=g;obtain⟨D,a⟩ : y.length<=sizeLine/\k=((y.length:Int) != 0):=e;subst a;exact PySem.P.truthy_str (by omega) ⟨H,I.tok _,q⟩
 | byt y =>
  obtain⟨t,rfl⟩:=g;obtain⟨D,a⟩ : y.size<=sizeLine/\k=((y.size:Int) != 0):=e;subst a;exact PySem.W.truthy_bytes (by omega) ⟨H,I.tok _,q⟩
 | ref p =>
  cases g
  have a:(∃ f,SqL X.K H p f/\k = !f.isEmpty)\/(∃ f,SqT X.K H p f/\k = !f.isEmpty)\/∃ c,H p=some (.dK c)/\k = !c.isEmpty:=e;rcases a with⟨f,j,a⟩ | ⟨f,j,a⟩ | ⟨c,j,a⟩
  ·subst a
   obtain⟨n,r,o,A⟩:=I.list j;have d:=r.length;exact wpAny_truthy_list o.isList (by simp only[fb];omega) ⟨H,I.tok _,by rw[mT r];exact q⟩
  ·subst a
   obtain⟨n,r,o,A⟩:=I.tuple j;have d:=r.length;exact truthy_tuple o (by simp only[fb];omega) ⟨H,I.tok _,by rw[mT r];exact q⟩
  ·subst a
   obtain⟨A,C,l,r,m⟩ : c.length<=sizeLine/\(p == sysModules)=false/\∃ l,KV c l/\s.heap.DictOf (qH X.prog X.w) p l:=I.hok p _ j;have d:c.length=l.length:=va r;exact wpAny_truthy_dict C m (by omega) ⟨H,I.tok _,by rw[kEK r];exact q⟩
 | _=>exact(show False from e).elim
def kMG(d:PE X a ta)(j:∀ vT,isTrue a X.env vT=(do let v <-vT;standAt a.pos;holding [v] (truthy v))) :
  PT X a (λ σ H Q=>ta σ H λ x H'=>∃ k,kVI X.K x H' k/\Q k H'):=by
 intro b s σ H Q I h;exact isTrue_plain (thn (d b s σ H _ I h) λ v i ⟨x,f,g,l,c⟩=>kRN b i σ f x v Q g l c) (j _)
def vU{x:V}{a:List ar}(r:Vals [x] a):∃ u,a=[u]/\RelV x u:=by
 cases r with
 | cons r1 r2=>cases r2;exact⟨_,rfl,r1⟩
def kFB{x y:V}{a:List ar}(r:Vals [x,y] a):∃ u w',a=[u,w']/\RelV x u/\RelV y w':=by
 cases r with
 | cons r1 r2 =>
  cases r2 with
  | cons r3 r4=>cases r4;exact⟨_,_,rfl,r1,r3⟩
inductive rH(xs:List V)(H:Hp)(Q:VK):Prop
 | mk:∀ i,(xs=[.int i])->(Q (.int (if i<0 then -i else i)) H)->rH xs H Q
def kOF:zH X (.builtin "abs") rH:=by
 intro a s c H b f Q I r h;obtain⟨i,rfl,q⟩:=h;obtain⟨u,rfl,t,rfl⟩:=vU r;exact call_abs_int λ u d=>⟨.int (if i<0 then -i else i),H,I.tok _,⟨_,rfl⟩,q⟩
inductive nP(xs:List V)(H:Hp)(Q:VK):Prop
 | mk:∀ i j,(xs=[.int i,.int j])->(Q (.int (if j>i then j else i)) H)->nP xs H Q
def kKE(c:X.calm=true):zH X (.builtin "max") nP:=by
 intro b s d H n l Q I r h;obtain⟨i,j,rfl,q⟩:=h;obtain⟨u,g,rfl,⟨t,rfl⟩,⟨m,rfl⟩⟩:=kFB r;refine max_two_ints (I.ok.hd c) λ f o k=>⟨_,H,I.kept k,?_,q⟩;by_cases a:j>i
 ·rw[if_pos a,if_pos a];exact⟨_,rfl⟩
 ·rw[if_neg a,if_neg a];exact⟨_,rfl⟩
def kKF:zH X (.type "int") (λ xs H Q=>(∃ i,xs=[.int i]/\Q (.int i) H)\/∃ k,xs=[.bl k]/\Q (.int (if k then 1 else 0)) H):=by
 intro a s c H xs d Q I r h;rcases h with⟨i,rfl,q⟩ | ⟨k,rfl,q⟩
 ·obtain⟨u,rfl,t,rfl⟩:=vU r
  exact call_int_int ⟨.int i,H,I,⟨_,rfl⟩,q⟩
 ·obtain⟨u,rfl,b⟩:=vU r
  cases b
  exact call_int_bool ⟨.int (if k then 1 else 0),H,I.tok _,⟨_,rfl⟩,q⟩
end
structure ObjM(h:iK)(x dx C:au)(mA:Str->Option ar):Prop where
 obj:h.get? x=some (Cd C dx)
 ns:h.Ns1 dx mA
 ne:dx≠x
def kJJ{h:iK}{d:au}{c:Str->Option ar}(n:h.Ns1 d c):∃ od,h.get? d=some od/\∀ name,Cr name od=some (c name):=by
 obtain⟨o,f,r,g,m,j,_,l⟩:=n;refine⟨o,g,λ name=>?_⟩;have e:=l name;unfold nsFind findBy at e;rw[<-Array.find?_toList]at e;unfold Cr;rw[m];dsimp only
 split
 ·rename_i y q
  rw[q]at e;exact congrArg some e
 ·rename_i q
  rw[q]at e
  have a:f.toList.any (·.refKey)=false:=by
   rw[List.any_eq_false];intro y i;obtain⟨z,t,b⟩:=j y (uk.mp i);simp[DictEntry.refKey,b]
  have p:¬ f.toList.any (·.refKey)=true:=by rw[a];exact eA
  rw[if_neg p];exact congrArg some e
def ObjM.look{h:iK}{x a C:au}{b:Str->Option ar}(I:ObjM h x a C b):∃ od,PySem.W.InstAt h x (Cd C a) C (some od)/\∀ name,Cr name od=some (b name) :=
 let ⟨od,ho,hl⟩:=kJJ I.ns
 ⟨od,⟨I.obj,rfl,rfl,ho⟩,hl⟩
section
variable {prog:eY} {w:iG} {A:gh} {E:ar->ay->Prop} {s:ay} {K:bb} {x dx C f:au} {mA:Str->Option ar} {name:Str} {v:ar}
end
def RelO.some_of{v:V}{o:Option ar}(r:RelO (some v) o):∃ u,o=some u/\RelV v u:=by
 cases o with
 | none=>exact(show False from r).elim
 | some u=>exact⟨u,rfl,r⟩
section
variable {P:eY} {w:iG} {H H':Hp} {h h':iK} {a C dx:au} {fs fs':List (Str×V)}
def kQA(b:HOk P w H h)(e:H a=some (.ins C dx fs)):∃ mA,ObjM h a dx C mA/\(∀ f,RelO (fs.lookup f) (mA f))/\Fo mA (fs.map (·.1))/\fs.length<=1000/\H dx=some (.own a):=by
 obtain⟨d,z,c,g,mA,n,r,q⟩:=(show ObjOk P w H h a (.ins C dx fs) from b a _ e);exact⟨mA,⟨g,n,c⟩,r,q,z,d⟩
end
structure Cls(K:bb)(C:au):Prop where
 pg:EE K C Str.empty=true
 hd:PySem.W.hasDictIn K C=true
 po:PySem.W.plainOver K C=true
 sa:Ee K (.ref C) "__setattr__" = some (some (.builtin "object.__setattr__"))
def Cls.get{K:bb}{C:au}(c:Cls K C)(f:Str):EE K C f=true:=c.pg
section
variable {X:Cx} {pins:List (au×Obj)} {σ:St} {H:Hp} {s:ay} {a C dx:au} {fs:List (Str×V)} {f:Str} {v:V} {A:gh} {E:ar->ay->Prop}
end
section
variable {X:Cx} {o e value:iH} {f:Str} {pos pos' tpos:Pos} {ta tv:TE}
end
section
variable {X:Cx} {pins:List (au×Obj)} {σ:St} {H:Hp} {s:ay} {A:gh} {E:ar->ay->Prop} {Q:ar->ay->Prop} {c:ar} {b:Bool}
inductive dR(K:bb)(H:Hp):V->ar->Prop where
 | non:dR K H .non (.type "NoneType")
 | bl (x:Bool):dR K H (.bl x) (.type "bool")
 | int (i:Int):dR K H (.int i) (.type "int")
 | str (x:Str):dR K H (.str x) (.type "str")
 | flt (x:UInt64):dR K H (.flt x) (.type "float")
 | lst {a:au} {xs:List V} (e:H a=some (.lst xs)):dR K H (.ref a) (.type "list")
 | frz {a:au} {o:Obj} {xs:List V} (e:H a=some (.frz o (.lst xs))):dR K H (.ref a) (.type "list")
 | tup {a:au} {xs:List V} (e:H a=some (.tup xs)):dR K H (.ref a) (.type "tuple")
 | dK {a:au} {kvs:List (Key×V)} (e:H a=some (.dK kvs)):dR K H (.ref a) (.type "dict")
 | dT {a:au} {kvs:List (List Key×V)} (e:H a=some (.dT kvs)):dR K H (.ref a) (.type "dict")
 | ins {a C dx:au} {fs:List (Str×V)} (e:H a=some (.ins C dx fs)) (cl:Cls K C) (ha:Ee K (.ref C) "__class__" = some (some (.builtin "object.__class__")))
   (hn:PySem.W.specialIn K (.builtin "object.__class__") "__get__" = some (some (.builtin "getset_descriptor.__get__"))) (htk:PySem.W.takesIn K (.builtin "object.__class__")=some true)
   (hm:PySem.W.mroIn K C (.type "object")=some true):dR K H (.ref a) (.ref C)
def kJP{x:V}{u t:ar}(I:Inv X pins σ H s)(d:RelV x u)(j:dR X.K H x t)(e:Ef X.K t c=some b)(h:∀ tk,Q (.bool b) {s with toks:=tk}) :
  dq (model X.prog X.w) A (call (.builtin "isinstance") [u,c]) Q E s:=by
 cases j with
 | non=>cases(show u=zm from d);exact ko PySem.W.kitx_none I.kIn oz e (λ z=>nomatch z) h
 | bl y=>cases(show u=BF y from d);exact ko PySem.W.kitx_bool I.kIn oz e (λ z=>nomatch z) h
 | int i=>obtain⟨t,q⟩:=(show ∃ t,u=ug i t from d);cases q;exact ko PySem.W.kitx_int I.kIn oz e (λ z=>nomatch z) h
 | str y=>obtain⟨t,q⟩:=(show ∃ t,u=EA y t from d);cases q;exact ko PySem.W.kitx_str I.kIn oz e (λ z=>nomatch z) h
 | flt y=>obtain⟨t,q⟩:=(show ∃ t,u=GJ y t from d);cases q;exact ko PySem.W.kitx_float I.kIn oz e (λ z=>nomatch z) h
 | @lst a f ea =>
  cases(show u=jr a from d)
  obtain⟨_,_,n,_,h1⟩:=(show ObjOk X.prog X.w H s.heap a (.lst f) from I.hok a _ ea);exact ko DY I.kIn ⟨_,h1,rfl⟩ e (λ z=>nomatch z) h
 | @frz a ob f ea =>
  cases(show u=jr a from d)
  obtain⟨_,_,_,n,_,h1⟩:=(show ObjOk X.prog X.w H s.heap a (.frz ob (.lst f)) from I.hok a _ ea);exact ko DY I.kIn ⟨_,h1,rfl⟩ e (λ z=>nomatch z) h
 | @tup a f ea =>
  cases(show u=jr a from d)
  obtain⟨_,_,_,p⟩:=(show ObjOk X.prog X.w H s.heap a (.tup f) from I.hok a _ ea);obtain⟨o,h1,g,_⟩:=p;exact ko PySem.W.kitx_tuple I.kIn ⟨o,h1,g⟩ e (λ z=>nomatch z) h
 | @dK a kvs ea =>
  cases(show u=jr a from d)
  obtain⟨_,_,v,_,p⟩:=(show ObjOk X.prog X.w H s.heap a (.dK kvs) from I.hok a _ ea);obtain⟨o,m,l,h1,g,_⟩:=p;exact ko DZ I.kIn ⟨o,h1,g.1⟩ e (λ z=>nomatch z) h
 | @dT a kvs ea =>
  cases(show u=jr a from d)
  obtain⟨_,_,f,_,o,m,l,h1,g,_⟩:=(show ObjOk X.prog X.w H s.heap a (.dT kvs) from I.hok a _ ea);exact ko DZ I.kIn ⟨o,h1,g.1⟩ e (λ z=>nomatch z) h
 | @ins a C dx fs ea cl ha hn htk hm =>
  cases(show u=jr a from d)
  obtain⟨r,O,_⟩:=kQA I.hok ea;obtain⟨B,J,_⟩:=O.look;exact ko (PySem.W.kitx_own (cl.get _) cl.hd ha hn htk hm) I.kIn J e (λ z=>nomatch z) h
end
structure Room(k:Nat)(A:gh):Prop where
 hd:A.handled=none
 dp:A.depth+3*k+5<recursionLimit
 un:A.units+16*k+200<cLine
 gd:A.guards=some []
def Room.mono{j k:Nat}{A:gh}(r:Room k A)(h:j<=k):Room j A:=⟨r.hd,by have:=r.dp;omega,by have:=r.un;omega,r.gd⟩
theorem Room.deeper{k:Nat}{A:gh}(r:Room (k+1) A)(env:Env):Room k (A.deeper env) :=
 ⟨r.hd,by have:=r.dp;show A.depth+1+3*k+5<_;omega,by have:=r.un;show A.units+3+16*k+200<_;omega,r.gd⟩
theorem Room.depth{k:Nat}{A:gh}(r:Room k A):A.depth<recursionLimit:=by have:=r.dp;omega
theorem Room.units{k:Nat}{A:gh}(r:Room k A):A.units+64<cLine:=by have:=r.un;omega
def kRP:TA:=λ _ H Q=>Q [] H
def kFE(f:TE)(g:TA):TA:=λ a H Q=>f a H λ x d=>g a d λ b c=>Q (x::b) c
section
variable {X:Cx} {e:iH} {es:List iH} {te:TE} {t:TA} {pos:Pos}
def kY:PA X [] kRP:=λ _ _ _ _ H Q I h=>Calls.spliced_nil ⟨[],H,I,.nil,h⟩
def kI(d:PE X e te)(g:PA X es t)(i:starEach (e::es) X.env=(false,eval e X.env)::starEach es X.env:=by rfl):PA X (e::es) (kFE te t):=by
 intro b a s c H Q I h;rw[i];show dq _ _ (spliced ((false,eval e X.env)::backTo b (starEach es X.env))) _ _ s;refine Calls.spliced_cons (thn (d a s c H _ I h) λ u f ⟨x,m,r,v,o⟩=>?_);exact thn (g b a f c m _ r o) λ y A ⟨p,l,j,n,q⟩=>⟨x::p,l,j,.cons v n,q⟩
inductive kQN(Q:VK)(xs:List V)(H1:Hp):Prop
 | mk:(xs.length<=sizeLine)->(∀ p,H1 p=none->Q (.ref p) (upd H1 p (.tup xs)))->kQN Q xs H1
def kVQ(t:TA):TE:=λ b H Q=>t b H λ a c=>kQN Q a c
inductive kQQ(Q:VK)(xs:List V)(H1:Hp):Prop
 | mk:(xs.length<=sizeLine)->(∀ p,H1 p=none->Q (.ref p) (upd H1 p (.lst xs)))->kQQ Q xs H1
def kVW(t:TA):TE:=λ b H Q=>t b H λ a c=>kQQ Q a c
def qG {x1} (h:PA X es t):PE X (.Tuple es x1 pos) (kVQ t):=by
 intro a s l H Q I i;refine wpAny_Tuple_spliced (thn (h pos a s l H _ I i) λ m c ⟨j,f,d,r,z,q⟩=>⟨by rw[<-r.length];exact z,?_⟩);have g:f c.heap.objs.size=none:=d.hok.fresh (be _);refine⟨.ref c.heap.objs.size,upd f c.heap.objs.size (.tup j),d.laid (t':=c.toks) (λ b u e=>ao _ e) (be _) ?_,rfl,q _ g⟩;exact⟨z,m,r,⟨_,cg _ rfl,rfl,_,rfl,rfl⟩⟩
def qU(h:PA X es t):PE X (.List es pos) (kVW t):=by
 intro a s l H Q I i;refine wpAny_List_spliced (thn (h pos a s l H _ I i) λ m c ⟨j,f,d,r,z,q⟩=>⟨by rw[<-r.length];exact z,?_⟩);have g:f c.heap.objs.size=none:=d.hok.fresh (be _);refine⟨.ref c.heap.objs.size,upd f c.heap.objs.size (.lst j),d.laid (t':=c.toks) (λ b u e=>ao _ e) (be _) ?_,rfl,q _ g⟩;exact⟨z,m,0,r,cg _ rfl⟩
end
abbrev Sp:=List V->Hp->VK->XK->Prop
abbrev CXT:=List Env->Hp->ay->XK->ar->ay->Prop
structure Env0(P:eY)(w:iG)(K:bb)(mg:Str->Option ar)(base:iK)(A:gh)(outer:List Env)(s:ay)(H:Hp):Prop where
 frames:A.frames=some outer
 mod:Mod K mg base
 bs:∀ b o,base.get? b=some o->s.heap.get? b=some o/\H b=none
 bsz:base.objs.size<=s.heap.objs.size
 funs:s.heap.FunFrames base outer
 frf:∀ b∈frs outer,H b=none
 hok:HOk P w H s.heap
 bare:Bg s.gens
def CE(outer:List Env)(P:eY)(w:iG)(H:Hp)(s:ay)(Q:VK)(u:ar)(a:ay):Prop :=
 ∃ v b,a.os=s.os/\Bg a.gens/\Un (frs outer) [] H b s.heap a.heap/\HOk P w b a.heap/\RelV v u/\Q v b
def CR(CX:CXT)(outer:List Env)(P:eY)(w:iG)(H:Hp)(s:ay)(Q:VK)(E:XK)(r:Result)(a:ay):Prop :=
 match r with
 | .ok (.ret u)=>CE outer P w H s Q u a
 | .ok _=>False
 | .error e=>CX outer H s E e a
structure FnOk(P:eY)(w:iG)(K:bb)(mg:Str->Option ar)(base:iK)(CX:CXT)(k:Nat)(f:au)(fd:sj)(ps:List Str)(sp:Sp):Prop where
 len:∀ vs H Q E,sp vs H Q E->vs.length=ps.length
 run:∀(A:gh)(outer:List Env)(s:ay)(H:Hp)(args:Args)(us:List ar)(vs:List V)(Q:VK)(E:XK),Room k A->Env0 P w K mg base A outer s H->Da s fd args (ps.zip us)->Vals vs us->sp vs H Q E ->
  codeAny (model P w) A (.call (.ref f) args) (CR CX outer P w H s Q E) s
section
variable {X:Cx} {pins:List (au×Obj)} {σ:St} {H:Hp} {s s':ay}
def Inv.env0(I:Inv X pins σ H s):Env0 X.prog X.w X.K X.mg X.base X.A X.stack s H :=
 ⟨I.ok.frames,I.ok.mod,I.bs,je I.ok.bsz I.sz,I.stack,I.stkFree,I.hok,I.bare⟩
def Inv.after{Q:VK}{u:ar}(I:Inv X pins σ H s)(h:CE X.stack X.prog X.w H s Q u s'):EP X pins σ Q u s':=by
 obtain⟨v,j,os,a,un,c,r,q⟩:=h;obtain⟨i,g,d,t,f⟩:=s';obtain rfl:f=s.os:=os;exact⟨v,j,I.call (h':=i) (g':=g) (d':=d) (t':=t) (ch:=[]) un c a (λ b z=>absurd z (by simp)),r,q⟩
end
def kKZ(sp:Sp)(a:List V)(E:XK)(t:TA):TE:=λ b H Q=>t b H λ d c=>sp (d++a) c Q E
def Binds(K:bb)(d:sj)(c:List Str)(b:List ar):Prop :=
 ∀(s:ay)(a:List ar),K.In s.heap->(a++b).length=c.length->Da s d ⟨a,[]⟩ (c.zip (a++b))
def Binds.all{K:bb}{b:sj}{a:List Str}(h:∀ us:List ar,us.length=a.length->bindArgs b ⟨us,[]⟩=pure (a.zip us)):Binds K b a []:=λ s us _ c=>by
 rw[iP]at c ⊢;exact .of_eq (h us c)
def kEY(CX:CXT)(X:Cx)(E:XK):Prop:=∀(pins:List (au×Obj))(σ:St)(H:Hp)(s:ay)(e:ar)(s':ay),Inv X pins σ H s->CX X.stack H s E e s'->X.xe e s'
section
variable {X:Cx} {CX:CXT} {k:Nat} {f C:au} {fd:sj} {ps:List Str} {sp:Sp} {dvs:List V} {ds:List ar} {E:XK} {x m:Str} {p pos apos:Pos} {e o:iH} {es:List iH} {ta:TE} {t:TA}
def kRV{a:List (au×Obj)}{g:St}{H:Hp}{s:ay}{Q:VK}{b:List ar}{d:List V}(F:FnOk X.prog X.w X.K X.mg X.base CX k f fd ps sp)(n:Room k X.A)(j:Binds X.K fd ps ds)(p:Vals dvs ds)(m:kEY CX X E)
  (I:Inv X a g H s) (r:Vals d b) (h:sp (d++dvs) H Q E):dq (model X.prog X.w) X.A (call (.ref f) b) (EP X a g Q) X.xe s:=by
 have i:Vals (d++dvs) (b++ds):=r.append p;have o:(b++ds).length=ps.length:=by rw[<-i.length];exact F.len _ _ _ _ h
 refine wpAny_call (Dc (F.run X.A X.stack s H ⟨b,[]⟩ (b++ds) (d++dvs) Q E n I.env0 (j s b I.kIn o) i h) λ r l c=>?_)
 cases r with
 | error e=>exact m a g H s e l I c
 | ok fl =>
  cases fl with
  | ret u=>exact I.after c
  | next=>exact wq c
  | brk=>exact wq c
  | cont=>exact wq c
def kPI(F:FnOk X.prog X.w X.K X.mg X.base CX k f fd ps sp)(j:Room k X.A)(l:Gl X x)(u:X.mg x=some (.ref f))(i:zx X.K (.ref f)=true)(o:Binds X.K fd ps ds)(y:Vals dvs ds)(v:kEY CX X E)
  (g:PA X (e::es) t) (c:(x == ("__debug__" : Str))=false:=by decide) (n:starEach (e::es) X.env=(false,eval e X.env)::starEach es X.env:=by rfl) (b:(backTo pos (starEach es X.env)).any (·.1)=false:=by rfl) :
  PE X (.Call (.Name x p) (e::es) [] pos) (kKZ sp dvs E t):=by
 intro a s m H Q I h;refine BK (kPU I l u ?_ c);refine PySem.W.callWith_K (h₀:=X.base) I.ok.mod.kin i (thn (g pos a s m H _ I h) λ D B ⟨G,C,d,r,q⟩=>⟨d.kIn,?_⟩) n b;exact kRV F j o y v d r q
end
section
variable {X:Cx} {CX:CXT} {k:Nat} {f C:au} {fd:sj} {ps ks:List Str} {sp:Sp} {E:XK} {x m:Str} {p pos apos kpos:Pos} {e o:iH} {es:List iH} {kws:List EY} {te ta:TE} {t tk:TA} {nm:Option Str}
variable {g:List ar->List ar->List ar} {gV:List V->List V->List V}
end
structure FnScope(N P:List Str)(sc:vy):Prop where
 kind:sc.kind=.function
 co:sc.isCoroutine=false
 gen:sc.isGenerator=false
 nd:N.Nodup
 pre:N.take P.length=P
 par:∀ x∈P,sc.names.lookup x=some .local\/sc.names.lookup x=some .cell
 nofree:∀ y∈sc.names,y.2≠.free
theorem rJ{kindOf:Str->Option sk}{x:Str}:∀{binds:List (Str×ar)}{m:Str->Option ar},(∀ v,(x,v)∉binds)->bindL kindOf binds m x=m x
 | [],_,_=>rfl
 | (n,v)::r,m,h=>by
  unfold bindL;rw[rJ λ w a=>h w (eD _ a)]
  split
  ·have:x≠n:=by rintro rfl;exact h v fc
   simp[this]
  ·rfl
theorem rL{kindOf:Str->Option sk}{x:Str}:∀{binds:List (Str×ar)}{m:Str->Option ar},(∀ v,(x,v)∉binds)->bindC kindOf binds m x=m x
 | [],_,_=>rfl
 | (n,v)::r,m,h=>by
  unfold bindC;rw[rL λ w a=>h w (eD _ a)]
  split
  ·rfl
  ·have:x≠n:=by rintro rfl;exact h v fc
   simp[this]
theorem rK{kindOf:Str->Option sk}{x:Str}{v:ar}:∀{P:List Str}{a:List ar}{i:Nat}{m:Str->Option ar},P.Nodup->P[i]?=some x->a[i]?=some v->kindOf x=some .local ->
  bindL kindOf (P.zip a) m x=some v
 | [],_,_,_,_,h,_,_=>by simp at h
 | _::_,[],_,_,_,_,h,_=>by simp at h
 | p::P,w::a,0,m,nd,h1,h2,hk=>by
  simp at h1 h2;subst h1;subst h2;show bindL kindOf ((p,w)::P.zip a) m p=_;unfold bindL;rw[rJ λ v b=>(gj.mp nd).1 (zg b).1,if_pos hk];simp
 | p::P,w::a,i+1,m,nd,h1,h2,hk=>by
  show bindL kindOf ((p,w)::P.zip a) m x=_;unfold bindL;exact rK (i:=i) (gj.mp nd).2 (by simpa using h1) (by simpa using h2) hk
theorem rM{kindOf:Str->Option sk}{x:Str}{v:ar}:∀{P:List Str}{a:List ar}{i:Nat}{m:Str->Option ar},P.Nodup->P[i]?=some x->a[i]?=some v->kindOf x≠some .local ->
  bindC kindOf (P.zip a) m x=some v
 | [],_,_,_,_,h,_,_=>by simp at h
 | _::_,[],_,_,_,_,h,_=>by simp at h
 | p::P,w::a,0,m,nd,h1,h2,hk=>by
  simp at h1 h2;subst h1;subst h2;show bindC kindOf ((p,w)::P.zip a) m p=_;unfold bindC;rw[rL λ v b=>(gj.mp nd).1 (zg b).1,if_neg hk];simp
 | p::P,w::a,i+1,m,nd,h1,h2,hk=>by
  show bindC kindOf ((p,w)::P.zip a) m x=_;unfold bindC;exact rM (i:=i) (gj.mp nd).2 (by simpa using h1) (by simpa using h2) hk
def start(N:List Str)(a:List V):St:=a.map some++gk (N.length-a.length) none
def qX(CX:CXT)(P:eY)(w:iG)(K:bb)(mg:Str->Option ar)(base:iK)(N:List Str)(b:Str)(a:vy)(f:au)(d:ar)(A:gh)(outer:List Env)(s:ay)(H:Hp)(E:XK):Cx where
 prog:=P
 w:=w
 K:=K
 mg:=mg
 base:=base
 A:=A.deeper (envOfC b a s.heap.objs.size f d)
 N:=N
 s₀:=s
 H₀:=H
 env:=envOfC b a s.heap.objs.size f d
 outer:=outer
 stack:=envOfC b a s.heap.objs.size f d::outer
 ex:=[]
 calm:=true
 fn:=λ _=>true
 pn:=[]
 xe:=λ e g=>dq (model P w) (A.deeper (envOfC b a s.heap.objs.size f d)) (leaving (envOfC b a s.heap.objs.size f d) e) (λ _ c=>CX outer H s E e c) (λ h c=>CX outer H s E h c) g
def kCT{a:vy}{n:Nat}{x:Str}(h:a.names.lookup x=some .cell):∃ c,(cellsFrom n a.names []).lookup x=some c:=by
 have q:=CJ a.names n [] (.inl h);exact jh.mp q
def kJQ{CX:CXT}{P:eY}{w:iG}{K:bb}{mg:Str->Option ar}{base:iK}{N m:List Str}{g:Str}{d:vy}{f:au}{I:ar}{A:gh}{outer:List Env}{s M:ay}{H:Hp}{E:XK}{J:List ar}{C:List V}
  (S:FnScope N m d) (X:A.handled=none) (l:Env0 P w K mg base A outer s H) (hl:C.length=m.length) (r:Vals C J)
  (x:InCallC s s.heap.objs.size (bindL (envOfC g d s.heap.objs.size f I).kindOf (m.zip J) λ _=>none) (cellsFrom (s.heap.objs.size+1) d.names []) (bindC (envOfC g d s.heap.objs.size f I).kindOf (m.zip J) λ _=>none) M) :
  Inv (qX CX P w K mg base N g d f I A outer s H E) [] (start N C) H M:=by
 have T:m.length<=N.length:=by have:=congrArg ip S.pre;rw[cx]at this;omega
 obtain⟨h1,Z,rfl,L⟩:=x.done;have B:∀ b:au,b∉(qX CX P w K mg base N g d f I A outer s H E).ex:=λ b z=>absurd (show b∈([]:List au) from z) (by simp)
 refine⟨⟨l.mod,S.kind,rfl,rfl,be _,λ y z c h1 j=>?_,λ y o=>?_,λ y c _ h=>?_,λ _=>X,Around.frames_deeper l.frames,.inr ⟨rfl,rfl⟩,λ b z=>absurd z (B b),l.bs,l.bsz,λ b _ _=>B b,λ b z=>absurd z (B b),l.funs,l.frf⟩,
  rfl,l.bare,Un.kept L,⟨_,x.toInCall.ns,λ i y v h1 j Y=>?_⟩,λ y c h=>⟨_,x.cell y c h⟩,l.hok.fresh (be _),λ y c h=>?_,λ p hp=>absurd (show p∈([]:List (au×Obj)) from hp) (by simp),l.hok.kept L,?_⟩
 ·exact name_of_addr x.apart (mh h1) (mh j)
 ·have o:d.names.lookup y=some .cell\/d.names.lookup y=some .free:=o
  rcases o with o | o
  ·exact kCT o
  ·exact absurd rfl (S.nofree _ (mh o))
 ·exact fv (x.above y c (mh h))
 ·have G:i<C.length:=by
   unfold start at j;by_cases G:i<C.length
   ·exact G
   ·rw[bz (by simpa using G)]at j
    rw[List.getElem?_replicate]at j
    split at j<;>cases j
  have Q:C[i]?=some v:=by
   unfold start at j;rw[bf (by simpa using G),az]at j
   cases e:C[i]? with
   | none=>rw[e]at j;cases j
   | some a=>rw[e]at j;cases j;rfl
  obtain⟨u,O,U⟩:=r.get Q
  have hp:m[i]?=some y:=by
   rw[<-S.pre,qk (by omega)];exact h1
  have D:m.Nodup:=by rw[<-S.pre];exact S.nd.sublist (um _ _)
  refine⟨u,U,?_⟩;rcases S.par y (cv hp) with k | k
  ·exact .inl ⟨k,rK D hp O k⟩
  ·obtain⟨c,e⟩:=kCT (n:=s.heap.objs.size+1) k
   refine .inr ⟨.inl k,c,e,?_⟩;have q:=x.cell y c e;rw[rM D hp O (by show d.names.lookup y≠_;rw[k];decide)]at q;exact q
 ·exact l.hok.fresh (fv (x.above y c (mh h)))
 ·unfold start
  show _=N.length;rw[bj,aj,ub];omega
def kVB{CX:CXT}{P:eY}{w:iG}{K:bb}{mg:Str->Option ar}{base:iK}{k:Nat}{f:au}{name c:Str}{g:Arguments}{h:List kr}{a:vy}{dV kV G pm d ct oc:ar}{an od:Option au}
  {T:Array (Option ar)} {N L:List Str} {sp:Sp} (lk:K.lookup f=some ⟨oc,od,.func (uo name c g h a dV kV G pm an d ct),T⟩) (X:BL K d c=true) (S:FnScope N L a)
  (len:∀ i H Q E,sp i H Q E->i.length=L.length)
  (m:∀(A:gh)(outer:List Env)(s:ay)(H:Hp)(i:List V)(Q:VK)(E:XK),Room k (A.deeper (envOfC c a s.heap.objs.size f d))->sp i H Q E ->
   ∃ t,PSs (qX CX P w K mg base N c a f d A outer s H E) h t/\t {nx:=λ _ H'=>Q .non H',rt:=Q} (start N i) H) :
  FnOk P w K mg base CX (k+1) f (uo name c g h a dV kV G pm an d ct) L sp:=by
 refine⟨len,λ A outer s H a0 us i Q E O C hb r D=>?_⟩;have hl:=len _ _ _ _ D;have Z:K.In s.heap:=C.mod.kin.keeps λ b o e=>(C.bs b o e).1;have M:s.heap.NoLimit:=C.mod.nolimit.keeps λ b o e=>(C.bs b o e).1
 have l:∀ y∈L.zip us,a.names.lookup y.1=some .local\/(a.names.lookup y.1=some .cell/\((cellsFrom (s.heap.objs.size+1) a.names []).lookup y.1).isSome=true):=λ⟨n,v⟩ hy=>by
  rcases S.par n (zg hy).1 with q | q
  ·exact .inl q
  ·exact .inr ⟨q,CJ _ _ _ (.inl q)⟩
 refine codeAny_call_function O.depth (Z _ _ lk) rfl S.co S.gen rfl (PySem.W.codeRec_of Z X) (hb _ _ _ _ ?_);refine wpAny_newFunctionEnv_cells S.kind l λ a1 he s1 x=>?_;subst he;refine⟨M.keeps x.toInCall.keep,codeAny_func ?_⟩;obtain⟨t,ht,hq⟩:=m A outer s H i Q E (O.deeper _) D;have I:Inv (qX CX P w K mg base N c a f d A outer s H E) [] (start N i) H s1:=kJQ S O.hd C hl r x;refine vd (ht [] s1 (start N i) H _ I hq) (λ fl U p=>?_) λ e U p=>p
 have B:∀{j:St}{H':Hp}{v:V}{u:ar},Inv (qX CX P w K mg base N c a f d A outer s H E) [] j H' U->RelV v u->Q v H'->CE outer P w H s Q u U :=
  λ{j H' v u} J Y q=>⟨v,H',J.os,J.bare,J.base,J.hok,Y,q⟩
 cases fl with
 | ret u =>
  obtain⟨v,j,H',J,Y,q⟩:=p;exact B J Y q
 | next =>
  obtain⟨j,H',J,q⟩:=p;exact B (v:=V.non) (u:=zm) J rfl q
 | brk =>
  obtain⟨_,_,_,q⟩:=p;exact wq q
 | cont =>
  obtain⟨_,_,_,q⟩:=p;exact wq q
section
variable {X:Cx} {x:Str} {p pos:Pos} {e:iH} {es:List iH} {t:TA} {id T:String} {r:List V->Hp->VK->Prop}
def tCB(r:List V->Hp->VK->Prop)(t:TA):TE:=λ a H Q=>t a H λ c b=>r c b Q
def kR(l:zH X (.builtin id) r)(i:Gl X x)(v:X.mg x=none)(u:bootBuiltins x=some (.builtin id))(f:PA X (e::es) t)(j:x≠"__name__":=by decide)(c:(x == ("__debug__" : Str))=false:=by decide)
  (m:starEach (e::es) X.env=(false,eval e X.env)::starEach es X.env:=by rfl) (b:(backTo pos (starEach es X.env)).any (·.1)=false:=by rfl):PE X (.Call (.Name x p) (e::es) [] pos) (tCB r t):=by
 intro a s d H Q I h;refine BK (wN I i v u ?_ j c);exact EF (thn (f pos a s d H _ I h) λ o g ⟨y,n,A,B,q⟩=>l a g d n y o Q A B q) m b
def jD(l:zH X (.type T) r)(i:Gl X x)(v:X.mg x=none)(u:bootBuiltins x=some (.type T))(f:PA X (e::es) t)(j:x≠"__name__":=by decide)(c:(x == ("__debug__" : Str))=false:=by decide)
  (m:starEach (e::es) X.env=(false,eval e X.env)::starEach es X.env:=by rfl) (b:(backTo pos (starEach es X.env)).any (·.1)=false:=by rfl):PE X (.Call (.Name x p) (e::es) [] pos) (tCB r t):=by
 intro a s d H Q I h;refine BK (wN I i v u ?_ j c);exact ie (thn (f pos a s d H _ I h) λ o g ⟨y,n,A,B,q⟩=>l a g d n y o Q A B q) m b
end
end L2
namespace HT
open PySem PyProof.Rows
section
open PySem.SeqAt
open PySem.AutoSeq1 (wpAny_loadPart')
open PySem.MeetsSeq PySem.MeetsSeq2 PySem.MeetsSeq3
end
section
variable {prog:eY} {w:iG} {A:gh} {E:ar->ay->Prop} {s:ay}
def cat_tup{t b:au}{d a:List ar}{Q:ar->ay->Prop}(y:EZ s.heap t d.toArray)(x:EZ s.heap b a.toArray)(u:d≠[])
  (h1:a=[]->Q (.ref t) s) (B:a≠[]->Q (.ref s.heap.objs.size) {s with heap:=s.heap.push {cls:=.type "tuple",data:=.seq (d++a).toArray}})
  (hsz:d.length+a.length<=sizeLine):dq (model prog w) A (binaryOp .Add (.ref t) (.ref b)) Q E s:=by
 obtain⟨⟨cls,q,data,p⟩,l,o,n,v⟩:=id y;obtain⟨⟨r,i,data2,f⟩,c,h,m,g⟩:=id x;simp only at o v h g;subst o v h g;have e:d.toArray++a.toArray=(d++a).toArray:=by simp
 by_cases j:a=[]
 ·exact De ⟨_,l,rfl⟩ ⟨_,c,rfl⟩ By DI zy zt (yw _ _)
   (tuple_addW1 t b d.toArray a.toArray n m q i p f (by simpa using u) (by simp[j])) ⟨l,c,h1 j⟩
 ·refine De ⟨_,l,rfl⟩ ⟨_,c,rfl⟩ By DI zy zt (yw _ _)
   (tuple_addW2 t b d.toArray a.toArray n m q i p f (by simpa using u) (by simpa using j) (by rw[fb,fb];exact hsz)) ⟨l,c,?_⟩
  rw[e];exact B j
def sIx(n d:Nat):Option Int->Nat
 | none=>d
 | some v=>if v<0 then(v+(n:Int)).toNat else min v.toNat n
def sIx_none(n d:Nat):sIx n d none=d:=rfl
def sIx_nat(n d k:Nat):sIx n d (some (k:Int))=min k n:=by
 show(if(k:Int)<0 then((k:Int)+(n:Int)).toNat else min (k:Int).toNat n)=min k n;rw[if_neg (by omega),iU]
def kRT(n d:Nat)(b:d<=n)(o:Option Int):sIx n d o<=n:=by
 cases o with
 | none=>exact b
 | some v =>
  show(if v<0 then(v+(n:Int)).toNat else min v.toNat n)<=n;by_cases a:v<0
  ·rw[if_pos a];omega
  ·rw[if_neg a];exact Nat.min_le_right _ _
def kHM(v:Int)(n d:Nat):(if v<0 then max (v+(n:Int)) 0 else min v (n:Int))=((sIx n d (some v):Nat):Int):=by
 show(if v<0 then max (v+(n:Int)) 0 else min v (n:Int))=(((if v<0 then(v+(n:Int)).toNat else min v.toNat n):Nat):Int);by_cases a:v<0
 ·simp only[if_pos a];omega
 ·simp only[if_neg a];omega
def kEX(lo hi:Option Int)(n:Nat):yq lo hi 1 (n:Int)=(((sIx n 0 lo:Nat):Int),((sIx n n hi:Nat):Int)):=by
 have h1:¬ ((1:Int)<0):=by omega
 unfold yq;simp only[h1,if_false];refine wb ?_ ?_
 ·cases lo with
  | none=>rfl
  | some v=>exact kHM v n 0
 ·cases hi with
  | none=>rfl
  | some v=>exact kHM v n n
def kDV(i j:Nat):ue (i:Int) (j:Int) 1=j-i:=by
 unfold ue;have h1:(1:Int)>0:=by omega
 simp only[h1,if_true,Int.ediv_one]
 split<;>omega
def hG{v:ar}{o:Option Int}{Q:Option Int->ay->Prop}(p:CK v o)(h:Q o s):dq (model prog w) A (EO v) Q E s:=by
 cases p with
 | none=>exact Eg h
 | int i t=>exact slicePart_int h
def sliceApplied_gen{f:au}{d c:ar}{lo hi:Option Int}{n:Nat}{Q:Int×Int×Nat->ay->Prop}(g:s.heap.IsSliceOf f d c .none)(j:CK d lo)(l:CK c hi)
  (h:Q (((sIx n 0 lo:Nat):Int),1,sIx n n hi-sIx n 0 lo) s):dq (model prog w) A (BM (.ref f) (pure (n:Int))) Q E s:=by
 obtain⟨os,b,i,a⟩:=id g;unfold BM FG;refine ai (ai (iY b a (x:=d) rfl (ai (iY b a (x:=c) rfl (ai (iY b a (x:=.none) rfl (bp ?_)))))));refine ai (Eg ?_);show dq _ _ (if((1:Int) == 0)=true then _ else _) _ _ s;rw[if_neg (by decide)];refine ai (hG j (ai (hG l (ai (bp ?_)))));show dq _ _ (match yq lo hi 1 (n:Int) with | (lo,hi)=>pure (lo,(1:Int),ue lo hi 1)) _ _ s
 rw[kEX lo hi n];show dq _ _ (pure (((sIx n 0 lo:Nat):Int),(1:Int),ue ((sIx n 0 lo:Nat):Int) ((sIx n n hi:Nat):Int) 1)) _ _ s;rw[kDV];exact bp h
def kMJ(xs:Array ar)(i k:Nat):((cq k).filterMap λ(m:Nat)=>xs[((i:Int)+(m:Int)*1).toNat]?).toArray=((xs.toList.drop i).take k).toArray:=by
 have e:(λ(m:Nat)=>xs[((i:Int)+(m:Int)*1).toNat]?)=λ m=>xs[i+m]?:=by
  funext m
  have:((i:Int)+(m:Int)*1).toNat=i+m:=by omega
  rw[this]
 rw[e];have:=pick_run xs i k;rw[List.filterMap_map]at this;have a:((λ x=>xs[x]?)∘λ x=>i+x)=λ m=>xs[i+m]?:=rfl;rw[a]at this;rw[this]
def getItem_tuple_cut{t i:au}{items:Array ar}{n l:ar}{lo hi:Option Int}{Q:ar->ay->Prop}(b:EZ s.heap t items)(j:s.heap.IsSliceOf i n l .none)(r:CK n lo)(u:CK l hi)
  (o:¬ (sIx items.size 0 lo=0/\sIx items.size items.size hi=items.size))
  (h:Q (.ref s.heap.objs.size) {s with heap:=s.heap.push {cls:=.type "tuple",data:=.seq ((items.toList.drop (sIx items.size 0 lo)).take (sIx items.size items.size hi-sIx items.size 0 lo)).toArray}})
  (hsz:items.size<=sizeLine):dq (model prog w) A (getItem (.ref t) (.ref i)) Q E s:=by
 have a:sizeOk (.seq ((items.toList.drop (sIx items.size 0 lo)).take (sIx items.size items.size hi-sIx items.size 0 lo)).toArray):=by
  show((items.toList.drop (sIx items.size 0 lo)).take (sIx items.size items.size hi-sIx items.size 0 lo)).toArray.size<=sizeLine;rw[fb,cx,iN,iD];omega
 have v:sIx items.size items.size hi<=items.size:=kRT _ _ (be _) hi;obtain⟨os,g,c,p⟩:=id j;have f:s.TypeIs (.ref i) "slice":=⟨os,g,c⟩;unfold getItem
 try with_reducible refine km ?_
 first | refine ai (bp ?_) | skip
 refine ai (Df b.typeIs (by decide) ?_)
 refine ai (ju (name:=wx "__getitem__") b.typeIs jj
  (ky jj b.typeIs DD ?_ (DO _ _)))
 show dq _ _ (BN (.ref t) >>= _) _ _ s;refine ai (tupleItemsOf_ b ?_);refine ai (AA f ?_);rw[if_pos (by decide)];refine ai (sliceApplied_gen j r u ?_)
 have d:¬ ((((sIx items.size 0 lo:Nat):Int) == 0 && (1:Int) == 1 && (sIx items.size items.size hi-sIx items.size 0 lo) == items.size)=true):=by
  intro q;rw[iI,iI]at q;have x:((sIx items.size 0 lo:Nat):Int)=0:=eq_of_beq q.1.1;have y:sIx items.size items.size hi-sIx items.size 0 lo=items.size:=eq_of_beq q.2;exact o ⟨by omega,by omega⟩
 show dq _ _ (if(((sIx items.size 0 lo:Nat):Int) == 0 && (1:Int) == 1 && (sIx items.size items.size hi-sIx items.size 0 lo) == items.size)=true then _ else _) _ _ s;rw[if_neg d,kMJ]
 first
  | exact ai (m:=vg _) (ir (bp ⟨_,rfl,bp h⟩) a)
  | exact ai (m:=vg _) (ir (ai (bp (bp ⟨_,rfl,bp h⟩))) a)
  | exact ai (ai (m:=vg _) (ir (bp (bp ⟨_,rfl,bp h⟩)) a))
  | exact ai (ai (m:=vg _) (ir (bp ⟨_,rfl,bp h⟩) a))
end
end HT
namespace L2
open PySem PySem.Spec PyProof.Rows
abbrev TO:=St->Hp->(Option Int->Hp->Prop)->Prop
def PO(X:Cx)(e:Option iH)(t:TO):Prop :=
 ∀(pins:List (au×Obj))(s:ay)(σ:St)(H:Hp)(Q:Option Int->Hp->Prop),Inv X pins σ H s->t σ H Q ->
  dq (model X.prog X.w) X.A (evalPart e X.env) (λ u b=>∃ o a,Inv X pins σ a b/\CK u o/\Q o a) X.xe s
def kON:TO:=λ _ H Q=>Q none H
inductive kKW(Q:Option Int->Hp->Prop)(x:V)(H1:Hp):Prop
 | mk:∀ i,(x=.int i)->(Q (some i) H1)->kKW Q x H1
def kTT(t:TE):TO:=λ a H Q=>t a H λ x b=>kKW Q x b
section
variable {X:Cx} {e:iH} {te:TE} {lo hi:Option iH} {tl th:TO} {pos p2:Pos}
def jA:PO X none kON:=by
 intro a s b H Q I h;rw[evalPart_none];exact bp ⟨none,H,I,.none,h⟩
def qC(h:PE X e te):PO X (some e) (kTT te):=by
 intro a s d H Q I b;rw[evalPart_some];refine thn (h a s d H _ I b) λ u l ⟨x,g,f,j,c⟩=>?_;obtain⟨i,rfl,q⟩:=c;obtain⟨t,rfl⟩:=j;exact⟨some i,g,f,.int i t,q⟩
def SlR(X:Cx)(r:V->Option Int->Option Int->Hp->VK->Prop):Prop :=
 ∀(pins:List (au×Obj))(s:ay)(σ:St)(H:Hp)(x:V)(v vl vu:ar)(lo hi:Option Int)(sl:au)(Q:VK),Inv X pins σ H s->RelV x v->s.heap.IsSliceOf sl vl vu .none->CK vl lo->CK vu hi->r x lo hi H Q ->
  ∃ T id,typeLookup (.type T) "__getitem__" = pure (some (.builtin id))/\s.TypeIs v T/\dq (model X.prog X.w) X.A (getItem v (.ref sl)) (EP X pins σ Q) X.xe s
def SlR.or{r r':V->Option Int->Option Int->Hp->VK->Prop}(h:SlR X r)(h':SlR X r'):SlR X (λ x lo hi H Q=>r x lo hi H Q\/r' x lo hi H Q):=by
 intro a s c H x v l g lo hi i Q I d b f j q;rcases q with q | q
 ·exact h a s c H x v l g lo hi i Q I d b f j q
 ·exact h' a s c H x v l g lo hi i Q I d b f j q
def tSl(r:V->Option Int->Option Int->Hp->VK->Prop)(c:TE)(b g:TO):TE:=λ a H Q=>c a H λ x f=>b a f λ l d=>g a d λ u h=>r x l u h Q
def qD{r:V->Option Int->Option Int->Hp->VK->Prop}(m:SlR X r)(y:PE X e te)(hl:PO X lo tl)(G:PO X hi th):PE X (.Subscript e (.Slice lo hi none p2) pos) (tSl r te tl th):=by
 intro a s d H Q I h;refine Eh (thn (y a s d H _ I h) λ v j ⟨x,B,Z,r1,J⟩=>?_);refine wpAny_Slice (thn (hl a j d B _ Z J) λ f N ⟨l,p,o,D,S⟩=>thn (G a N d p _ o S) λ g c ⟨u,i,L,M,C⟩=>?_);rw[evalPart_none];refine bp ?_;have O:Inv X a d i {c with heap:=c.heap.push {cls:=.type "slice",data:=.fields #[f,g,.none]}}:=L.kept (t':=c.toks) λ b ob q=>ao _ q
 obtain⟨T,id,Y,U,n⟩:=m a {c with heap:=c.heap.push {cls:=.type "slice",data:=.fields #[f,g,.none]}} d i x v f g l u c.heap.objs.size Q O r1 (GU ..) D M C
 show dq (model X.prog X.w) X.A (subscriptTail e (.Slice lo hi none p2) v (.ref c.heap.objs.size)) (EP X a d Q) X.xe {c with heap:=c.heap.push {cls:=.type "slice",data:=.fields #[f,g,.none]}}
 exact tail_any (ops:=[.ref c.heap.objs.size,v]) U Y n (by with_unfolding_all rfl)
def yA(xs:List V)(lo hi:Option Int):List V:=(xs.drop (HT.sIx xs.length 0 lo)).take (HT.sIx xs.length xs.length hi-HT.sIx xs.length 0 lo)
def fO(xs:List V)(lo hi:Option Int):(yA xs lo hi).length<=xs.length:=by
 unfold yA;rw[cx,iN];omega
inductive kRY(K:bb)(x:V)(lo:Option Int)(hi:Option Int)(H:Hp)(Q:VK):Prop
 | mk:∀ a xs,(x=.ref a)->(SqT K H a xs)->(¬ (HT.sIx xs.length 0 lo=0/\HT.sIx xs.length xs.length hi=xs.length))->(∀ p,H p=none->Q (.ref p) (upd H p (.tup (yA xs lo hi))))->kRY K x lo hi H Q
def sl_tup:SlR X (kRY X.K):=by
 intro j s C H x v B D lo g G Q I m n p y h;obtain⟨a,d,rfl,A,u,q⟩:=h;cases m
 obtain⟨f,r,l,i⟩:=I.tuple A;have c:f.toArray.size=d.length:=by rw[fb];exact r.length.symm
 refine⟨"tuple",_,jj.lookup,l.typeIs,?_⟩;refine HT.getItem_tuple_cut l n p y (by rw[c];exact u) ?_ (by rw[c];exact i);rw[c];refine⟨.ref s.heap.objs.size,_,I.laid (t':=s.toks) (o:=.tup (yA d lo g)) (λ b J q=>ao _ q) (be _) ?_,rfl,q _ (I.hok.fresh (be _))⟩;exact⟨je (fO d lo g) i,_,(r.drop (HT.sIx d.length 0 lo)).take (HT.sIx d.length d.length g-HT.sIx d.length 0 lo),IsTupN.new _ _⟩
inductive kQZ(K:bb)(x:V)(y:V)(H:Hp)(Q:VK):Prop
 | mk:∀ a b xs ys,(x=.ref a)->(y=.ref b)->(SqT K H a xs)->(SqT K H b ys)->(xs≠[])->(xs.length+ys.length<=sizeLine)->((ys=[]->Q (.ref a) H))->((ys≠[]->∀ p,H p=none->Q (.ref p) (upd H p (.tup (xs++ys)))))->kQZ K x y H Q
def Vals.nil_iff{xs:List V}{a:List ar}(r:Vals xs a):a=[]↔xs=[]:=by
 cases r with
 | nil=>simp
 | cons _ _=>simp
def kPK:OpR X (binaryOp .Add) (kQZ X.K):=by
 intro g s G H x y v u Q I l n h;obtain⟨a,b,A,D,rfl,rfl,m,p,C,f,r,B⟩:=h;cases l
 cases n
 obtain⟨j,d,p1,_⟩:=I.tuple m;obtain⟨i,c,p2,_⟩:=I.tuple p;refine HT.cat_tup p1 p2 (λ z=>C (d.nil_iff.mp z)) (λ z=>⟨.ref a,H,I,rfl,r (c.nil_iff.mp z)⟩) (λ z=>?_) (by rw[<-d.length,<-c.length];exact f);refine⟨.ref s.heap.objs.size,_,I.laid (t':=s.toks) (o:=.tup (A++D)) (λ b J q=>ao _ q) (be _) ?_,rfl,B (λ w=>z (c.nil_iff.mpr w)) _ (I.hok.fresh (be _))⟩;exact⟨by rw[bj];exact f,_,d.append c,IsTupN.new _ _⟩
end
def ixN(n:Nat)(i:Int):Option Nat:=if 0<=i then(if i<n then some i.toNat else none) else if -(n:Int)<=i then some (i+n).toNat else none
def atI{α:Type}(xs:List α)(i:Int):Option α:=(ixN xs.length i).bind λ j=>xs[j]?
def kGV{n:Nat}{i:Int}{j:Nat}(h:ixN n i=some j):seqIndex? i n=some j/\j<n/\-(n:Int)<=i/\i<n:=by
 unfold ixN at h;by_cases h0:0<=i
 ·rw[if_pos h0]at h
  by_cases h1:i<n
  ·rw[if_pos h1]at h
   have e:i.toNat=j:=bg h;exact⟨by rw[EL h0 h1,e],by omega,by omega,h1⟩
  ·rw[if_neg h1]at h;cases h
 ·rw[if_neg h0]at h
  by_cases h1 : -(n:Int)<=i
  ·rw[if_pos h1]at h
   have e:(i+n).toNat=j:=bg h;exact⟨by rw[Dg (by omega) h1,e],by omega,h1,by omega⟩
  ·rw[if_neg h1]at h;cases h
def kHT{α:Type}{xs:List α}{i:Int}{v:α}(h:atI xs i=some v):∃ j,seqIndex? i xs.length=some j/\xs[j]?=some v/\j<xs.length/\-(xs.length:Int)<=i/\i<xs.length:=by
 unfold atI at h
 cases e:ixN xs.length i with
 | none=>rw[e]at h;cases h
 | some j =>
  rw[e]at h;obtain⟨h1,a,b,c⟩:=kGV e;exact⟨j,h1,h,a,b,c⟩
def jB{α:Type}{xs:List α}{j:Nat}{v:α}(h:xs[j]?=some v):atI xs (j:Int)=some v:=by
 have a:j<xs.length:=(ak.mp h).1
 have e:ixN xs.length (j:Int)=some j:=by
  unfold ixN;rw[if_pos (by omega),if_pos (by omega)];simp
 unfold atI;rw[e];exact h
def yB{α:Type}(xs:List α)(v:α):atI (xs++[v]) (-1)=some v:=by
 have a:(xs++[v]).length=xs.length+1:=by simp
 have e:ixN (xs++[v]).length (-1)=some xs.length:=by
  unfold ixN;rw[a,if_neg (by decide),if_pos (by omega)]
  congr 1
  omega
 unfold atI;rw[e];show(xs++[v])[xs.length]?=some v;simp
def kHY(b:iH):Prop:=∀ o i,subscripted b false o i=operate [o,i] (getItem o i)
def IxR(X:Cx)(r:R2):Prop :=
 ∀(value a:iH)(pins:List (au×Obj))(s:ay)(σ:St)(H:Hp)(x y:V)(v u:ar)(Q:VK),Inv X pins σ H s->RelV x v->RelV y u->r x y H Q ->
  subscripted a false v u=operate [v,u] (getItem v u)->dq (model X.prog X.w) X.A (subscriptTail value a v u) (EP X pins σ Q) X.xe s
def MtR(X:Cx)(id:String)(r:V->List V->Hp->VK->Prop):Prop :=
 ∀(pins:List (au×Obj))(s:ay)(σ:St)(H:Hp)(x:V)(xs:List V)(v:ar)(us:List ar)(Q:VK),Inv X pins σ H s->RelV x v->Vals xs us->r x xs H Q ->
  dq (model X.prog X.w) X.A (call (.builtin id) (v::us)) (EP X pins σ Q) X.xe s
section
variable {X:Cx} {a b:iH} {ta tb:TE} {pos:Pos}
def kUK{r:R2}(g:IxR X r)(f:PE X a ta)(o:PE X b tb)(i:kHY b):PE X (.Subscript a b pos) (tOp r ta tb):=by
 intro c s j H Q I h;exact Eh (kTN f o I h λ v u p x y m l d n q=>g a b c p j m x y v u Q l d n q (i _ _))
inductive kSA(K:bb)(x:V)(y:V)(H:Hp)(Q:VK):Prop
 | mk:∀ p xs i v,(x=.ref p)->(y=.int i)->(SqL K H p xs)->(atI xs i=some v)->(Q v H)->kSA K x y H Q
inductive kIW(K:bb)(x:V)(y:V)(H:Hp)(Q:VK):Prop
 | mk:∀ p xs i v,(x=.ref p)->(y=.int i)->(SqT K H p xs)->(atI xs i=some v)->(Q v H)->kIW K x y H Q
def qB:IxR X (kSA X.K):=by
 intro value l a s n H x y v u Q I A G h m;obtain⟨p,U,i,z,rfl,rfl,J,D,q⟩:=h;cases A
 obtain⟨t,rfl⟩:=G;obtain⟨d,r,g,T⟩:=I.list J;obtain⟨j,h1,M,S,L,B⟩:=kHT D;obtain⟨w,o,f⟩:=r.get M;have N:=r.length;have O:=dI;have b:EP X a n Q w s:=⟨z,H,I,f,q⟩;by_cases h0:0<=i
 ·have c:i.toNat=j:=by
   rw[EL h0 B]at h1;exact bg h1
  exact item_listR g.isList h0 (by omega) (by rw[c];simpa using o) b m
 ·have c:(i+(d.toArray.size:Int)).toNat=j:=by
   rw[Dg (by omega) L]at h1;rw[fb,<-N];exact bg h1
  exact CL (x:=w) g.isList.typeIs Dh.lookup
   (wpAny_getItem_list_neg (Q:=λ r C=>r=w/\EP X a n Q r C) g.isList (by omega) (by rw[fb]<;>omega) (by omega) (by rw[c];simpa using o) ⟨rfl,b⟩) m
def kZ:IxR X (kIW X.K):=by
 intro value d a s f H x y v u Q I m B h n;obtain⟨p,T,i,z,rfl,rfl,C,A,q⟩:=h;cases m
 obtain⟨t,rfl⟩:=B;obtain⟨l,r,g,O⟩:=I.tuple C;obtain⟨j,h1,G,N,S,M⟩:=kHT A;obtain⟨w,D,b⟩:=r.get G;have J:=r.length;have L:=dI;have c:EP X a f Q w s:=⟨z,H,I,b,q⟩
 exact CL (x:=w) g.typeIs slot_tuple_getitem.lookup
  (getItem_tuple (j:=j) (Q:=λ r o=>r=w/\EP X a f Q r o) g (by omega) (by omega) (by rw[fb,<-J];exact h1) (by simpa using D) ⟨rfl,c⟩) n
def kEH(a:List ar)(n j:Nat)(u:ar):so (·.setIfInBounds j u) {cls:=.type "list",data:=.seq a.toArray n}={cls:=.type "list",data:=.seq (a.set j u).toArray n}:=by
 simp[so]
theorem Inv.lst{b:List (au×Obj)}{c:St}{H:Hp}{s:ay}{p:au}{xs:List V}(I:Inv X b c H s)(h:H p=some (.lst xs)) :
  ∃(a:List ar)(n:Nat),Vals xs a/\s.heap.get? p=some {cls:=.type "list",data:=.seq a.toArray n}/\xs.length<=sizeLine:=by
 obtain⟨z,a,n,r,e⟩:=I.hok p _ h;exact⟨a,n,r,e,z⟩
def Inv.lstUpd{a:List (au×Obj)}{i:St}{H:Hp}{s:ay}{p:au}{xs ys:List V}{c its':List ar}{n d:Nat}{f:Obj->Obj}(I:Inv X a i H s)(h:H p=some (.lst xs))
  (l:s.heap.get? p=some {cls:=.type "list",data:=.seq c.toArray n}) (g:f {cls:=.type "list",data:=.seq c.toArray n}={cls:=.type "list",data:=.seq its'.toArray d}) (r:Vals ys its') (hz:ys.length<=sizeLine) (t:Nat) :
  Inv X a i (upd H p (.lst ys)) {s with heap:=s.heap.update p f,toks:=t}:=by
 have e:(s.heap.update p f).get? p=some {cls:=.type "list",data:=.seq its'.toArray d}:=by
  rw[qe f l (by rw[g]<;>rfl),g]
 refine I.write (x:=p) (e:=p) (by rw[h];trivial) (.inl rfl) (λ b u j q=>(CN _ _ (ox j)).trans q) ⟨_,e⟩ ?_;exact⟨hz,its',d,r,e⟩
inductive kQY(o:V)(i:V)(v:V)(H:Hp)(Q:Hp->Prop):Prop
 | mk:∀ p xs k j,(o=.ref p)->(i=.int k)->(H p=some (.lst xs))->(ixN xs.length k=some j)->(Q (upd H p (.lst (xs.set j v))))->kQY o i v H Q
def hJ:kVJ X kQY:=by
 intro b s A H o i v M J u Q I C y D h;obtain⟨p,G,k,j,rfl,rfl,hp,x,q⟩:=h;cases C
 obtain⟨t,rfl⟩:=y;obtain⟨a,n,r,d,B⟩:=I.lst hp;obtain⟨h1,N,l,m⟩:=kGV x;have f:=r.length;have L:=dI
 have g:Inv X b A (upd H p (.lst (G.set j v))) {s with heap:=s.heap.update p (so (·.setIfInBounds j u))} :=
  I.lstUpd hp d (kEH a n j u) (r.set D j) (by rw[Am];exact B) s.toks
 by_cases h0:0<=k
 ·have c:k.toNat=j:=by
   rw[EL h0 m]at h1;exact bg h1
  exact PySem.W.ki_setAt d h0 (by omega) (by rw[fb,<-f];exact m) (by rw[c];exact⟨_,g,q⟩)
 ·have c:(k+(a.toArray.size:Int)).toNat=j:=by
   rw[Dg (by omega) l]at h1;rw[fb,<-f];exact bg h1
  exact PySem.W.ki_setBack d (by omega) (by rw[fb,<-f];exact l) (by omega) (by rw[c];exact⟨_,g,q⟩)
def rT(lo hi:Option Int)(n:Nat):(sliceBounds lo hi none n).1=((HT.sIx n 0 lo:Nat):Int)/\(sliceBounds lo hi none n).2.1=((HT.sIx n n hi:Nat):Int)/\(sliceBounds lo hi none n).2.2=1:=by
 refine⟨?_,?_,rfl⟩
 ·cases lo with
  | none=>simp[sliceBounds,HT.sIx]
  | some i =>
   simp only[sliceBounds,HT.sIx,EG,show(1:Int)>0 by decide,if_true];by_cases h:i<0
   ·simp only[h,if_true]<;>omega
   ·simp only[h,if_false]<;>omega
 ·cases hi with
  | none=>simp[sliceBounds,HT.sIx]
  | some i =>
   simp only[sliceBounds,HT.sIx,EG,show(1:Int)>0 by decide,if_true];by_cases h:i<0
   ·simp only[h,if_true]<;>omega
   ·simp only[h,if_false]<;>omega
def nV(a:List ar)(lo hi:Option Int):slicePick a.toArray lo hi none=((a.drop (HT.sIx a.length 0 lo)).take (HT.sIx a.length a.length hi-HT.sIx a.length 0 lo)).toArray:=by
 obtain⟨h1,b,c⟩:=rT lo hi a.toArray.size;unfold slicePick;rw[h1,b,c];simp only[sliceRange_one,pick_run,fb]<;>rfl
inductive kUH(K:bb)(x:V)(lo:Option Int)(hi:Option Int)(H:Hp)(Q:VK):Prop
 | mk:∀ a xs,(x=.ref a)->(SqL K H a xs)->(∀ p,H p=none->Q (.ref p) (upd H p (.lst (yA xs lo hi))))->kUH K x lo hi H Q
def xE:SlR X (kUH X.K):=by
 intro g s B H x v A C lo f D Q I l m p u h;obtain⟨a,c,rfl,y,q⟩:=h;cases l
 obtain⟨j,r,i,n⟩:=I.list y;have d:=r.length;refine⟨"list",_,Dh.lookup,i.isList.typeIs,?_⟩;refine wpAny_getItem_list_slice i.isList m p u .none (by simp) ?_ (by rw[fb]<;>omega);rw[nV,<-d];refine⟨.ref s.heap.objs.size,_,I.laid (t':=s.toks) (o:=.lst (yA c lo f)) (λ b G q=>ao _ q) (be _) ?_,rfl,q _ (I.hok.fresh (be _))⟩;exact⟨je (fO c lo f) n,_,0,(r.drop (HT.sIx c.length 0 lo)).take (HT.sIx c.length c.length f-HT.sIx c.length 0 lo),cg _ rfl⟩
def aN:V->Bool
 | .non=>true
 | .bl _=>true
 | .int _=>true
 | .str _=>true
 | _=>false
def eqV:V->V->Bool
 | .non,.non=>true
 | .bl a,.bl b=>a == b
 | .bl a,.int b=>(if a then 1 else 0) == b
 | .int a,.bl b=>a == (if b then 1 else 0)
 | .int a,.int b=>a == b
 | .str a,.str b=>a == b
 | _,_=>false
def kTJ{A:gh}{s:ay}{y x:V}{u v:ar}(g:RelV y u)(c:RelV x v)(h:aN y=true)(f:aN x=true):Ei A s u v (eqV y x):=by
 cases y with
 | non =>
  cases g
  cases x with
  | non=>cases c;exact SeqAt.EqAt.same _
  | bl b=>cases c;exact SeqAt.EqAt.none_bool b
  | int b=>obtain⟨t,rfl⟩:=c;exact SeqAt.EqAt.none_int b t
  | str b=>obtain⟨t,rfl⟩:=c;exact SeqAt.EqAt.none_str b t
  | _=>exact absurd (show false=true from f) eA
 | bl a =>
  cases g
  cases x with
  | non=>cases c;exact SeqAt.EqAt.bool_none a
  | bl b=>cases c;exact SeqAt.EqAt.bool_bool a b
  | int b=>obtain⟨t,rfl⟩:=c;exact SeqAt.EqAt.bool_int a b t
  | str b=>obtain⟨t,rfl⟩:=c;exact SeqAt.EqAt.bool_str a b t
  | _=>exact absurd (show false=true from f) eA
 | int a =>
  obtain⟨d,rfl⟩:=g
  cases x with
  | non=>cases c;exact SeqAt.EqAt.int_none a d
  | bl b=>cases c;exact SeqAt.EqAt.int_bool a d b
  | int b=>obtain⟨t,rfl⟩:=c;exact SeqAt.EqAt.int_int a d b t
  | str b=>obtain⟨t,rfl⟩:=c;exact DL a d b t
  | _=>exact absurd (show false=true from f) eA
 | str a =>
  obtain⟨d,rfl⟩:=g
  cases x with
  | non=>cases c;exact SeqAt.EqAt.str_none a d
  | bl b=>cases c;exact SeqAt.EqAt.str_bool a d b
  | int b=>obtain⟨t,rfl⟩:=c;exact DM a d b t
  | str b=>obtain⟨t,rfl⟩:=c;exact SeqAt.EqAt.str_str a d b t
  | _=>exact absurd (show false=true from f) eA
 | _=>exact absurd (show false=true from h) eA
def eqU(x:V)(u:ar):Bool:=match u with
 | .none=>eqV .non x
 | .bool b=>eqV (.bl b) x
 | .int i _=>eqV (.int i) x
 | .str z _=>eqV (.str z) x
 | _=>false
def kNT{x y:V}{u:ar}(r:RelV y u)(f:aN y=true):eqU x u=eqV y x:=by
 cases y with
 | non=>cases r;rfl
 | bl b=>cases r;rfl
 | int i=>obtain⟨t,rfl⟩:=r;rfl
 | str z=>obtain⟨t,rfl⟩:=r;rfl
 | _=>exact absurd (show false=true from f) eA
theorem cQ{x:V}:∀{xs:List V}{a:List ar},Vals xs a->xs.all aN=true->a.any (eqU x)=xs.any λ y=>eqV y x
 | _,_,.nil,_=>rfl
 | y::xs,u::a,.cons r t,f=>by
  rw[FY,iI]at f;rw[Aa,Aa,kNT r f.1,cQ t f.2]
theorem uO{A:gh}{s:ay}{x:V}{v:ar}(d:RelV x v)(c:aN x=true):∀{xs:List V}{b:List ar},Vals xs b->xs.all aN=true->∀ u∈b,Ei A s u v (eqU x u)
 | _,_,.nil,_=>λ u a=>by cases a
 | y::xs,u::b,.cons r t,f=>λ g a=>by
  rw[FY,iI]at f;rcases eK.mp a with rfl | a
  ·rw[kNT r f.1];exact kTJ r d f.1 c
  ·exact uO d c t f.2 g a
def inV(x:V)(xs:List V):Bool:=xs.any λ y=>eqV y x
inductive rIn(K:bb)(neg:Bool)(x:V)(y:V)(H:Hp)(Q:VK):Prop
 | mk:∀ p xs,(y=.ref p)->((SqL K H p xs\/SqT K H p xs))->(aN x=true)->(xs.all aN=true)->(Q (.bl (if neg then !inV x xs else inV x xs)) H)->rIn K neg x y H Q
def zN:OpR X (compareOp .In) (rIn X.K false):=by
 intro i s m H x y v u Q I f j h;obtain⟨p,n,rfl,b,g,fs,q⟩:=h;cases j
 rcases b with b | b
 ·obtain⟨a,r,c,l⟩:=I.list b
  refine SeqAt.in_listAt (eqU x) c.isList (λ w d=>uO f g r fs w (by simpa using d)) ⟨.bl _,H,I,rfl,?_⟩;rw[show a.toArray.any (eqU x)=a.any (eqU x) by simp,cQ r fs];exact q
 ·obtain⟨a,r,c,l⟩:=I.tuple b
  refine SeqAt.in_tupleAt (eqU x) c (λ w d=>uO f g r fs w (by simpa using d)) ⟨.bl _,H,I,rfl,?_⟩;rw[show a.toArray.any (eqU x)=a.any (eqU x) by simp,cQ r fs];exact q
def vJ:OpR X (compareOp .NotIn) (rIn X.K true):=by
 intro i s m H x y v u Q I f j h;obtain⟨p,n,rfl,b,g,fs,q⟩:=h;cases j
 rcases b with b | b
 ·obtain⟨a,r,c,l⟩:=I.list b
  refine SeqAt.notIn_listAt (eqU x) c.isList (λ w d=>uO f g r fs w (by simpa using d)) ⟨.bl _,H,I,rfl,?_⟩;rw[show a.toArray.any (eqU x)=a.any (eqU x) by simp,cQ r fs];exact q
 ·obtain⟨a,r,c,l⟩:=I.tuple b
  refine SeqAt.notIn_tupleAt (eqU x) c (λ w d=>uO f g r fs w (by simpa using d)) ⟨.bl _,H,I,rfl,?_⟩;rw[show a.toArray.any (eqU x)=a.any (eqU x) by simp,cQ r fs];exact q
inductive yW(K:bb)(xs:List V)(H:Hp)(Q:VK):Prop
 | mk:∀ p ys,(xs=[.ref p])->((SqL K H p ys\/SqT K H p ys))->(Q (.int ys.length) H)->yW K xs H Q
def kP:zH X (.builtin "len") (yW X.K):=by
 intro g s n H v o Q I r h;obtain⟨p,i,rfl,b,q⟩:=h;obtain⟨u,rfl,j⟩:=vU r;cases j
 have m:=dI;rcases b with b | b
 ·obtain⟨c,f,d,l⟩:=I.list b
  have a:=f.length;exact Calls.call_len_list d.isList (by simp only[fb]<;>omega) ⟨.int i.length,H,I.tok _,⟨s.toks+1,by rw[fb,a]⟩,q⟩
 ·obtain⟨c,f,d,l⟩:=I.tuple b
  have a:=f.length;exact len_tuple d (by simp only[fb]<;>omega) ⟨.int i.length,H,I.tok _,⟨s.toks+1,by rw[fb,a]⟩,q⟩
inductive aO(K:bb)(xs:List V)(H:Hp)(Q:VK):Prop
 | mk:∀ p ys,(xs=[.ref p])->((SqL K H p ys\/SqT K H p ys))->(∀ l,H l=none->Q (.ref l) (upd H l (.lst ys)))->aO K xs H Q
def cO:zH X (.type "list") (aO X.K):=by
 intro m s J H M L Q I r h;obtain⟨p,B,rfl,l,q⟩:=h;obtain⟨u,rfl,G⟩:=vU r;cases G
 have g:∀(a:List ar),Vals B a->B.length<=sizeLine->∀(c:iK)(d:Nat),(∀ b D,s.heap.get? b=some D->c.get? b=some D) ->
   c.get? s.heap.objs.size=some {cls:=.type "list",dict:=none,data:=.seq a.toArray d,slots:=#[]}->EP X m J Q (.ref s.heap.objs.size) {s with heap:=c}:=λ a f i c d v e =>
  ⟨.ref s.heap.objs.size,_,I.laid (t':=s.toks) v (be _) (show ObjOk X.prog X.w _ c _ (.lst B) from⟨i,a,d,f,e⟩),rfl,q _ (I.hok.fresh (be _))⟩
 rcases l with l | l
 ·obtain⟨a,f,y,i⟩:=I.list l
  have j:=f.length;obtain⟨o,A,x,n,C⟩:=y.isList;exact call_list_seq p (.inl rfl) A x C (λ c d v e=>g a f i c d v e) (by simp only[fb]<;>omega)
 ·obtain⟨a,f,y,i⟩:=I.tuple l
  have j:=f.length;obtain⟨o,A,x,n,C⟩:=y;exact call_list_seq p (.inr rfl) A x C (λ c d v e=>g a f i c d v e) (by simp only[fb]<;>omega)
inductive zU(K:bb)(xs:List V)(H:Hp)(Q:VK):Prop
 | mk:∀ p ys,(xs=[.ref p])->(((SqL K H p ys/\∀ l,H l=none->Q (.ref l) (upd H l (.tup ys)))\/(SqT K H p ys/\Q (.ref p) H)))->zU K xs H Q
def qR:zH X (.type "tuple") (zU X.K):=by
 intro a s j H C B Q I r h;obtain⟨p,v,rfl,h⟩:=h;obtain⟨u,rfl,x⟩:=vU r;cases x
 rcases h with⟨i,q⟩ | ⟨i,q⟩
 ·obtain⟨c,f,g,l⟩:=I.list i
  have m:=f.length;refine call_tuple_list g.isList (λ d A=>?_) (by simp only[fb]<;>omega);have n:Inv X a j H {s with heap:=d}:=I.kept (t':=s.toks) A
  have y:Inv X a j (upd H d.objs.size (.tup v)) {s with heap:=d.push {cls:=.type "tuple",data:=.seq c.toArray}} :=
   n.laid (t':=s.toks) (λ b o e=>ao _ e) (be _) (show ObjOk X.prog X.w _ _ _ (.tup v) from⟨l,c,f,IsTupN.new _ _⟩)
  exact⟨.ref d.objs.size,_,y,rfl,q _ (n.hok.fresh (be _))⟩
 ·obtain⟨c,f,g,l⟩:=I.tuple i
  exact call_tuple_same g ⟨.ref p,H,I,rfl,q⟩
def tyV(K:bb)(T:String)(x:V)(H:Hp):Prop:=match x with
 | .str _=>T = "str"
 | .int _=>T = "int"
 | .ref p=>(T = "list"/\∃ b,SqL K H p b)\/(T = "tuple"/\((∃ o,K.lookup p=some o/\o.cls=.type "tuple"/\o.dict=none)\/∃ b,H p=some (.tup b))) \/
   (T = "dict"/\((∃ a,H p=some (.dK a))\/∃ a,H p=some (.dT a)))\/(T = "set"/\∃ S n,H p=some (.set S n))
 | _=>False
def kRM{f:List (au×Obj)}{A:St}{H:Hp}{s:ay}{T:String}{x:V}{v:ar}(I:Inv X f A H s)(r:RelV x v)(j:tyV X.K T x H) :
  s.TypeIs v T/\∀ a,v=.ref a->∃ ob,s.heap.get? a=some ob/\ob.dict=none:=by
 cases x with
 | str z =>
  obtain⟨t,rfl⟩:=r
  cases(show T = "str" from j)
  exact⟨typeIs_str s z t,λ _ e=>nomatch e⟩
 | int i =>
  obtain⟨t,rfl⟩:=r
  cases(show T = "int" from j)
  exact⟨Ej s i t,λ _ e=>nomatch e⟩
 | ref p =>
  cases r
  rcases j with⟨rfl,u,l⟩ | ⟨rfl,⟨o,b,B,h⟩ | ⟨u,l⟩⟩ | ⟨rfl,b⟩ | ⟨rfl,S,n,b⟩
  ·obtain⟨m,_,y,_⟩:=I.list l
   refine⟨y.isList.typeIs,λ a e=>?_⟩;cases e
   obtain⟨o,n,e,c,h,_⟩:=y;exact⟨o,e,h⟩
  ·refine⟨⟨o,I.kIn p o b,B⟩,λ a e=>?_⟩
   cases e
   exact⟨o,I.kIn _ o b,h⟩
  ·obtain⟨_,m,_,o,e,c,n,_,h⟩:=(show ObjOk X.prog X.w H s.heap p (.tup u) from I.hok p _ l)
   refine⟨⟨o,e,c⟩,λ a g=>?_⟩;cases g
   exact⟨o,e,h⟩
  ·have z:∃ o,s.heap.get? p=some o/\o.ExactDict:=by
    rcases b with⟨q,b⟩ | ⟨q,b⟩
    ·obtain⟨_,_,_,_,o,_,_,e,d,_⟩:=I.hok p _ b
     exact⟨o,e,d⟩
    ·obtain⟨_,_,_,_,o,_,_,e,d,_⟩:=I.hok p _ b
     exact⟨o,e,d⟩
   obtain⟨o,e,d⟩:=z;refine⟨⟨o,e,d.1⟩,λ a g=>?_⟩;cases g
   exact⟨o,e,d.2.1⟩
  ·obtain⟨o,_,_,_,e,d,_⟩:=I.hok p _ b
   refine⟨⟨o,e,d.1⟩,λ a g=>?_⟩;cases g
   exact⟨o,e,d.2.1⟩
 | _=>exact wq j
inductive kUA(K:bb)(T:String)(r:V->List V->Hp->VK->Prop)(t:TA)(σ:St)(Q:VK)(x:V)(H1:Hp):Prop
 | mk:(tyV K T x H1)->(t σ H1 λ xs H2=>r x xs H2 Q)->kUA K T r t σ Q x H1
def tBM(K:bb)(T:String)(r:V->List V->Hp->VK->Prop)(to:TE)(t:TA):TE:=λ a H Q=>to a H λ x b=>kUA K T r t a Q x b
variable {o e:iH} {es:List iH} {to:TE} {t:TA} {name:Str} {apos cpos:Pos} {T id:String} {r:V->List V->Hp->VK->Prop}
def kBN(G:PlainAttrs T)(g:Slot T name id)(i:typeOf (.builtin id)=pure (.type "method_descriptor"))(L:MtR X id r)(S:PE X o to)(n:PA X (e::es) t)
  (d:attributeBase o name X.env (eval o X.env)=eval o X.env:=by rfl)
  (f:((backTo cpos (starEach (e::es) X.env)).all (λ x=>!x.1) && (backToKw cpos (keywordEach [] X.env)).all (λ x=>x.1.isSome)
   && decide ((e::es).length+([]:List EY).length+(if([]:List EY).isEmpty then 0 else 1)<30))=true:=by rfl)
  (c:(apos.endLine == cpos.line)=true:=by rfl) (u:starEach (e::es) X.env=(false,eval e X.env)::starEach es X.env:=by rfl) (b:(backTo cpos (starEach es X.env)).any (·.1)=false:=by rfl) :
  PE X (.Call (.Attribute o name apos) (e::es) [] cpos) (tBM X.K T r to t):=by
 intro a s j H Q I h;refine wpAny_Call_method_late d f c rfl (thn (S a s j H _ I h) λ v p ⟨x,B,l,m,q,J⟩=>?_);obtain⟨h1,U⟩:=kRM l m q;refine⟨T,id,G,g,i,h1,U,?_⟩;have hA:=n cpos a p j B _ l J;rw[u]at hA ⊢;refine CO (by show(false || (backTo cpos (starEach es X.env)).any (·.1))=false;rw[b]<;>rfl) (Calls.evalArgs_plain ?_);exact thn hA λ D N ⟨M,A,y,C,O⟩=>L a N j A x M v D Q y m C O
end
def MtM(X:Cx)(id:String)(r:V->List V->Hp->VK->Prop):Prop :=
 ∀(pins:List (au×Obj))(s:ay)(σ:St)(H:Hp)(x:V)(xs:List V)(v:ar)(us:List ar)(Q:VK),Inv X pins σ H s->RelV x v->Vals xs us->r x xs H Q ->
  dq (model X.prog X.w) X.A (call (.builtin id) (v::us)) (EP X pins σ Q) X.xe s
def Vals.one:∀{x:V}{a:List ar},Vals [x] a->∃ u,a=[u]/\RelV x u
 | _,_,.cons r .nil=>⟨_,rfl,r⟩
def Vals.two:∀{x y:V}{a:List ar},Vals [x,y] a->∃ u v,a=[u,v]/\RelV x u/\RelV y v
 | _,_,_,.cons r (.cons q .nil)=>⟨_,_,rfl,r,q⟩
theorem Vals.eraseIdx:∀{xs:List V}{a:List ar}(i:Nat),Vals xs a->Vals (xs.eraseIdx i) (a.eraseIdx i)
 | _,_,_,.nil=>.nil
 | _,_,0,.cons _ t=>t
 | _,_,i+1,.cons r t=>.cons r (Vals.eraseIdx i t)
theorem Vals.rep{xs:List V}{a:List ar}(h:Vals xs a):∀ k:Nat,Vals (gk k xs).flatten (gk k a).flatten
 | 0=>.nil
 | k+1=>by
  rw[wc,wc,xi,xi];exact Vals.append h (Vals.rep h k)
theorem pP{α:Type}:∀(l:List α)(i:Nat),(l.eraseIdx i).length<=l.length
 | [],_=>be _
 | _::_,0=>Ae _
 | _::r,i+1=>Nat.succ_le_succ (pP r i)
theorem pV(a:List ar):∀(k:Nat)(b:List ar),
  Ek (λ x1 x2=>x1++x2) b.toArray (gk k a.toArray)=(b++(gk k a).flatten).toArray
 | 0,b=>by simp
 | k+1,b=>by
  have e:b.toArray++a.toArray=(b++a).toArray:=by simp
  have c:(b++a)++(gk k a).flatten=b++(gk (k+1) a).flatten:=by
   rw[wc,xi,dh]
  rw[<-c,<-pV a k (b++a),<-e,wc,vh]
section
variable {X:Cx} {pins:List (au×Obj)} {σ:St} {H:Hp} {s:ay} {l b:au} {xs ys zs:List V}
def Inv.lset{a its':List ar}{n:Nat}{f:Array ar->Array ar}{t':Nat}(I:Inv X pins σ H s)(g:H l=some (.lst xs))
  (e:s.heap.get? l=some {cls:=.type "list",data:=.seq a.toArray n}) (d:f a.toArray=its'.toArray) (h:Vals ys its') (hz:ys.length<=sizeLine) :
  Inv X pins σ (upd H l (.lst ys)) {s with heap:=s.heap.update l (so f),toks:=t'}:=by
 have q:=PySem.IsL.update e f;rw[d]at q;refine I.write (x:=l) (e:=l) (by rw[g];exact trivial) (.inl rfl) (λ i u c b=>(CN s.heap (so f) (ox c)).trans b) ⟨_,q⟩ ?_;exact⟨hz,its',_,h,q⟩
def Inv.lnew{a:List ar}{t':Nat}(I:Inv X pins σ H s)(b:Vals ys a)(hz:ys.length<=sizeLine) :
  Inv X pins σ (upd H s.heap.objs.size (.lst ys)) {s with heap:=s.heap.push {cls:=.type "list",data:=.seq a.toArray},toks:=t'} :=
 I.laid (λ _ _ q=>ao _ q) (be _) ⟨hz,a,0,b,cg _ rfl⟩
theorem Inv.fresh(I:Inv X pins σ H s):H s.heap.objs.size=none:=I.hok.fresh (be _)
def Inv.lstM(I:Inv X pins σ H s)(b:H l=some (.lst xs)):xs.length<=sizeLine/\∃(a:List ar)(n:Nat),Vals xs a/\xs.length=a.length/\s.heap.get? l=some {cls:=.type "list",data:=.seq a.toArray n}:=by
 obtain⟨z,a,n,r,e⟩:=I.hok l _ b;exact⟨z,a,n,r,r.length,e⟩
def kBX{n:Nat}(h:n<=sizeLine):vi n=false:=by
 unfold vi;exact decide_eq_false (by omega)
end
section
variable {X:Cx}
inductive kGJ(x:V)(vs:List V)(H:Hp)(Q:VK):Prop
 | mk:∀ l xs y,(x=.ref l)->(vs=[y])->(H l=some (.lst xs))->(xs.length<sizeLine)->(Q .non (upd H l (.lst (xs++[y]))))->kGJ x vs H Q
def jW:MtM X "list.append" kGJ:=by
 intro b s i H x o v m Q I d f h;obtain⟨l,p,y,rfl,rfl,c,j,q⟩:=h;cases d
 obtain⟨u,rfl,g⟩:=f.one;obtain⟨z,a,n,r,A,e⟩:=I.lstM c;refine zo F.slot_list_append ⟨_,e,rfl⟩ F.entry_list_append (F.args_list_append_2 _ _) (PySem.list_append l a.toArray n u (by rw[fb];omega)) ⟨e,?_⟩;refine⟨.non,_,I.lset (its':=a++[u]) c e (by simp) (r.append (.cons g .nil)) ?_,rfl,q⟩;rw[bj,fj];omega
inductive kGI(x:V)(vs:List V)(H:Hp)(Q:VK):Prop
 | mk:∀ l b xs zs,(x=.ref l)->(vs=[.ref b])->(H l=some (.lst xs))->(H b=some (.lst zs))->(xs.length+zs.length<=sizeLine)->(Q .non (upd H l (.lst (xs++zs))))->kGI x vs H Q
def kJF:MtM X "list.extend" kGI:=by
 intro g s D H x M v L Q I j y h;obtain⟨l,b,N,G,rfl,rfl,i,hB,J,q⟩:=h;cases j
 obtain⟨u,rfl,B⟩:=y.one;cases B
 obtain⟨z,c,n,r,O,e⟩:=I.lstM i;obtain⟨C,a,m,p,A,o⟩:=I.lstM hB;have f:c.toArray.size+a.toArray.size<=sizeLine:=by rw[fb,fb];omega
 have d:¬ (!c.toArray.isEmpty && vi (c.toArray.size+a.toArray.size))=true:=by
  rw[kBX f,Bool.and_false];exact eA
 refine zo F.slot_list_extend ⟨_,e,rfl⟩ F.entry_list_extend (F.args_list_extend_2 _ _)
  (AutoSeq1.list_extend_list_list_0 l c.toArray n b a.toArray m d (by rw[fb];omega) (by omega)) ⟨e,o,?_⟩
 refine⟨.non,_,I.lset (its':=c++a) i e (by simp) (r.append p) ?_,rfl,q⟩;rw[bj];omega
inductive kUJ(x:V)(y:V)(H:Hp)(Q:VK):Prop
 | mk:∀ l b xs zs,(x=.ref l)->(y=.ref b)->(H l=some (.lst xs))->(H b=some (.lst zs))->(xs.length+zs.length<=sizeLine)->(∀ p,H p=none->Q (.ref p) (upd H p (.lst (xs++zs))))->kUJ x y H Q
def vK:OpR X (binaryOp .Add) kUJ:=by
 intro d s C H x y v u Q I f i h;obtain⟨l,b,J,D,rfl,rfl,p,hB,G,q⟩:=h;cases f
 cases i
 obtain⟨z,c,n,r,L,e⟩:=I.lstM p;obtain⟨A,a,B,j,o,g⟩:=I.lstM hB;refine PySem.P.add_list e g ?_ (by rw[fb,fb];omega);have m:c.toArray++a.toArray=(c++a).toArray:=by simp
 rw[m];exact⟨.ref _,_,I.lnew (t':=s.toks) (r.append j) (by rw[bj];omega),rfl,q _ I.fresh⟩
inductive kUI(x:V)(y:V)(H:Hp)(Q:VK):Prop
 | mk:∀ l k xs,(x=.ref l)->(y=.int k)->(H l=some (.lst xs))->(-(2 ^ 63)<=k)->(k<2 ^ 63)->(xs.length*k.toNat<=sizeLine)->(∀ p,H p=none->Q (.ref p) (upd H p (.lst (gk k.toNat xs).flatten)))->kUI x y H Q
def kPR{α:Type}(xs:List α)(k:Nat):(gk k xs).flatten.length=k*xs.length:=by
 induction k with
 | zero=>simp
 | succ k ih=>rw[wc,xi,bj,ih,Nat.succ_mul,AB]
def kSJ:OpR X (binaryOp .Mult) kUI:=by
 intro A s N H x y v u Q I B D h;obtain⟨l,k,O,rfl,rfl,J,h1,L,p,q⟩:=h;cases B
 obtain⟨t,rfl⟩:=D;obtain⟨z,b,n,r,M,e⟩:=I.lstM J;have g:b.toArray.size*k.toNat<=sizeLine:=by rw[fb,<-M];exact p
 have i:¬ b.toArray.size*k.toNat>(2 ^ 63-1) / 8:=by
  have:(sizeLine:Nat)<=(2 ^ 63-1) / 8:=by decide
  omega
 have d:¬ (!Builtin.List.listFitsIndex k)=true:=by
  rw[El h1 L];exact eA
 have c:¬ vi (b.toArray.size*k.toNat)=true:=by
  rw[kBX g];exact eA
 have f:Ek (λ j o=>j++o) #[] (gk (if b.toArray.isEmpty=true then 0 else k.toNat) b.toArray)=(gk k.toNat b).flatten.toArray:=by
  have G:∀ m:Nat,Ek (λ j o=>j++o) #[] (gk m b.toArray)=(gk m b).flatten.toArray:=λ m=>by
   have:=pV b m [];rw[qi]at this;exact this
  rw[G]
  cases b with
  | nil=>simp
  | cons a r'=>rw[if_neg (by simp)]
 refine wpAny_binaryOp_repeat_ref (T:="list") (U:="int") (by decide) ⟨_,e,rfl⟩ (λ C=>Ej C k t) noFill_list_mul F.fills_int_mul ER repeat_list F.slot_int_index.lookup
  (zo ER (Ej s k t) F.entry_int_rmul (F.args_int_rmul_2 _ _) (int___rmul___int_list k t l b.toArray n)
   ⟨e,rfl,⟨_,e,rfl⟩,zo F.slot_list_mul ⟨_,e,rfl⟩ F.entry_list_mul (F.args_list_mul_2 _ _) (AutoListH.list___mul___list_int_3 l b.toArray n k t d i c) ⟨e,?_⟩⟩)
 rw[f];exact⟨.ref _,_,I.lnew (t':=s.toks) (r.rep k.toNat) (by rw[kPR,Nat.mul_comm];exact p),rfl,q _ I.fresh⟩
end
section
variable {prog:eY} {w:iG} {A:gh} {E:ar->ay->Prop} {s:ay}
end
section
variable {X:Cx}
end
end L2
namespace Att
open PySem PySem.W PySem.Calls PyProof.Rows
def fZ{P:GV}{h:iK}:∀(c:List Int)(d:List ar),WellAll P h d (c.map Gf)->Di d c:=by
 intro c
 induction c with
 | nil =>
  intro d w;rw[BB]at w;cases w
  exact .nil
 | cons n c ih =>
  intro d w;rw[gm]at w
  cases w with
  | cons a b =>
   cases a
   exact .cons _ _ (ih _ b)
def kIS{l:OpenLaw}{n:Nat}(p:l.most=some n){P:GV}{h:iK}{args:List WData}{c:List ar}
  (b:l.row.toRowW.claim.pre args=true) (m:WellAll P h c args) :
  ∃ a vs ns,c=[jr a]/\args=[WData.list (ns.map Gf)]/\h.get? a=some {cls:=.type "list",data:=.seq vs.toArray}/\Di vs ns/\ns.length<=n:=by
 have j:WShape.hasAll [] args [.list .int]=true:=(pre_splitW b).1;have o:l.pre.holds [] {args:=args}=true:=(pre_splitW b).2;obtain⟨d,r,rfl,h1,u⟩:=hasAllW_cons j;obtain rfl:=hasAllW_nil u;obtain⟨x,rfl,v⟩:=hasW_list h1;obtain⟨ns,rfl⟩:=items_int v
 have f:ns.length<=n:=by
  unfold OpenLaw.pre at o
  have i:(WTm.not (.lt (.lit (.int (n:Int))) (.len (.arg 0)))).holds [] {args:=[.list (ns.map .int)]}=true:=by
   have i:=(holds_andW o).1;rw[p]at i;exact i
  have g:=condW_of i (w_not (w_lt w_lit (w_len_list (w_arg rfl))));rw[aj]at g;refine Nat.le_of_not_lt λ q=>?_;have s:(n:Int)<((ns.length:Nat):Int):=by omega
  first
   | (rw[decide_eq_true s]at g;exact absurd g (by decide))
   | (simp at g;omega)
 cases m with
 | cons w1 w2 =>
  cases w2
  cases w1 with
  | list ho hall=>exact⟨_,_,ns,rfl,rfl,ho,fZ ns _ hall,f⟩
def kIY(l:OpenLaw)(args:List WData):l.row.toRowW.claim.post args (.bool true) args=true :=
 postW_of (r:=l.row.toRowW) (X:=(true == true))
  (show GW [] (.bool true) .bool=true by first | rfl | decide | simp[GW,WShape.arms,WShape.armsAll])
  (show(WTm.eq .res (.lit (.bool true))).value [] {args:=args,res:=some (.bool true),after:=args}=some (.bool (true == true)) from w_eq_bool (w_res rfl) w_lit) rfl
def attach_call{l:OpenLaw}{n:Nat}{q:eY}{c:List Str}{L:(Str->Option ar)->iK->Prop}{M:iG->iK->Prop}{d:DefRec}
  (T:l.most=some n) (B:d.params.defaults=[])
  (call:∀(w:iG)(s₀ b:ay)(mg x:Str->Option ar)(s:au)(o:Obj)(D v g:ar)(a:au)(i:List ar)(u:List Int),
   Ground q c [] L w s₀ mg x b.heap->M w b.heap ->
   b.heap.get? s=some o->o.data=.func (docDef d.name d.params d.body d.scope D v g)->b.heap.CodeRec v d.name->mg d.name=some (.ref s) ->
   b.heap.get? a=some {cls:=.type "list",data:=.seq i.toArray}->Di i u->u.length<=n->b.gens = #[] ->
   codeAny (model l.prog w) callerA (.call (.ref s) ⟨[.ref a],[]⟩) (λ r s'=>r=.ok (.ret (.bool true))/\OldK b.heap s'.heap/\s'.os=b.os/\Bg s'.gens) b) :
  WalkO q c L M l.row.toRowW d [] (λ f i=>Em f i):=by
 intro w s₀ b mg x G Y s o D v g dV kV ho O y H A S J N as p I Q C U;obtain rfl:dV=.none:=Dflts.none H B;obtain rfl:kV=.none:=Dflts.noKw H;obtain⟨a,i,u,rfl,rfl,j,h,m⟩:=kIS T p C;refine enter_call (Dc (call w s₀ b mg x s o D v g a i u G Y ho (fd_plain O) y A j h m S) λ r s' Z=>?_);obtain⟨rfl,h2,X,h4⟩:=Z;exact⟨.inl ⟨.bool true,.bool true,[],rfl,λ _=>rfl,.bool true,kIY l _,λ _=>⟨Bj,λ _ hm=>(nomatch hm)⟩⟩,h2,X,h4⟩
section
variable {prog:eY} {w:iG} {A:gh} {E:ar->ay->Prop} {s:ay} {K:Frag}
end
end Att
namespace L2
open PySem PySem.Spec PyProof.Rows
theorem oK:∀{a:List ar}{b:List Int},Di a b->Vals (b.map V.int) a
 | _,_,.nil=>.nil
 | _,_,.cons n t h=>.cons ⟨t,rfl⟩ (oK h)
def kTP(H:Hp):Prop:=∀ b,H b=none\/∃ o a,H b=some (.frz o (.lst a))
def kNA{P:eY}{w:iG}{K:bb}{mg U:Str->Option ar}{CX:CXT}{k:Nat}{X a:au}{fd:sj}{x:Str}{sp:Sp}{c:ay}{p:List ar}{M:List Int}
  (KX:K.In c.heap) (L:c.heap.Ns gw mg) (g:c.heap.Ns builtinsNs U) (S:∀ x:Str,x≠"__name__"->U x=bootBuiltins x) (D:c.heap.NoLimit) (hg:c.gens = #[])
  (O:c.heap.get? a=some {cls:=.type "list",data:=.seq p.toArray}) (hi:Di p M) (hl:M.length<=sizeLine) (hr:Room k callerA)
  (F:∀ base:iK,K.In base->base.Ns gw mg->FnOk P w K mg base CX k X fd [x] sp) (l:∀(s:ay)(u:ar),Da s fd ⟨[u],[]⟩ [(x,u)])
  (T:∀ H:Hp,kTP H->SqL K H a (M.map V.int)->sp [.ref a] H (λ v _=>v=.bl true) λ _ _ _=>False)
  (Y:∀ H e s',CX [] H c (λ _ _ _=>False) e s'->False) :
  codeAny (model P w) callerA (.call (.ref X) ⟨[.ref a],[]⟩) (λ r s'=>r=.ok (.ret (.bool true))/\OldK c.heap s'.heap/\s'.os=c.os/\Bg s'.gens) c:=by
 have rv:=oK hi
 have A:=hi.length
 have j:∀ H:Hp,kTP H->SqL K H a (M.map V.int)->HOk P w H c.heap->(∀ b,H b≠none->b=a)->(H a≠none->K.lookup a=none) ->
   codeAny (model P w) callerA (.call (.ref X) ⟨[.ref a],[]⟩) (λ r s'=>r=.ok (.ret (.bool true))/\OldK c.heap s'.heap/\s'.os=c.os/\Bg s'.gens) c:=by
  intro H hO hS C hA hK;have f:∀{b:au}{o:Obj},c.heap.get? b=some o->H b=none->(tR c.heap H).get? b=some o:=λ e n=>kNL e n
  have Q:∀{b:au}{o:Obj}{N:Array Bz}{I:Nat},c.heap.get? b=some o->o.data=.dict N I->H b=none:=λ{b o N I} e d=>by
   cases q:H b with
   | none=>rfl
   | some u =>
    have Z:b=a:=hA b (by rw[q];simp);subst Z;rw[O]at e;cases e;have d':Data.seq p.toArray _=Data.dict N I:=d
    cases d'
  have i:∀{b:au}{m:Str->Option ar},c.heap.Ns b m->(tR c.heap H).Ns b m:=λ{b m} ⟨o,N,I,e,d,r⟩=>⟨o,N,I,f e (Q e d),d,r⟩
  have y:K.In (tR c.heap H):=λ b o e=>f (KX b o e) (by
   cases q:H b with
   | none=>rfl
   | some u =>
    have Z:b=a:=hA b (by rw[q];simp);subst Z;rw[hK (by rw[q];simp)]at e;cases e)
  have hM:Mod K mg (tR c.heap H):=⟨y,i L,⟨U,i g,S⟩,let ⟨mc,h1,h2⟩:=D;⟨mc,i h1,h2⟩⟩;have e0:Env0 P w K mg (tR c.heap H) callerA [] c H:=⟨rfl,hM,λ b o e=>kPO e,Fw (kJT _ _),trivial,λ b g=>absurd (show b∈([]:List au) from g) (by simp),C,.of_eq hg⟩;refine Dc ((F _ y (i L)).run callerA [] c H ⟨[.ref a],[]⟩ [.ref a] [.ref a] _ _ hr e0 (l c (.ref a)) (.cons rfl .nil) (T H hO hS)) λ r s' h=>?_
  cases r with
  | error e=>exact(Y H e s' h).elim
  | ok fl =>
   cases fl with
   | next=>exact wq h
   | brk=>exact wq h
   | cont=>exact wq h
   | ret u =>
    obtain⟨v,H',os,J,un,B,r',q⟩:=h;have q':v=.bl true:=q;subst q';obtain rfl:u=BF true:=r';refine⟨rfl,OldK.of_keep λ b o e=>?_,os,J⟩
    cases q:H b with
    | none=>exact un.keep b o e q (by intro z;exact absurd (show b∈([]:List au) from z) (by simp)) (by simp)
    | some u =>
     rcases hO b with z | ⟨ob,xs,z⟩
     ·rw[q]at z;cases z
     ·have z2:=un.frzs b ob _ z
      obtain⟨e1,_⟩:=C b _ z;obtain⟨e2,_⟩:=B b _ z2;rw[e]at e1;cases e1;exact e2
 cases hk:K.lookup a with
 | some o =>
  have e:=KX a o hk;rw[O]at e;cases e
  refine j (λ _=>none) (λ _=>.inl rfl) (.inr ⟨_,p.toArray,_,hk,rfl,rfl,rfl,by rw[fb,A];exact hl,by simpa using rv⟩) (λ b u z=>by have G:(none:Option HO)=some u:=z;cases G) (λ b z=>absurd rfl z) λ z=>absurd rfl z
 | none =>
  refine j (λ b=>if b=a then some (.frz {cls:=.type "list",data:=.seq p.toArray} (.lst (M.map V.int))) else none) (λ b=>?_) (.inl (.inr ⟨{cls:=.type "list",data:=.seq p.toArray},if_pos rfl⟩)) (λ b u z=>?_) (λ b z=>?_) λ _=>hk
  ·by_cases g:b=a
   ·exact .inr ⟨_,_,if_pos g⟩
   ·exact .inl (if_neg g)
  ·by_cases g:b=a
   ·have G:=(if_pos g).symm.trans z
    cases G
    subst g;exact⟨O,by rw[aj];exact hl,p,_,rv,O⟩
   ·have G:=(if_neg g).symm.trans z
    cases G
  ·by_cases g:b=a
   ·exact g
   ·exact absurd (if_neg g) z
def walk_of{l:Ce}{n k:Nat}{q:eY}{i:List Str}{XP:(Str->Option ar)->iK->Prop}{M:iG->iK->Prop}{d:DefRec}{K:GV->bb}{CX:iG->CXT}{sp:iG->Sp}{x:Str}
  (U:l.most=some n) (J:n<=sizeLine) (D:d.params.defaults=[]) (Q:Room k callerA)
  (X:∀(w:iG)(h:iK),M w h->(K w.params).In h)
  (F:∀(w:iG)(mg:Str->Option ar)(r:au)(h:iK),(K w.params).In h->h.Ns gw mg->mg d.name=some (.ref r) ->
   ∃ fd:sj,(∀(s:ay)(u:ar),Da s fd ⟨[u],[]⟩ [(x,u)]) /\
    ∀ base:iK,(K w.params).In base->base.Ns gw mg->FnOk l.prog w (K w.params) mg base (CX w) k r fd [x] (sp w))
  (A:∀(w:iG)(H:Hp)(a:au)(y:List Int),y.length<=n->kTP H->SqL (K w.params) H a (y.map V.int)->sp w [.ref a] H (λ v _=>v=.bl true) λ _ _ _=>False)
  (I:∀(w:iG)(H:Hp)(s:ay)(e:ar)(B:ay),CX w [] H s (λ _ _ _=>False) e B->False) :
  FZ q i XP M l.row.toRowW d [] (λ f vs=>Em f vs):=by
 refine Att.attach_call U D λ w N m mg mb r o pm cd Z a vs y G Y ho hd a0 C p j c S=>?_;have L:=X w _ Y;obtain⟨fd,hb,hF⟩:=F w mg r _ L G.T.g C;exact kNA L G.T.g G.T.b G.T.builtins G.T.nolimit S p j (je c J) Q hF hb (λ H hO O=>A w H a y c hO O) λ H e B=>I w H m e B
def vO(s:kr):Arguments:=match s with
 | .FunctionDef _ a _ _ _ _ _ _ _ _=>a
 | _=>{posonlyargs:=[],args:=[],vararg:=none,kwonlyargs:=[],kw_defaults:=[],kwarg:=none,defaults:=[]}
def zL(s:kr):List kr:=match s with
 | .FunctionDef _ _ b _ _ _ _ _ _ _=>b
 | _=>[]
def kN(s:kr):vy:=match s with
 | .FunctionDef _ _ _ _ _ _ sc _ _ _=>sc
 | _=>{kind:=.function,names:=[],isGenerator:=false,isCoroutine:=false}
abbrev CX0:CXT:=λ _ _ _ _ _ _=>False
abbrev E0:XK:=λ _ _ _=>False
def kUL{X:Cx}:kEY CX0 X E0:=λ _ _ _ _ _ _ _ h=>h.elim
structure Fun(K:bb)(x qual:Str)(st:kr)(f:au)(fd:sj):Prop where
 ex:∃(oc:ar)(od:Option au)(kV doc pm:ar)(an:Option au)(cdv ct:ar)(osl:Array (Option ar)),
  fd=uo x qual (vO st) (zL st) (kN st) .none kV doc pm an cdv ct/\K.lookup f=some ⟨oc,od,.func fd,osl⟩/\BL K cdv qual=true
 kp:zx K (.ref f)=true
section
variable {P:eY} {w:iG} {K:bb} {mg:Str->Option ar} {base:iK}
def Fun.ok{x a:Str}{st:kr}{f:au}{l:sj}{N g:List Str}{k:Nat}{sp:Sp}(F:Fun K x a st f l)(S:FnScope N g (kN st))(len:∀ c H Q E,sp c H Q E->c.length=g.length)
  (d:∀(b:ar)(A:gh)(outer:List Env)(s:ay)(H:Hp)(c:List V)(Q:VK)(E:XK),Room k (A.deeper (envOfC a (kN st) s.heap.objs.size f b))->sp c H Q E ->
   ∃ t,PSs (qX CX0 P w K mg base N a (kN st) f b A outer s H E).nox (zL st) t/\t {nx:=λ _ H'=>Q .non H',rt:=Q} (start N c) H):FnOk P w K mg base CX0 (k+1) f l g sp:=by
 obtain⟨u,v,kV,o,B,y,b,r,n,rfl,p,j⟩:=F.ex;refine kVB p j S len λ A outer s H c Q E m i=>?_;obtain⟨t,h,q⟩:=d b A outer s H c Q E m i;exact⟨t,h.nox,q⟩
def Fun.binds{x a:Str}{st:kr}{f:au}{l:sj}{d:List Str}(F:Fun K x a st f l)
  (h:∀(kV b i:ar)(g:Option au)(c ct:ar)(j:List ar),j.length=d.length->bindArgs (uo x a (vO st) (zL st) (kN st) .none kV b i g c ct) ⟨j,[]⟩=pure (d.zip j)):Binds K l d []:=by
 obtain⟨o,q,kV,b,i,g,c,ct,m,rfl,p,n⟩:=F.ex;exact .all (h kV b i g c ct)
def kTG{x a:Str}{st:kr}{f:au}{j:ar}{m h:Option au}{g:Array (Option ar)}{kV d i b ct:ar}(l:K.lookup f=some ⟨j,m,.func (uo x a (vO st) (zL st) (kN st) .none kV d i h b ct),g⟩)
  (c:BL K b a=true) (k:zx K (.ref f)=true):Fun K x a st f (uo x a (vO st) (zL st) (kN st) .none kV d i h b ct):=⟨⟨j,m,kV,d,i,h,b,ct,g,rfl,l,c⟩,k⟩
end
def jS{A:gh}{k:Nat}(a:Room k A):A.units+1<cLine:=ji (Nat.add_le_add_left (by decide:1<=64) _) a.units
def kQ{n:Nat}(h:n<=1000):n<sizeLine:=ji h (by decide)
section
variable {X:Cx}
def pv(i:Nat){x:Str}{a:Pos}(d:X.N[i]?=some x:=by rfl)(c:Vis X.env.scope x:=by first | exact xw rfl | exact EH (xw rfl) | exact EH (EH rfl))(f:(x == ("__debug__" : Str))=false:=by decide)
  (b:(x == ("__classdict__" : Str))=false:=by decide):PE X (.Name x a) (kRO i):=kSH d c f b
end
def xH{A B:Prop}(h:B):if false=true then A else B:=by
 rw[if_neg eA];exact h
def zW{A B:Prop}(h:A):if true=true then A else B:=by
 rw[if_pos rfl];exact h
def kJO{c A B:Prop}[Decidable c](h1:c->A)(a:¬ c->B):if c then A else B:=by
 by_cases h:c
 ·rw[if_pos h]
  exact h1 h
 ·rw[if_neg h]
  exact a h
def Same(H H':Hp):Prop:=∀ b o,H b=some o->H' b=some o
def Same.refl(H:Hp):Same H H:=λ _ _ h=>h
def Same.trans{H f d:Hp}(a:Same H f)(b:Same f d):Same H d:=λ c o h=>b c o (a c o h)
def Same.free{H H':Hp}(e:Same H H'){l:au}(h:H' l=GN):H l=GN:=by
 cases q:H l with
 | none=>rfl
 | some o =>
  rw[e l o q]at h;cases h
end L2
namespace Own
open PySem PySem.Spec PyProof.Rows L2
def Has(P:eY)(w:iG)(K:bb)(mg:Str->Option ar)(base:iK)(x:Str)(a:List Str)(k:Nat)(sp:Sp):Prop :=
 ∃(f:au)(b:sj),FnOk P w K mg base CX0 k f b a sp/\Binds K b a []/\zx K (.ref f)=true/\mg x=some (.ref f)
section
variable {X:Cx} {k:Nat} {ps:List Str} {sp:Sp} {x:Str} {p pos:Pos} {e:iH} {es:List iH} {t:TA}
def pe_has(h:Has X.prog X.w X.K X.mg X.base x ps k sp)(j:Room k X.A)(d:Gl X x)
  (i:PA X (e::es) t) (c:(x == ("__debug__" : Str))=false:=by decide) (l:starEach (e::es) X.env=(false,eval e X.env)::starEach es X.env:=by rfl) (a:(backTo pos (starEach es X.env)).any (·.1)=false:=by rfl) :
  PE X (.Call (.Name x p) (e::es) [] pos) (kKZ sp [] E0 t):=by
 obtain⟨f,n,F,b,g,m⟩:=h;exact kPI F j d m g b .nil kUL i c l a
end
def kVN(i j:Int):Prop:=i.natAbs<2 ^ 9000/\j.natAbs<2 ^ 9000
def kVO(i j:Int):Prop:=j≠0/\j.natAbs<2 ^ 9000
def kHP{i:Int}(h:i.natAbs<2 ^ 9000):GS i<=2 ^ 20 :=
 je (intBits_le h) (by decide)
section
variable {X:Cx}
def op_mulW:OpR X (binaryOp .Mult) (rI kVN λ i j=>.int (i*j)):=opI λ _ _ _ _ _ _ _ a q=>mul_int q (IntMulOk.of_bits (kHP a.1) (kHP a.2))
theorem log2_lt{n:Nat}(h:n<2 ^ 9000):n.log2<9000:=by
 by_cases h0:n=0
 ·subst h0;decide
 ·exact(Nat.log2_lt h0).mpr h
def op_fdivW:OpR X (binaryOp .FloorDiv) (rI kVO λ i j=>.int (i.fdiv j)):=opI λ _ _ _ _ _ _ _ a q=>floordiv_int a.1 q (.inl (PyProof.noPylong_of_log2 (log2_lt a.2)))
inductive rE(K:bb)(xs:List V)(H:Hp)(Q:VK):Prop
 | mk:∀ x t T b,(xs=[x,.ty T])->(dR K H x t)->(Ef K t (.type T)=some b)->(Q (.bl b) H)->rE K xs H Q
def call_isi:zH X (.builtin "isinstance") (rE X.K):=by
 intro a s g H l j Q I r h;obtain⟨x,t,T,b,rfl,c,e,q⟩:=h;obtain⟨u,i,rfl,f,d⟩:=kFB r;cases d
 exact kJP I f c e λ m=>⟨.bl b,H,I.tok _,rfl,q⟩
end
end Own
namespace L2
open PySem
def jF(K:bb)(n:Str)(st:kr):Prop:=∃(f:au)(a:sj),jl K gw n=some (some (.ref f))/\Fun K n n st f a
def df_mk{K:bb}{n:Str}{st:kr}{f:au}{h:ar}{j i:Option au}{d:Array (Option ar)}{kV g m b ct:ar}(a:jl K gw n=some (some (.ref f)))(l:K.lookup f=some ⟨h,j,.func (uo n n (vO st) (zL st) (kN st) .none kV g m i b ct),d⟩)(c:BL K b n=true)(k:zx K (.ref f)=true):jF K n st:=⟨f,_,a,kTG l c k⟩
def kTD{P:eY}{w:iG}{K:bb}{mg:Str->Option ar}{h base:iK}(X:K.In h)(G:h.Ns gw mg){n:Str}{st:kr}{g:List Str}{m:Nat}{sp:Sp}(d:jF K n st)
  (ok:∀(f:au)(c:sj),Fun K n n st f c->FnOk P w K mg base CX0 m f c g sp) (b:∀(kV i p:ar)(o:Option au)(j ct:ar)(l:List ar),l.length=g.length->bindArgs (uo n n (vO st) (zL st) (kN st) .none kV i p o j ct) ⟨l,[]⟩=pure (g.zip l)):Own.Has P w K mg base n g m sp:=by
 obtain⟨f,c,a,F⟩:=d;exact⟨f,c,ok f c F,F.binds b,F.kp,Fb X G a⟩
open PySem PySem.Spec PyProof.Rows
section
variable {κ:Type} [DecidableEq κ]
def jJ(kvs:List (κ×V))(k:κ):Option V:=(kvs.find? λ a=>decide (a.1=k)).map (·.2)
def qS(kvs:List (κ×V))(k:κ)(v:V):List (κ×V) :=
 if(kvs.any λ a=>decide (a.1=k))=true then kvs.map (λ a=>if a.1=k then(a.1,v) else a) else kvs++[(k,v)]
def jU{p:κ×V}{r:List (κ×V)}{k:κ}(e:p.1=k):jJ (p::r) k=some p.2:=by simp[jJ,xa,e]
def jV{p:κ×V}{r:List (κ×V)}{k:κ}(e:¬ p.1=k):jJ (p::r) k=jJ r k:=by simp[jJ,xa,e]
theorem wP(k:κ):∀ kvs:List (κ×V),(kvs.any λ kv=>decide (kv.1=k))=(jJ kvs k).isSome
 | []=>rfl
 | p::r=>by
  rw[Aa];by_cases e:p.1=k
  ·simp only[jU e,decide_eq_true e,Bool.true_or,Option.isSome_some]
  ·rw[jV e,decide_eq_false e,Bool.false_or];exact wP k r
theorem kAJ(k j:κ)(y:V):∀ kvs:List (κ×V),jJ (kvs.map λ kv=>if kv.1=k then(kv.1,y) else kv) j=(jJ kvs j).map λ x=>if j=k then y else x
 | []=>rfl
 | p::r=>by
  have a:=kAJ k j y r;rw[gm];by_cases h:p.1=k
  ·rw[if_pos h]
   by_cases e:p.1=j
   ·rw[jU (p:=(p.1,y)) e,jU e,xb,if_pos (e.symm.trans h)]
   ·rw[jV (p:=(p.1,y)) e,jV e,a]
  ·rw[if_neg h]
   by_cases e:p.1=j
   ·rw[jU (p:=p) e,jU e,xb,if_neg (λ z=>h (e.trans z))]
   ·rw[jV (p:=p) e,jV e,a]
theorem oM(k j:κ)(y:V):∀ kvs:List (κ×V),jJ kvs k=none->jJ (kvs++[(k,y)]) j=if j=k then some y else jJ kvs j
 | [],_=>by
  by_cases e:k=j
  ·rw[if_pos e.symm];exact jU (p:=(k,y)) e
  ·rw[if_neg (λ z=>e z.symm)];exact jV (p:=(k,y)) e
 | p::r,hn=>by
  rw[kj];have a:¬ p.1=k:=λ z=>by rw[jU z]at hn;cases hn
  rw[jV a]at hn;have b:=oM k j y r hn;by_cases e:p.1=j
  ·rw[jU e,jU e,if_neg (λ z=>a (e.trans z))]
  ·rw[jV e,jV e,b]
def xS(kvs:List (κ×V))(k j:κ)(y:V):jJ (qS kvs k y) j=if j=k then some y else jJ kvs j:=by
 unfold qS;by_cases a:(kvs.any λ c=>decide (c.1=k))=true
 ·rw[if_pos a,kAJ]
  rw[wP]at a;by_cases e:j=k
  ·obtain⟨x,b⟩:=jh.mp a
   rw[if_pos e,e,b,xb,if_pos rfl]
  ·rw[if_neg e]
   cases jJ kvs j with
   | none=>rfl
   | some x=>rw[xb,if_neg e]
 ·rw[if_neg a]
  refine oM k j y kvs ?_;rw[wP]at a
  cases q:jJ kvs k with
  | none=>rfl
  | some x=>rw[q]at a;exact(a rfl).elim
def xL(kvs:List (κ×V))(k:κ)(v:V):(qS kvs k v).length<=kvs.length+1:=by
 unfold qS
 split
 ·rw[aj];omega
 ·rw[bj,iC,tm];omega
def kBK{kvs:List (κ×V)}{k:κ}(v:V)(h:jJ kvs k=none):qS kvs k v=kvs++[(k,v)]:=by
 unfold qS;rw[wP,h];exact if_neg (by decide)
def RelO.isSome_eq{o:Option V}{u:Option ar}(r:RelO o u):o.isSome=u.isSome:=by
 cases o with
 | none=>cases u with
  | none=>rfl
  | some _=>exact(show False from r).elim
 | some _=>cases u with
  | none=>exact(show False from r).elim
  | some _=>rfl
def KV.val{kvs:List (κ×V)}{c:List (κ×ar)}(r:KV kvs c)(k:κ):RelO (jJ kvs k) (valueAt c k):=by
 unfold KV at r
 induction r with
 | nil=>exact oz
 | @cons p q ps qs h t ih =>
  obtain⟨h1,d⟩:=h;by_cases e:p.1=k
  ·have a:q.1=k:=h1.symm.trans e
   have b:valueAt (q::qs) k=some q.2:=by simp[valueAt,xa,a]
   rw[jU e,b];exact d
  ·have a:¬ q.1=k:=λ z=>e (h1.trans z)
   have b:valueAt (q::qs) k=valueAt qs k:=by simp[valueAt,xa,a]
   rw[jV e,b];exact ih
theorem KV.any{kvs:List (κ×V)}{a:List (κ×ar)}(r:KV kvs a)(k:κ):(kvs.any λ kv=>decide (kv.1=k))=a.any λ kv=>decide (kv.1=k):=by
 unfold KV at r
 induction r with
 | nil=>rfl
 | cons h t ih=>rw[Aa,Aa,ih,h.1]
def KV.repl{kvs:List (κ×V)}{a:List (κ×ar)}(r:KV kvs a)(k:κ){y:V}{u:ar}(c:RelV y u) :
  KV (kvs.map λ kv=>if kv.1=k then(kv.1,y) else kv) (a.map λ kv=>if kv.1=k then(kv.1,u) else kv):=by
 unfold KV at r ⊢
 induction r with
 | nil=>exact .nil
 | @cons p q ps qs h t ih =>
  rw[gm,gm];refine .cons ?_ ih;obtain⟨h1,b⟩:=h;by_cases e:p.1=k
  ·rw[if_pos e,if_pos (h1.symm.trans e)];exact⟨h1,c⟩
  ·rw[if_neg e,if_neg (λ z=>e (h1.trans z))];exact⟨h1,b⟩
def KV.put{kvs:List (κ×V)}{a:List (κ×ar)}(r:KV kvs a)(k:κ){y:V}{u:ar}(b:RelV y u):KV (qS kvs k y) (stored a k u):=by
 unfold qS stored;rw[r.any k];by_cases e:(a.any λ c=>decide (c.1=k))=true
 ·rw[if_pos e,if_pos e];exact r.repl k b
 ·rw[if_neg e,if_neg e];exact GO r ⟨rfl,b⟩
theorem KV.length{kvs:List (κ×V)}{a:List (κ×ar)}(r:KV kvs a):kvs.length=a.length:=va r
end
def pQ{P:eY}{w:iG}{k:Key}{u:ar}(r:RelV (kV k) u):(qH P w).is k u=true:=by
 cases k with
 | inl i=>obtain⟨t,e⟩:=(show ∃ t,u=ug i t from r);subst e;exact kCA P w i t
 | inr x=>obtain⟨t,e⟩:=(show ∃ t,u=EA x t from r);subst e;exact kBZ P w x t
theorem pR{P:eY}{w:iG}:∀{a:List Key}{b:List ar},Vals (a.map kV) b->ItemsAre (qH P w) a b
 | [],_,r=>by rw[BB]at r;cases r;exact .nil
 | k::a,_,r=>by
  rw[gm]at r
  cases r with
  | cons h t=>exact .cons (pQ h) (pR t)
abbrev KT(H:Hp):List (List Key×V)->List (List Key×au×ar)->Prop:=EC λ p q=>p.1=q.1/\H q.2.1=some (.tup (p.1.map kV))/\RelV p.2 q.2.2
def KT.val{H:Hp}{kvs:List (List Key×V)}{xs:List (List Key×au×ar)}(r:KT H kvs xs)(k:List Key):RelO (jJ kvs k) ((atKey xs k).map (·.2)):=by
 induction r with
 | nil=>exact oz
 | @cons p q ps qs h t ih =>
  obtain⟨h1,_,c⟩:=h;by_cases e:p.1=k
  ·have a:q.1=k:=h1.symm.trans e
   have b:atKey (q::qs) k=some q.2:=by simp[atKey,xa,a]
   rw[jU e,b];exact c
  ·have a:¬ q.1=k:=λ z=>e (h1.trans z)
   have b:atKey (q::qs) k=atKey qs k:=by simp[atKey,xa,a]
   rw[jV e,b];exact ih
def KT.repl{H:Hp}{kvs:List (List Key×V)}{xs:List (List Key×au×ar)}(r:KT H kvs xs)(k:List Key){y:V}{u:ar}(b:RelV y u) :
  KT H (kvs.map λ kv=>if kv.1=k then(kv.1,y) else kv) (xs.map (putAt k u)):=by
 induction r with
 | nil=>exact .nil
 | @cons p q ps qs h t ih =>
  rw[gm,gm];refine .cons ?_ ih;obtain⟨h1,a,c⟩:=h;unfold putAt;by_cases e:p.1=k
  ·rw[if_pos e,if_pos (h1.symm.trans e)];exact⟨h1,a,b⟩
  ·rw[if_neg e,if_neg (λ z=>e (h1.trans z))];exact⟨h1,a,c⟩
def KT.put{H:Hp}{kvs:List (List Key×V)}{xs:List (List Key×au×ar)}(r:KT H kvs xs)(k:List Key){b:au}{y:V}{u:ar}(c:H b=some (.tup (k.map kV)))(a:RelV y u) :
  KT H (qS kvs k y) (storedH xs k b u):=by
 have e:(kvs.any λ d=>decide (d.1=k))=(atKey xs k).isSome:=by
  rw[wP,(r.val k).isSome_eq,Dj]
 unfold qS storedH;rw[e];by_cases q:(atKey xs k).isSome=true
 ·rw[if_pos q,if_pos q];exact r.repl k a
 ·rw[if_neg q,if_neg q];exact GO r ⟨rfl,c,a⟩
def KT.keeps{H H':Hp}{kvs:List (List Key×V)}{xs:List (List Key×au×ar)}(r:KT H kvs xs)(a:∀ b ys,H b=some (.tup ys)->H' b=some (.tup ys)):KT H' kvs xs :=
 Paired.mapP r λ _ _ z=>⟨z.1,a _ _ z.2.1,z.2.2⟩
section
variable {P:eY} {w:iG} {H:Hp} {h:iK} {a:au}
def kQW{u:HO}(ok:HOk P w H h)(e:Rd H a u):ObjOk P w H h a u:=e.ok ok
def kHG{kvs:List (Key×V)}(ok:HOk P w H h)(e:Rd H a (.dK kvs)):kvs.length<=sizeLine/\(a == sysModules)=false/\∃ vs,KV kvs vs/\h.DictOf (qH P w) a vs :=
 show ObjOk P w H h a (.dK kvs) from kQW ok e
def kHH{kvs:List (Key×V)}(ok:HOk P w H h)(e:H a=some (.dK kvs)):kvs.length<=sizeLine/\(a == sysModules)=false/\∃ vs,KV kvs vs/\h.DictOf (qH P w) a vs:=kHG ok (.inl e)
def mR{b:List Key}(ok:HOk P w H h)(e:H a=some (.tup (b.map kV))):(tupleKind (qH P w)).is h b a:=by
 obtain⟨_,c,r,o,h1,d,n,f,_⟩:=(show ObjOk P w H h a (.tup (b.map kV)) from ok a _ e);exact⟨o,c.toArray,n,h1,d,f,by simpa using pR r⟩
def kHD{kvs:List (List Key×V)}(ok:HOk P w H h)(e:Rd H a (.dT kvs)):kvs.length<=sizeLine/\(a == sysModules)=false /\
  ∃ xs,KT H kvs xs/\h.DictOfH (tupleKind (qH P w)) a xs:=by
 obtain⟨z,y,xs,r,o,j,i,h1,g,c,f,d⟩:=(show ObjOk P w H h a (.dT kvs) from kQW ok e);refine⟨z,y,xs,r,o,j,i,h1,g,c,f,λ x b=>?_,d⟩
 have all:∀{l:List (List Key×V)}{m:List (List Key×au×ar)},KT H l m->∀ x∈m,(tupleKind (qH P w)).is h x.1 x.2.1:=by
  intro l m q
  induction q with
  | nil=>intro x b;exact nomatch b
  | @cons p q ps qs hq t ih =>
   intro x b;rcases eK.mp b with e | b
   ·subst e
    exact mR ok (by rw[<-hq.1];exact hq.2.1)
   ·exact ih x b
 exact all r x b
def kHE{kvs:List (List Key×V)}(ok:HOk P w H h)(e:H a=some (.dT kvs)):kvs.length<=sizeLine/\(a == sysModules)=false /\
  ∃ xs,KT H kvs xs/\h.DictOfH (tupleKind (qH P w)) a xs:=kHD ok (.inl e)
end
def DGet(H:Hp)(a:au)(y:V)(r:Option V):Prop :=
 (∃ c k,Rd H a (.dK c)/\y=kV k/\r=jJ c k)\/∃ c k b,Rd H a (.dT c)/\y=.ref b/\H b=some (.tup (k.map kV))/\r=jJ c k
def DPut(H:Hp)(a:au)(y v:V)(H':Hp):Prop :=
 (∃ c k,H a=some (.dK c)/\y=kV k/\c.length<sizeLine/\H'=upd H a (.dK (qS c k v))) \/
 ∃ c k b,H a=some (.dT c)/\y=.ref b/\H b=some (.tup (k.map kV))/\c.length<sizeLine/\H'=upd H a (.dT (qS c k v))
theorem DGet.k{H:Hp}{a:au}{kvs:List (Key×V)}{k:Key}(e:H a=some (.dK kvs)):DGet H a (kV k) (jJ kvs k):=.inl ⟨kvs,k,.inl e,rfl,rfl⟩
def DGet.t{H:Hp}{a b:au}{kvs:List (List Key×V)}{k:List Key}(e:H a=some (.dT kvs))(c:H b=some (.tup (k.map kV))):DGet H a (.ref b) (jJ kvs k):=.inr ⟨kvs,k,b,.inl e,rfl,c,rfl⟩
theorem DPut.k{H:Hp}{a:au}{kvs:List (Key×V)}{k:Key}{v:V}(e:H a=some (.dK kvs))(b:kvs.length<sizeLine):DPut H a (kV k) v (upd H a (.dK (qS kvs k v))):=.inl ⟨kvs,k,e,rfl,b,rfl⟩
def DPut.t{H:Hp}{a b:au}{kvs:List (List Key×V)}{k:List Key}{v:V}(e:H a=some (.dT kvs))(c:H b=some (.tup (k.map kV)))(d:kvs.length<sizeLine) :
  DPut H a (.ref b) v (upd H a (.dT (qS kvs k v))):=.inr ⟨kvs,k,b,e,rfl,c,d,rfl⟩
section
variable {X:Cx} {pins:List (au×Obj)} {σ:St} {H:Hp} {s:ay} {a:au} {y v:V} {u r:ar} {o:Option V} {A:gh} {E:ar->ay->Prop}
def Inv.big(I:Inv X pins σ H s):sysModules<s.heap.objs.size:=by
 have h:gw<s.heap.objs.size:=(I.mod.glob.keeps I.bk).lt;exact Nat.lt_trans (by decide) h
def kKA{Q:ar->ay->Prop}(r:A.units+1<cLine)(I:Inv X pins σ H s)(g:DGet H a y (some v))(q:RelV y u)(h:∀ w' s',Inv X pins σ H s'->RelV v w'->Q w' s') :
  dq (model X.prog X.w) A (getItem (.ref a) u) Q E s:=by
 rcases g with⟨j,k,e,i,l⟩ | ⟨j,k,b,e,i,x,l⟩
 ·subst i
  obtain⟨z,D,C,c,m⟩:=kHG I.hok e;obtain⟨w',f,d⟩:=RelO.some_of (v:=v) (o:=valueAt C k) (by rw[l];exact c.val k);exact wpAny_getItem_of (pQ q) m.mapOf f (h w' _ (I.tok _) d)
 ·subst i
  cases(show u=jr b from q)
  obtain⟨z,D,B,c,m⟩:=kHD I.hok e;obtain⟨w',f,d⟩:=RelO.some_of (v:=v) (o:=(atKey B k).map (·.2)) (by rw[l];exact c.val k);obtain⟨p,hp,n⟩:=bh.mp f;refine wpAny_getItem_heap (zq r) (mR I.hok x) m hp ?_;rw[n];exact h w' _ (I.tok _) d
def kQI{Q:ar->ay->Prop}(n:A.units+1<cLine)(I:Inv X pins σ H s)(g:DGet H a y o)(m:RelV y u)(h:∀ s',Inv X pins σ H s'->Q (.bool (!o.isSome)) s') :
  dq (model X.prog X.w) A (compareOp .NotIn u (.ref a)) Q E s:=by
 rcases g with⟨d,k,e,f,l⟩ | ⟨d,k,b,e,f,p,l⟩
 ·subst f
  obtain⟨z,i,v,c,j⟩:=kHG I.hok e;refine wpAny_notIn_of (pQ m) i j.mapOf ?_;rw[<-(c.val k).isSome_eq,<-l];exact h _ (I.tok _)
 ·subst f
  cases(show u=jr b from m)
  obtain⟨z,i,r,c,j⟩:=kHD I.hok e;refine wpAny_notIn_heap (zq n) (mR I.hok p) i j ?_;have q:=(c.val k).isSome_eq;rw[Dj]at q;rw[<-q,<-l];exact h _ (I.tok _)
def vP{h':iK}{t':Nat}{ob:HO}(I:Inv X pins σ H s)(f:Mut (H a))(d:iz a s.heap h')(g:∃ q,h'.get? a=some q)(new:ObjOk X.prog X.w (upd H a ob) h' a ob) :
  Inv X pins σ (upd H a ob) {s with heap:=h',toks:=t'} :=
 I.write (x:=a) (e:=a) f (.inl rfl) (λ b q c z=>(d.2 b c).trans z) g new
def kER{P:eY}{w:iG}{H':Hp}{h':iK}{kvs:List (Key×V)}{b:List (Key×ar)}(z:kvs.length<=sizeLine)(d:(a == sysModules)=false)(c:KV kvs b)(f:h'.DictOf (qH P w) a b) :
  ObjOk P w H' h' a (.dK kvs):=⟨z,d,b,c,f⟩
def kJZ{H':Hp}{Q:Unit->ay->Prop}(T:A.units+1<cLine)(I:Inv X pins σ H s)(g:DPut H a y v H')(D:RelV y u)(J:RelV v r)(h:∀ s',Inv X pins σ H' s'->Q () s') :
  dq (model X.prog X.w) A (setItem (.ref a) u r) Q E s:=by
 rcases g with⟨f,k,e,m,l,x⟩ | ⟨f,k,b,e,m,L,l,x⟩
 ·subst m x
  obtain⟨z,C,Y,d,o⟩:=kHH I.hok e;have p:Y.length<=sizeLine:=by rw[<-d.length];exact z
  have B:(qS f k v).length<=sizeLine:=by have:=xL f k v;omega
  refine wpAny_setItem_pairs (hsz:=p) (pQ D) o λ G i n=>h _ ?_;have O:∃ q,G.get? a=some q:=let ⟨q,_,_,j,_⟩:=i;⟨q,j⟩;exact vP I (by rw[e];exact oz) n O (kER B C (d.put k J) i)
 ·subst m x
  cases(show u=jr b from D)
  obtain⟨z,C,Z,d,o⟩:=kHE I.hok e;have p:Z.length<=sizeLine:=by rw[<-va d];exact z
  have B:(qS f k v).length<=sizeLine:=by have:=xL f k v;omega
  refine wpAny_setItem_heap (hsz:=p) (zq T) (mR I.hok L) o λ G i n=>h _ ?_;obtain⟨q,es,ep,j,h2,S,U,_,N⟩:=i;refine vP I (by rw[e];exact oz) n ⟨q,j⟩ ⟨B,C,_,(d.put k L J).keeps λ c ys M=>?_,q,es,ep,j,h2,S,U,N⟩;rw[kM (wW M e (λ z=>nomatch z))];exact M
end
section
variable {X:Cx} {pins:List (au×Obj)} {σ:St} {H:Hp} {s:ay} {a:au} {kvs:List (Key×V)} {k:Key} {u:ar} {A:gh} {E:ar->ay->Prop}
end
def kVK(i:iH):Prop:=∀ b a,subscripted i false b a=operate [b,a] (getItem b a)
def kOP{prog:eY}{w:iG}{A:gh}{E:ar->ay->Prop}{s:ay}{env:Env}{value a:iH}{j:Pos}{T id:String}{Q:ar->ay->Prop}
  (n:typeLookup (.type T) "__getitem__" = pure (some (.builtin id))) (m:kVK a)
  (h:dq (model prog w) A (eval value env) (λ o s₁=>dq (model prog w) A (eval a env) (λ i s₂=>s₂.TypeIs o T/\dq (model prog w) A (getItem o i) Q E s₂) E s₁) E s) :
  dq (model prog w) A (eval (.Subscript value a j) env) Q E s:=by
 refine Eh (vd h (λ o s₁ f=>vd f (λ i s₂ b=>?_) λ _ _ x=>x) λ _ _ x=>x);obtain⟨l,b⟩:=b;unfold subscriptTail;refine ai ?_;rw[getitemInPython_of_ne l.not_modules];refine ai (Cf l n ?_)
 have d:dq (model prog w) A (subscripted a false o i) (λ r c=>dq (model prog w) A (letTemporaryGo value o r >>= λ _=>pure r) Q E c) E s₂:=by
  rw[m o i];exact wpAny_operating (vd b (λ r c g=>ai (wpAny_letTemporaryGo (bp g))) λ _ _ x=>x)
 first
  | exact bp (ai d)
  | exact ai (bp (ai d))
  | exact ai d
def kCP{X:Cx}{c:List (au×Obj)}{h:St}{H:Hp}{s:ay}{a:au}{y:V}{o:Option V}(I:Inv X c h H s)(g:DGet H a y o):s.TypeIs (.ref a) "dict":=by
 rcases g with⟨d,k,e,_,_⟩ | ⟨d,k,b,e,_,_,_⟩
 ·obtain⟨_,_,j,_,f⟩:=kHG I.hok e
  exact f.typeIs
 ·obtain⟨_,_,i,_,f⟩:=kHD I.hok e
  exact f.typeIs
inductive kKY(Q:VK)(x:V)(y:V)(H2:Hp):Prop
 | mk:∀ a v,(x=.ref a)->(DGet H2 a y (some v))->(Q v H2)->kKY Q x y H2
def kTZ(f b:TE):TE:=λ a H Q=>f a H λ x d=>b a d λ y c=>kKY Q x y c
inductive kAL(Q:VK)(y:V)(x:V)(H2:Hp):Prop
 | mk:∀ a o,(x=.ref a)->(DGet H2 a y o)->(Q (.bl (!o.isSome)) H2)->kAL Q y x H2
def kOO(b f:TE):TE:=λ a H Q=>b a H λ y d=>f a d λ x c=>kAL Q y x c
inductive kLW(D:Ends)(σ:St)(v:V)(x:V)(y:V)(H3:Hp):Prop
 | mk:∀ a H4,(x=.ref a)->(DPut H3 a y v H4)->(D.nx σ H4)->kLW D σ v x y H3
def kUE(h b c:TE):TS:=λ D a H=>c a H λ v g=>h a g λ x d=>b a d λ y f=>kLW D a v x y f
section
variable {X:Cx} {o i e value:iH} {pos pos' tpos:Pos} {td ty tv:TE}
def jT(r:X.A.units+1<cLine)(J:PE X o td)(hi:PE X i ty)(m:kVK i):PE X (.Subscript o i pos) (kTZ td ty):=by
 intro b s d H Q I h;refine kOP PySem.F.slot_dict_getitem.lookup m (thn (J b s d H _ I h) λ u l ⟨x,p,L,j,B⟩=>thn (hi b l d p _ L B) λ M O ⟨y,n,f,q,a,v,D,g,G⟩=>?_);subst D;obtain rfl:u=jr a:=j;exact⟨kCP f g,kKA r f g q λ N S C c=>⟨v,n,C,c,G⟩⟩
def kJB(p:X.A.units+1<cLine)(hi:PE X i ty)(D:PE X o td):PC X .NotIn i o (kOO ty td):=by
 intro b s c H Q I h;refine thn (hi b s c H _ I h) λ J f ⟨y,m,G,n,q⟩=>thn (D b f c m _ G q) λ u L ⟨x,l,j,d,a,B,v,g,C⟩=>?_;subst v;obtain rfl:u=jr a:=d;exact kQI p j g n λ M r=>⟨.bl (!B.isSome),l,r,rfl,C⟩
def uV(B:X.A.units+1<cLine)(T:PE X o td)(hi:PE X i ty)(M:PE X value tv)(j:swapsWith value (some (.Subscript o i pos')) pos.line X.env=pure false) :
  PS X (.Assign [.Subscript o i pos'] value pos) (kUE td ty tv):=by
 intro b s c H D I h;refine wpAny_Assign_Subscript (thn (M b s c H _ I h) λ r f ⟨v,n,U,C,G⟩=>thn (T b f c n _ U G) λ u O ⟨x,m,l,d,Q⟩=>thn (hi b O c m _ l Q) λ iv s3 ⟨y,Y,J,p,a,L,N,g,q⟩=>?_) j;subst N;obtain rfl:u=jr a:=d;exact kJZ B J g p C λ Z S=>⟨c,L,S,q⟩
end
def kNY{P:eY}{w:iG}{H:Hp}(h:iK)(a:sysModules<h.objs.size):ObjOk P w H (h.push {cls:=.type "dict",data:=.dict #[]}) h.objs.size (.dK []) :=
 ⟨iA _,beq_eq_false_iff_ne.mpr (ox (dr a)),[],.nil,Cg h⟩
def kNX{P:eY}{w:iG}{H:Hp}(h:iK)(a:sysModules<h.objs.size):ObjOk P w H (h.push {cls:=.type "dict",data:=.dict #[]}) h.objs.size (.dT []) :=
 ⟨iA _,beq_eq_false_iff_ne.mpr (ox (dr a)),[],.nil,_,#[],0,cg _ rfl,⟨rfl,rfl,rfl⟩,rfl,rfl,yk⟩
def kRQ:TE:=λ _ H Q=>∀ p,H p=none->Q (.ref p) (upd H p (.dT []))
section
variable {X:Cx} {pos:Pos}
def kMM:PE X (.Dict [] [] pos) kRQ:=λ b s c H Q I h =>
 wpAny_Dict_empty ⟨.ref s.heap.objs.size,_,I.laid (a:=s.heap.objs.size) (o:=.dT []) (t':=s.toks) (λ _ _ q=>ao _ q) (be _) (kNX s.heap I.big),rfl,h _ (I.hok.fresh (be _))⟩
end
def kDH:List (TE×TE)->St->Hp->(List (V×V)->Hp->Prop)->Prop
 | [],_,H,Q=>Q [] H
 | (tk,tv)::r,σ,H,Q=>tk σ H λ x c=>tv σ c λ y b=>kDH r σ b λ a d=>Q ((x,y)::a) d
abbrev VV:List (V×V)->List (ar×ar)->Prop:=EC λ p q=>RelV p.1 q.1/\RelV p.2 q.2
def PPs(X:Cx)(d:Pos)(b:List (Option iH))(a:List iH)(c:List (TE×TE)):Prop :=
 ∀(pins:List (au×Obj))(s:ay)(σ:St)(H:Hp)(Q:List (V×V)->Hp->Prop),Inv X pins σ H s->kDH c σ H Q ->
  dq (model X.prog X.w) X.A (evalPairs (pairTrees b a X.env d)) (λ i h=>∃ f g,Inv X pins σ g h/\VV f i/\Q f g) X.xe s
def kGL{X:Cx}{a:Pos}:PPs X a [] [] []:=λ b s c H Q I h=>pairTrees_nil_walk ⟨[],H,I,.nil,h⟩
def bN{X:Cx}{c:Pos}{k v:iH}{g:List (Option iH)}{j:List iH}{tk i:TE}{b:List (TE×TE)}(n:PE X k tk)(L:PE X v i)(p:PPs X c g j b) :
  PPs X c (some k::g) (v::j) ((tk,i)::b):=λ a s d H Q I h =>
 pairTrees_cons_walk (thn (n a s d H _ I h) λ u o ⟨x,B,O,m,G⟩=>thn (L a o d B _ O G) λ S M ⟨y,A,r,C,N⟩ =>
  thn (p a M d A _ r N) λ T U ⟨l,q,J,f,D⟩=>⟨(x,y)::l,q,J,.cons ⟨m,C⟩ f,D⟩)
def yS(kvs more:List (Key×V)):List (Key×V):=more.foldl (λ a b=>qS a b.1 b.2) kvs
def KV.merge:∀{more:List (Key×V)}{b:List (Key×ar)}{kvs:List (Key×V)}{a:List (Key×ar)},KV more b->KV kvs a->KV (yS kvs more) (merged a b):=by
 intro more b kvs a r;unfold KV at r
 induction r generalizing kvs a with
 | nil=>intro q;exact q
 | @cons p q ps qs h t ih =>
  intro c
  have e:KV (qS kvs p.1 p.2) (stored a q.1 q.2):=by
   have:=c.put p.1 h.2;rw[<-h.1];exact this
  exact ih e
theorem aL:∀(more kvs:List (Key×V)),(yS kvs more).length<=kvs.length+more.length
 | [],kvs=>by show kvs.length<=kvs.length+0;omega
 | p::r,kvs=>by
  have h1:=aL r (qS kvs p.1 p.2);have a:=xL kvs p.1 p.2;show(yS (qS kvs p.1 p.2) r).length<=_;rw[iC];omega
theorem nM{P:eY}{w:iG}:∀{kvs:List (Key×V)}{d:List (ar×ar)},VV (kvs.map λ kv=>(kV kv.1,kv.2)) d->∃ rs,Carries (qH P w) d rs/\KV kvs rs
 | [],_,r=>by rw[BB]at r;cases r;exact⟨[],oz,.nil⟩
 | p::kvs,_,r=>by
  rw[gm]at r
  cases r with
  | @cons a b as bs h t =>
   obtain⟨rs,c,q⟩:=nM (P:=P) (w:=w) t;obtain⟨g,f⟩:=b;exact⟨(p.1,f)::rs,⟨pQ h.1,rfl,c⟩,.cons ⟨rfl,h.2⟩ q⟩
def kTY(b:List (TE×TE)):TE:=λ g H Q=>∀ p,H p=none->kDH b g (upd H p (.dK [])) λ f c=>c p=some (.dK [])/\∃ a:List (Key×V),f=a.map (λ d=>(kV d.1,d.2))/\a.length<=15/\Q (.ref p) (upd c p (.dK (yS [] a)))
def kGN{X:Cx}{j:Pos}{b:List (Option iH)}{d:List iH}{g:List (TE×TE)}(h:PPs X j b d g)(f:b.all (·.isSome)=true)(S:b.length=d.length)(h0:b≠[])
  (n:b.length<=15):PE X (.Dict b d j) (kTY g):=by
 intro i s B H Q I q;have A:=I.hok.fresh (be s.heap.objs.size);have N:=I.laid (a:=s.heap.objs.size) (o:=.dK []) (h':=s.heap.push {cls:=.type "dict",data:=.dict #[]}) (t':=s.toks) (λ _ _ q=>ao _ q) (be _) (kNY s.heap I.big);refine wpAny_Dict_walk (knd:=qH X.prog X.w) f S h0 n (thn (h i _ B _ _ N (q _ A)) λ Z s2 ⟨U,Y,r,p,e,l,O,lk,M⟩=>?_);subst O;obtain⟨L,c,C⟩:=nM (P:=X.prog) (w:=X.w) p;obtain⟨z,T,x,v,G⟩:=kHH r.hok e;cases v
 refine⟨L,c,G,λ u m y=>⟨.ref s.heap.objs.size,_,?_,rfl,M⟩⟩
 have J:(yS [] l).length<=sizeLine:=by
  have h1:=aL l [];rw[tm]at h1;rw[Ad];omega
 have D:∃ q,u.get? s.heap.objs.size=some q:=let ⟨q,_,_,hq,_⟩:=m;⟨q,hq⟩;exact vP r (by rw[e];exact oz) y D (kER J T (C.merge .nil) m)
section
variable {X:Cx} {pins:List (au×Obj)} {σ:St} {H:Hp} {s:ay} {a:au} {y d:V} {u r:ar} {o:Option V} {A:gh} {E:ar->ay->Prop}
end
section
variable {X:Cx} {o e f:iH} {apos cpos:Pos} {td ty tx:TE}
end
section
variable {X:Cx} {pins:List (au×Obj)} {σ:St} {H:Hp} {s:ay} {a:au} {kvs:List (Key×V)} {A:gh} {E:ar->ay->Prop}
end
section
variable {X:Cx} {pins:List (au×Obj)} {σ:St} {H:Hp} {s:ay} {a:au} {y:V} {u:ar} {A:gh} {E:ar->ay->Prop}
end
section
variable {κ:Type} [DecidableEq κ]
end
end L2
set_option maxHeartbeats 4000000
namespace L2
open PySem PySem.Spec PyProof.Rows
abbrev TB:=(St->Hp->Prop)->St->Hp->Prop
def PBd(X:Cx)(code:Sem Unit)(b:TB):Prop :=
 ∀(pins:List (au×Obj))(s:ay)(σ:St)(H:Hp)(N:St->Hp->Prop),Inv X pins σ H s->b N σ H ->
  dq (model X.prog X.w) X.A code (λ _ d=>∃ a c,Inv X pins a c d/\N a c) X.xe s
def PTl(X:Cx)(tail:Sem ui)(L:Gg)(b:TB):Prop :=
 ∀(pins:List (au×Obj))(s:ay)(σ:St)(H:Hp)(N:St->Hp->Prop),Inv X pins σ H s->b N σ H ->
  dq (model X.prog X.w) X.A tail (λ c f=>c=.again L/\∃ a d,Inv X pins a d f/\N a d) X.xe s
def yI(b:List iH)(env:Env)(a:Sem Unit)(L:Gg):Sem ui :=
 (forIn b true λ c r=>if r=true then do let ok <-isTrue c env (eval c env);pure (jd ok) else pure (jd r)) >>= λ ok=>if ok=true then a >>= λ _=>again L else again L
def uB(J:It)(g:TG)(b:TB)(j:St->Hp->Prop)(a:St)(H:Hp):Prop :=
 ∃ W:Nat->Nat->St->Hp->Prop,(∃ m,W 0 m a H)/\∀ i m a H,W i m a H ->
  (J.stop i H/\j a H)\/(J.go i H/\∃ N:St->Hp->Prop,(∀ c d,N c d->∃ h,h<m/\W (i+1) h c d)/\∀ x d,J.yld i H x d->g x a d λ f l=>b N f l)
section
variable {X:Cx} {e tg:iH} {gens:List DJ} {sc:vy} {cpos:Pos} {d:Nat} {it:au} {acc:ar} {tail:Sem ui} {p:Pos} {g:TG} {b:TB} {J:It} {fp:List au} {tn:Nat->iK->Prop} {N0:St->Hp->Prop} {R:Result->ay->Prop}
def yT(he:(∃ el,e=.ListComp el gens sc cpos)\/∃ k v,e=.DictComp k v gens sc cpos)(hx:X.xe=λ _ _=>False)(hc:X.calm=true)
  (ht:compTurn e d (.ref it) acc X.env=(standAt p >>= λ _=>pyNext (.ref it) >>= λ r=>match r with
   | none=>pure (.done .next)
   | some v=>letOwnedTupleGo tg (.ref it) v >>= λ _=>assign tg X.env v >>= λ _=>tail))
  (T:Turn X.prog X.w X.K tg J fp it tn) (hg:PG X tg g) (f:PTl X tail (.compLoop e d (.ref it) acc X.env) b) {a:List (au×Obj)} {O:St} {H:Hp} {s:ay}
  (I:Inv X a O H s) (st:tn 0 s.heap) (f2:∀ b∈fp,zF X a H b) (hw:uB J g b N0 O H)
  (hR:∀ σ' H' s',Inv X a σ' H' s'->N0 σ' H'->R (.ok .next) s') :
  codeAny (model X.prog X.w) X.A (.compLoop e d (.ref it) acc X.env) R s:=by
 obtain⟨W,⟨m0,w0⟩,turn⟩:=hw;have c:∀{H':Hp},(∀ b∈fp,H' b=none)->∀ b∈fp,zF X a H' b:=λ hn b f=>⟨hn b f,(f2 b f).2⟩;refine codeAny_loop rfl (λ n s'=>∃ i σ' H',Inv X a σ' H' s'/\tn i s'.heap/\(∀ b∈fp,H' b=none)/\W i n σ' H') ?_ m0 ⟨0,O,H,I,st,λ b f=>(f2 b f).1,w0⟩;rintro n U ⟨i,j,M,I3,B,y,w3⟩
 have l:(model X.prog X.w).den (.compLoop e d (.ref it) acc X.env)=((compTurn e d (.ref it) acc X.env).onRaise (λ x=>do noteFrame x X.env;theTreesLotGoes x))/\X.A.under (.compLoop e d (.ref it) acc X.env)=X.A:=by
  rcases he with⟨el,rfl⟩ | ⟨k,v,rfl⟩<;>exact⟨rfl,rfl⟩
 rw[l.1,l.2];show dq _ _ ((compTurn e d (.ref it) acc X.env).onRaise (λ x=>do noteFrame x X.env;theTreesLotGoes x)) _ _ U;refine wpAny_noted ?_;rw[ht]
 have C:∀{α:Type}{t:Sem α}{Q:α->ay->Prop}{E:ar->ay->Prop}{s:ay},dq (model X.prog X.w) X.A t Q X.xe s->dq (model X.prog X.w) X.A t Q E s :=
  λ h=>vd h (λ _ _ q=>q) λ _ _ q=>by rw[hx]at q;exact q.elim
 refine ai (ve (ai ?_));rcases turn i n j M w3 with⟨stop,qn⟩ | ⟨go,N,hN,step⟩
 ·refine C (thn (T.done X rfl rfl rfl hc i a U j M X.xe I3 (c y) B stop) λ r s4 ⟨L,I4⟩=>?_)
  subst L;exact bp (hR _ _ _ I4 qn)
 ·refine C (thn (T.item X rfl rfl rfl hc i a U j M X.xe I3 (c y) B go) λ r s4 ⟨u,L,h4⟩=>?_)
  subst L;refine ai (C (thn h4 λ _ s5 ⟨x,H5,I5,r5,y5,m,S⟩=>?_));have Y:=I5.pinned (c S) (T.obj _ _ m);refine ai (C (thn (hg _ s5 j H5 x u _ Y r5 (step x H5 y5)) λ _ s6 ⟨Z,H6,I6,q6⟩=>?_));refine C (thn (f _ s6 Z H6 _ I6 q6) λ a0 s7 ⟨hf,D,H7,G,n7⟩=>?_);subst hf;obtain⟨m',hm,w7⟩:=hN D H7 n7;refine⟨rfl,m',hm,i+1,D,H7,G.unpinned,T.keep _ _ _ m λ b f o e=>(G.pin (b,o) (dj _ (dj _ (vL f e)))).1,λ b f=>?_,w7⟩;obtain⟨o,e,d⟩:=T.obj _ _ m b f;exact(G.pin (b,o) (dj _ (dj _ (vL f e)))).2.1
end
def bIf(t:TT)(b:TB):TB:=λ N a H=>t a H λ c d=>if c=true then b N a d else N a d
def qT{X:Cx}{a:Sem Unit}{L:Gg}{b:TB}(d:PBd X a b):PTl X (yI [] X.env a L) L b:=by
 intro c s f H N I h;unfold yI;refine ai (ES ?_);show dq _ _ (a >>= λ _=>again L) _ _ s;exact ai (thn (d c s f H N I h) λ _ g q=>bp ⟨rfl,q⟩)
def zQ{X:Cx}{c:iH}{t:TT}{d:Sem Unit}{L:Gg}{b:TB}(l:PT X c t)(j:PBd X d b):PTl X (yI [c] X.env d L) L (bIf t b):=by
 intro a s f H N I h;unfold yI;refine ai (wpAny_tests_one (thn (l a s f H _ I h) λ ok m ⟨i,g,q⟩=>?_))
 cases ok with
 | true=>exact ai (thn (j a m f i N g (by simpa using q)) λ _ n q=>bp ⟨rfl,q⟩)
 | false=>exact bp ⟨rfl,f,i,g,by simpa using q⟩
def kWF(D:au)(d:TE):TB:=λ N b H=>d b H λ x c=>∃ a,c D=some (.lst a)/\a.length<sizeLine/\N b (upd c D (.lst (a++[x])))
def jL{X:Cx}{d:iH}{f:TE}{D:au}(l:PE X d f):PBd X (do let _ <-call (.builtin "list.append") [.ref D,<-eval d X.env]) (kWF D f):=by
 intro a s b H N I h;refine ai (thn (l a s b H _ I h) λ u i ⟨x,m,v,r,o,g,n,q⟩=>?_);refine ai (thn (jW a i b m (.ref D) [x] (.ref D) [u] (λ _ c=>N b c) v rfl (.cons r .nil) ⟨D,o,x,rfl,rfl,g,n,q⟩) λ _ y ⟨_,c,j,_,p⟩=>?_);exact bp ⟨b,c,j,p⟩
def kFC(f d iter:iH)(c:List iH)(g:vy)(a:Pos)(it b:ar)(env:Env) :
  compTurn (.ListComp f [⟨d,iter,c,0⟩] g a) 0 it b env=(standAt iter.pos >>= λ _=>pyNext it >>= λ r=>match r with
   | none=>pure (.done .next)
   | some v=>letOwnedTupleGo d it v >>= λ _=>assign d env v >>= λ _=>yI c env (do let _ <-call (.builtin "list.append") [b,<-eval f env]) (.compLoop (.ListComp f [⟨d,iter,c,0⟩] g a) 0 it b env)):=by rfl
def kKT(b:List iH)(env:Env)(a:iH)(next:ar->Gg)(L:Gg):Sem ui :=
 (forIn b true λ c r=>if r=true then do let ok <-isTrue c env (eval c env);pure (jd ok) else pure (jd r)) >>= λ ok=>if ok=true then
  (eval a env >>= λ x=>standAt a.pos >>= λ _=>foldedSetIterable a env x >>= λ x=>holding [x] (pyIter x) >>= λ i=>runOwn (next i) env >>= λ _=>again L) else again L
def kKP(l h iter f a:iH)(d b:List iH)(j:vy)(c:Pos)(it g:ar)(env:Env) :
  compTurn (.ListComp l [⟨h,iter,d,0⟩,⟨f,a,b,0⟩] j c) 0 it g env=(standAt iter.pos >>= λ _=>pyNext it >>= λ r=>match r with
   | none=>pure (.done .next)
   | some v=>letOwnedTupleGo h it v >>= λ _=>assign h env v >>= λ _=>kKT d env a (λ i=>.compStart (.ListComp l [⟨h,iter,d,0⟩,⟨f,a,b,0⟩] j c) 1 i g env) (.compLoop (.ListComp l [⟨h,iter,d,0⟩,⟨f,a,b,0⟩] j c) 0 it g env)):=by rfl
def kKO(h j iter c a:iH)(g b:List iH)(i:vy)(d:Pos)(it f:ar)(env:Env) :
  compTurn (.ListComp h [⟨j,iter,g,0⟩,⟨c,a,b,0⟩] i d) 1 it f env=(standAt a.pos >>= λ _=>pyNext it >>= λ r=>match r with
   | none=>pure (.done .next)
   | some v=>letOwnedTupleGo c it v >>= λ _=>assign c env v >>= λ _=>yI b env (do let _ <-call (.builtin "list.append") [f,<-eval h env]) (.compLoop (.ListComp h [⟨j,iter,g,0⟩,⟨c,a,b,0⟩] i d) 1 it f env)):=by rfl
def vR(env:Env)(a:List (Str×au))(y:Str×sk):List (Str×au) :=
 if(y.2 == .free)=true then(match env.cells.lookup y.1 with | some c=>(y.1,c)::a | none=>a) else a
def aD(a:vy)(env:Env):List (Str×au):=a.names.foldl (vR env) []
def tZ(env:Env)(x:Str×sk)(r:List (Str×au)):Sem (ForInStep (List (Str×au))) :=
 match x with | (name,kind)=>if(kind == .free)=true then(do let a <-cellOf env name;pure (jd ((name,a)::r))) else pure (jd r)
def kKC{env:Env}{y:Str×sk}{b:List (Str×au)}(h:y.2=.free->∃ c,env.cells.lookup y.1=some c):tZ env y b=pure (jd (vR env b y)):=by
 obtain⟨n,k⟩:=y;unfold tZ vR
 cases hk:k == Bo with
 | false=>simp[hk]
 | true =>
  obtain⟨c,d⟩:=h (by simpa using hk);have a:List.lookup n env.cells=some c:=d;simp only[hk,if_true,cellOf,a,pure_bind]
theorem nK{env:Env}:∀(l:List (Str×sk))(a:List (Str×au)),(∀ y∈l,y.2=.free->∃ c,env.cells.lookup y.1=some c) ->
  (forIn l a (tZ env):Sem (List (Str×au)))=pure (l.foldl (vR env) a)
 | [],a,_=>rfl
 | y::r,a,h=>by
  rw[zh,kKC (h y fc),pure_bind,vh];exact nK r _ λ y b=>h y (eD _ b)
def yU{a:vy}{env:Env}(h:∀ y∈a.names,y.2=.free->∃ c,env.cells.lookup y.1=some c):closureFor a env=pure (aD a env):=by
 have q:=nK (env:=env) a.names [] h;have z:closureFor a env=(forIn a.names [] (tZ env) >>= λ r=>pure r):=rfl;rw[z,q]
 rfl
theorem cM{env:Env}{x:Str}{c:au}:∀(l:List (Str×sk))(a:List (Str×au)),(a.lookup x=some c->env.cells.lookup x=some c)->(l.foldl (vR env) a).lookup x=some c->env.cells.lookup x=some c
 | [],a,h,e=>h e
 | (n,k)::r,a,h,e=>by
  rw[vh]at e;refine cM r _ (λ z=>?_) e;unfold vR at z
  split at z
  ·split at z
   ·rename_i c' hc
    rw[AO]at z
    split at z
    ·rename_i hx
     have:x=n:=by simpa using hx
     subst this;cases z
     exact hc
    ·exact h z
   ·exact h z
  ·exact h z
theorem kET{env:Env}{x:Str}:∀(l:List (Str×sk))(a:List (Str×au)),(∃ c,env.cells.lookup x=some c)->((∃ c,a.lookup x=some c)\/(x,Bo)∈l)->∃ c,(l.foldl (vR env) a).lookup x=some c
 | [],a,_,h=>h.elim id (λ z=>nomatch z)
 | (n,k)::r,a,he,h=>by
  rw[vh];refine kET r _ he ?_;rcases h with⟨c,h⟩ | h
  ·left
   unfold vR
   split
   ·split
    ·rename_i c' b
     rw[AO]
     split
     ·exact⟨_,rfl⟩
     ·exact⟨c,h⟩
    ·exact⟨c,h⟩
   ·exact⟨c,h⟩
  ·rcases eK.mp h with z | z
   ·cases z
    obtain⟨c,b⟩:=he
    left
    refine⟨c,?_⟩;unfold vR;simp[b]
   ·exact .inr z
structure CS(sc S0:vy):Prop where
 kind:sc.kind=.function
 names:∀ y∈sc.names,y.2=.local->sc.names.lookup y.1=some .local
 nocell:∀ y∈sc.names,y.2≠.cell
 free:∀ y∈sc.names,y.2=.free->S0.names.lookup y.1=some .cell
def zP(env:Env)(y:Str×sk):Str×sk:=if(y.2 == .free && env.scope.kind == .function && env.kindOf y.1 == some .cell)=true then(y.1,.cell) else(y.1,y.2)
def kDT(env:Env)(y:Str×sk):(zP env y).1=y.1:=by
 unfold zP
 split<;>rfl
theorem lZ{env:Env}{x:Str}:∀(l:List (Str×sk)),(l.map (zP env)).lookup x=(l.lookup x).map λ k=>(zP env (x,k)).2
 | []=>rfl
 | (n,k)::r=>by
  rw[gm];have e:zP env (n,k)=(n,(zP env (n,k)).2):=wb (kDT env (n,k)) rfl;rw[e,AO,AO]
  cases hx:x == n with
  | true =>
   have:x=n:=by simpa using hx
   subst this
   rfl
  | false=>exact lZ r
def cxC(X:Cx)(Nc:List Str)(d:vy)(C:au)(b:ay)(c:Hp)(f:List au)(a:List (au×Obj)):Cx :=
 {X with N:=Nc,s₀:=b,H₀:=c,env:=compEnvC d (aD d X.env) C X.env,outer:=X.stack,ex:=f,fn:=λ _=>false,pn:=X.pn++a}
def dO(js:List (Option Nat))(a:St):St:=js.map λ o=>o.bind λ j=>(a[j]?).join
def cN(js:List (Option Nat))(Nc N:List Str)(names:List (Str×sk)):Bool :=
 decide (js.length=Nc.length) && (js.zip Nc).all λ(o,x)=>match o with | none=>true | some j=>decide (N[j]?=some x) && decide (names.lookup x=some .free)
def kTM{js:List (Option Nat)}{Nc N:List Str}{names:List (Str×sk)}(h:cN js Nc N names=true):js.length=Nc.length/\∀(i j:Nat)(x:Str),js[i]?=some (some j)->Nc[i]?=some x->N[j]?=some x/\names.lookup x=some .free:=by
 unfold cN at h;rw[iI]at h;refine⟨of_decide_eq_true h.1,λ i j x b a=>?_⟩
 have z:(js.zip Nc)[i]?=some (some j,x):=by
  rw[mf];exact⟨b,a⟩
 have q:=wk.mp h.2 _ (cv z);dsimp only at q;rw[iI]at q;exact⟨of_decide_eq_true q.1,of_decide_eq_true q.2⟩
section
variable {X:Cx} {pins:List (au×Obj)} {σ:St} {H:Hp} {s:ay} {sc:vy} {Nc:List Str} {js:List (Option Nat)} {fp:List au}
def kPN(I:Inv X pins σ H s)(S:CS sc X.env.scope)(f:∀ b∈fp,zF X pins H b)(j:∀ b∈fp,b<s.heap.objs.size){C:au}(hC:s.heap.objs.size<=C):(cxC X Nc sc C s H fp pins).Ok:=by
 have d:∀ x c,(aD sc X.env).lookup x=some c->X.env.cells.lookup x=some c:=λ x c e=>cM sc.names [] (λ z=>nomatch z) e;refine⟨I.ok.mod,S.kind,I.ok.glob,I.ok.blt,hC,λ x y c D q=>I.ok.inj x y c (d x c D) (d y c q),λ x J=>?_,λ x c z=>(nomatch z),I.ok.hd,I.ok.frames,.inl rfl,λ b g=>⟨?_,λ x c e=>(f b g).2.2.2.2.1 x c (d x c e)⟩,I.bs,je I.ok.bsz I.sz,λ b o e g=>?_,λ b g u=>?_,I.stack,I.stkFree⟩
 ·have a:(sc.names.map (zP X.env)).lookup x=some .cell\/(sc.names.map (zP X.env)).lookup x=some .free:=J
  rw[lZ]at a
  cases e:sc.names.lookup x with
  | none=>rw[e]at a;rcases a with z | z<;>cases z
  | some k =>
   rw[e]at a;have m:(x,k)∈sc.names:=mh e
   have r:k=.free:=by
    have B:=S.nocell _ m;unfold zP at a;by_cases l:(k == Bo)=true
    ·simpa using l
    ·have i:(k == Bo)=false:=by simpa using l
     simp only[i,Ec,xb]at a;rcases a with z | z
     ·exact absurd (by simpa using z) B
     ·simpa using z
   subst r;have h:=S.free _ m rfl;obtain⟨c,A⟩:=I.ok.has x (.inl h);exact kET sc.names [] ⟨c,A⟩ (.inr m)
 ·exact dr (cw (j b g) hC)
 ·obtain⟨h0,h1,p,n,G,v⟩:=f b g
  rcases n with z | z
  ·exact I.ok.noex b o e z
  ·exact absurd (cw (cf (I.ok.bs b o e).1) z) (qj _)
 ·obtain⟨h0,h1,p,n,G,v⟩:=f b g
  rcases eK.mp (I.stkSub b u) with z | z
  ·exact h1 z
  ·exact p z
def wX(I:Inv X pins σ H s)(S:CS sc X.env.scope)(f:∀ b∈fp,zF X pins H b)(T:∀ b∈fp,b<s.heap.objs.size)(Q:cN js Nc X.N sc.names=true){C D:au}{o:HO}{g:iK}{m:Str->Option ar}{tk:Nat}
  (hC:s.heap.objs.size<=C) (n:s.heap.objs.size<=D) (L:D≠C) (y:∀ b ob,s.heap.get? b=some ob->g.get? b=some ob) (M:g.Ns C m) (new:ObjOk X.prog X.w (upd H D o) g D o) :
  Inv (cxC X Nc sc C s H fp pins) [] (dO js σ) (upd H D o) {s with heap:=g,toks:=tk}:=by
 have l:∀ x c,(aD sc X.env).lookup x=some c->X.env.cells.lookup x=some c:=λ x c e=>cM sc.names [] (λ z=>nomatch z) e;have fresh:∀ a,s.heap.objs.size<=a->H a=none:=λ a Z=>I.hok.fresh Z;obtain⟨cl,cp⟩:=kTM Q;refine⟨kPN I S f T hC,rfl,I.bare,Un.laid y n (fresh D n),⟨m,M,λ i x v e1 h e3=>?_⟩,λ x c e=>?_,?_,λ x c e=>?_,λ p hp=>?_,I.hok.laid y n new,?_⟩
 ·-- a name of the frame's
  unfold dO at h;rw[az]at h
  cases ej:js[i]? with
  | none=>rw[ej]at h;cases h
  | some oj =>
   rw[ej]at h
   cases oj with
   | none=>cases h
   | some j =>
    obtain⟨hN,d⟩:=cp i j x ej e1
    have hv:σ[j]?=some (some v):=by
     simp only[xb,Option.bind_some,Gb]at h
     cases e:σ[j]? with
     | none=>rw[e]at h;cases h
     | some w=>rw[e]at h;exact congrArg some h
    have O:X.env.kindOf x=some .cell:=S.free _ (mh d) rfl;obtain⟨m',a0,hl⟩:=I.loc;obtain⟨u,r,lk⟩:=hl j x v hN hv (.inr (.inl O));refine⟨u,r,.inr ⟨.inl ?_,?_⟩⟩
    ·show(sc.names.map (zP X.env)).lookup x=some .cell
     rw[lZ,d];unfold zP;simp[I.ok.kind,O]
    ·rcases lk with⟨z,_⟩ | ⟨_,c,U,B⟩
     ·rw[O]at z;cases z
     ·obtain⟨J,A⟩:=kET sc.names [] ⟨c,U⟩ (.inr (mh d))
      have:J=c:=bg ((l x J A).symm.trans U);subst this;exact⟨J,A,B.keeps y⟩
 ·obtain⟨v,B⟩:=I.cell x c (l x c e)
  exact⟨v,B.keeps y⟩
 ·show upd H D o C=none
  rw[kM L.symm];exact fresh C hC
 ·have q:=l x c e
  obtain⟨v,B⟩:=I.cell x c q;show upd H D o c=none;rw[kM (dr (cw B.lt n))];exact I.freeC x c q
 ·have G:p∈X.pn++pins:=by
   rcases ck.mp hp with z | z
   ·exact z
   ·exact absurd z (by simp)
  obtain⟨Y,a2,a3,a4,a5⟩:=I.pin p G;have lt:=cf Y;refine⟨y _ _ Y,?_,dr (cw lt hC),λ z=>?_,a5⟩
  ·rw[kM (dr (cw lt n))]
   exact a2
  ·rcases eK.mp (I.stkSub _ z) with z | z
   ·exact a3 z
   ·exact a4 z
 ·unfold dO
  rw[aj];exact cl
def wY{C:au}{j:St}{H':Hp}{i:ay}{h':iK}(I:Inv X pins σ H s)(f:∀ b∈fp,zF X pins H b)(hC:s.heap.objs.size<=C)(J:Inv (cxC X Nc sc C s H fp pins) [] j H' i)(m:iz C i.heap h') :
  Inv X pins σ H' {i with heap:=h'}:=by
 have u:=J.base;have r:H' C=none:=J.free;have stay:∀ b a,b≠C->i.heap.get? b=some a->h'.get? b=some a:=λ b a g e=>m.extBut b a g e;have d:∀ b a,s.heap.get? b=some a->b≠C:=λ b a e=>dr (cw (cf e) hC);refine I.call' (ch:=fp) J.os ?_ (λ b v e=>?_) J.bare λ b g=>⟨(f b g).2.2.2.1,(f b g).2.1,(f b g).2.2.2.2.1,(f b g).2.2.2.2.2⟩
 ·refine⟨λ b a e n h1 h=>stay b a (d b a e) (u.keep b a e n h1 h),λ b a e n h1 h=>?_,u.free,λ b a e h=>?_,u.tups,u.frzs,u.tbls⟩
  ·obtain⟨x,q⟩:=u.slot b a e n h1 h
   exact⟨x,stay b _ (d b a e) q⟩
  ·obtain⟨o,q⟩:=u.there b a e h
   exact⟨o,stay b _ (d b a e) q⟩
 ·have l:∀ c w,H' c=some w->c≠C:=λ c w e z=>by rw[z,r]at e;cases e
  refine(J.hok b v e).stay (λ c w p q=>stay c w ?_ q) (λ _ q=>q) λ _ _ q=>q;rcases p with z | z
  ·rw[z];exact l b v e
  ·exact l c _ z
end
section
variable {X:Cx} {e tg iter el:iH} {ifs:List iH} {gens rest:List DJ} {sc:vy} {pos:Pos} {Nc:List Str} {js:List (Option Nat)} {wi:TI}
def yD{prog:eY}{w:iG}{A:gh}{env:Env}{R:Result->ay->Prop}{s:ay}{d:Nat}{it a:ar}{g:DJ}(i:(∃ el,e=.ListComp el gens sc pos)\/∃ k v,e=.DictComp k v gens sc pos)
  (c:(clausesOf e)[d]?=some g) (f:g.is_async=0)
  (h0:codeAny (model prog w) A (.compLoop e d it a env) R s)
  (h:dq (model prog w) A (pyIter it) (λ it' s'=>codeAny (model prog w) A (.compLoop e d it' a env) R s') (λ _ _=>False) s) :
  codeAny (model prog w) A (.compStart e d it a env) R s:=by
 refine codeAny_of_tree ?_
 have b:(model prog w).den (.compStart e d it a env)=((compStart e d it a env).onRaise (λ x=>do noteFrame x env;standAt theWindowsPlace))/\A.under (.compStart e d it a env)=A:=by
  rcases i with⟨el,rfl⟩ | ⟨k,v,rfl⟩<;>exact⟨rfl,rfl⟩
 have m:∀ d it a,(Code.compLoop e d it a env).quiet=true:=λ _ _ _=>rfl;rw[b.1,b.2];refine wpAny_notedAt ?_;unfold compStart;rw[c];have l:((some g).elim false λ x=>x.is_async != 0)=false:=by show(g.is_async != 0)=false;rw[f];rfl
 rw[l];show dq _ _ (ask >>= _) _ _ s;refine ai (wpAny_askSetting (wpAny_ite ?_))
 split
 ·first
   | exact ai (bp (bp (Fm rfl h0)))
   | exact bp (Fm rfl h0)
 ·refine ai (vf ?_)
  show dq _ _ (standAt g.iter.pos >>= _) _ _ s;exact ai (ve (ai (vd h (λ it' s' j=>bp (Fm rfl j)) λ _ _ x=>x.elim)))
def tLC(js:List (Option Nat))(d:TI)(g:TG)(bd:au->TB):TE:=λ a H Q=>d a H λ J b=>∀ D,b D=none->uB J g (bd D) (λ _ c=>Q (.ref D) c) (dO js a) (upd b D (.lst []))
def xG{g:TG}{bd:au->TB}(hx:X.xe=λ _ _=>False)(hc:X.calm=true)(hi:PI X tg iter wi)(S:CS sc X.env.scope)(a2:cN js Nc X.N sc.names=true)
  (hg:∀ C s₂ H₂ fp pins,PG (cxC X Nc sc C s₂ H₂ fp pins) tg g)
  (l:∀ C s₂ H₂ fp pins D L,PTl (cxC X Nc sc C s₂ H₂ fp pins) (yI ifs (cxC X Nc sc C s₂ H₂ fp pins).env (do let _ <-call (.builtin "list.append") [.ref D,<-eval el (cxC X Nc sc C s₂ H₂ fp pins).env]) L) L (bd D))
  (hs:∀ x,foldedSetIterable iter X.env x=pure x:=by intro _;rfl) :
  PE X (.ListComp el [⟨tg,iter,ifs,0⟩] sc pos) (tLC js wi g bd):=by
 intro pins s σ H Q I h;rw[eval_ListComp];have a1:closureFor sc X.env=pure (aD sc X.env):=yU λ y hy hf=>I.ok.has y.1 (.inl (S.free y hy hf));refine ni (use:=none) rfl hs a1 S.kind S.names (thn (hi pins s σ H _ I h) λ v s1 h1=>thn h1 λ a4 f h2=>?_);obtain⟨it,fp,tn,J,O,e,Z,T,M,f2,hw⟩:=h2;subst e;have r:∀ b∈fp,b<f.heap.objs.size:=λ b l=>let ⟨o,ho,_⟩:=T.obj _ _ M b l;cf ho;refine ir (qm S.nocell (by intro y hy;simp at hy) (λ i d a=>?_) S.kind);dsimp only at d a ⊢;generalize n:f.heap.push {cls:=.type "list",dict:=none,data:=.seq ([]:List ar).toArray}=G at d a ⊢;have a6:G.objs.size=f.heap.objs.size+1:=by rw[<-n,iZ]
 have u:f.heap.objs.size≠G.objs.size:=by omega
 have j:f.heap.objs.size<=G.objs.size:=by omega
 have B:∀ b o,f.heap.get? b=some o->i.get? b=some o:=λ b o e=>a.extBut b o (dr (cw (cf e) j)) (ao _ (n ▸ ao _ e));have U:i.get? f.heap.objs.size=some {cls:=.type "list",dict:=none,data:=.seq ([]:List ar).toArray}:=a.extBut _ _ u (ao _ (n ▸ cg _ rfl));have new:ObjOk X.prog X.w (upd O f.heap.objs.size (.lst [])) i f.heap.objs.size (.lst []):=⟨iA _,[],_,.nil,U⟩;have I4:=wX (js:=js) (Nc:=Nc) (tk:=f.toks+([]:List (Str×ar)).length) Z S f2 r a2 j (be _) u B d new;have hn:O f.heap.objs.size=none:=Z.fresh
 have f4:∀ b∈fp,zF (cxC X Nc sc G.objs.size f O fp pins) [] (upd O f.heap.objs.size (.lst [])) b:=λ b l=>by
  obtain⟨h0,h1,h2,h3,h4,h5⟩:=f2 b l;refine⟨?_,dr (cw (r b l) j),λ z=>?_,.inl l,λ x c z=>?_,λ p hp=>?_⟩
  ·rw[kM (dr (r b l))];exact h0
  ·rcases eK.mp (Z.stkSub b z) with q | q
   ·exact h1 q
   ·exact h2 q
  ·exact h4 x c (cM sc.names [] (λ z=>nomatch z) z)
  ·rcases ck.mp hp with z | z
   ·exact h5 p z
   ·exact absurd z (by simp)
 have Y:tn 0 i:=T.keep _ _ _ M λ b l o e=>B b o e
 have m:codeAny (model X.prog X.w) X.A (.compLoop (.ListComp el [⟨tg,iter,ifs,0⟩] sc pos) 0 (.ref it) (.ref f.heap.objs.size) (compEnvC sc (aD sc X.env) G.objs.size X.env))
   (compPost (model X.prog X.w) X.A X.xe none (EP X pins σ Q) (.ref f.heap.objs.size) G.objs.size) {f with heap:=i,toks:=f.toks+([]:List (Str×ar)).length}:=by
  refine yT (X:=cxC X Nc sc G.objs.size f O fp pins) (.inl ⟨el,rfl⟩) hx hc (kFC _ _ _ _ _ _ _ _ _) T (hg _ _ _ _ _) (l _ _ _ _ _ _ _) I4 Y f4 (hw _ hn) λ a5 H' s' I' q=>?_;obtain⟨m',a3,_⟩:=I'.loc;exact⟨m',a3,λ h' a0=>⟨.ref f.heap.objs.size,H',wY Z f2 j I' a0,rfl,q⟩⟩
 exact yD (.inl ⟨el,rfl⟩) rfl rfl m (T.self _ _ _ _ _ Y m)
end
section
variable {X:Cx}
inductive kGG(x:V)(vs:List V)(H:Hp)(Q:VK):Prop
 | mk:∀ l xs i y,(x=.ref l)->(vs=[.int i,y])->(H l=some (.lst xs))->(0<=i)->(i<2 ^ 62)->(xs.length<sizeLine)->(Q .non (upd H l (.lst (xs.take i.toNat++y::xs.drop i.toNat))))->kGG x vs H Q
def pO:MtM X "list.insert" kGG:=by
 intro d s p H x C v B Q I g m h;obtain⟨l,D,i,y,rfl,rfl,f,h1,G,A,q⟩:=h;cases g
 obtain⟨u,w,rfl,⟨t,rfl⟩,c⟩:=m.two;obtain⟨z,a,n,r,J,e⟩:=I.lstM f
 refine zo F.slot_list_insert ⟨_,e,rfl⟩ F.entry_list_insert (F.args_list_insert_3 _ _ _)
  (AutoSeq1.list_insert_list_int_val_1 l a.toArray n i t w (by rw[El (by omega) (by omega)];decide) (by rw[fb];omega)) ⟨e,?_⟩
 refine⟨.non,_,I.lset (its':=a.take i.toNat++w::a.drop i.toNat) f e ?_ ((r.take i.toNat).append (.cons c (r.drop i.toNat))) ?_,rfl,q⟩
 ·have o:¬ i<0:=by omega
  simp only[o,if_false,fb];apply Array.toList_inj.mp;simp;by_cases j:i.toNat<=a.length
  ·rw[kq j,ki (l:=Gh i.toNat a) (by rw[iN];omega)]
  ·have b:a.length<=i.toNat:=by omega
   rw[Nat.min_eq_right b,ki (be _),ki b,ml (be _),ml b,List.take_nil]
 ·simp only[bj,cx,iC,iN]
  omega
def cU(a:List Int)(n:Int)(j:Nat):Prop:=a[j]?=some n/\∀ m:Nat,m<j->a[m]?≠some n
def wK{b:List Int}{a:List ar}(r:Vals (b.map V.int) a){m:Nat}(f:m<a.length):∃ k t,b[m]?=some k/\a[m]=ug k t:=by
 have g:=r.length;rw[aj]at g;have d:m<b.length:=by omega
 obtain⟨u,c,q⟩:=r.get (i:=m) (x:=.int b[m]) (by rw[az,ae d];rfl);obtain⟨t,rfl⟩:=q;refine⟨b[m],t,ae d,?_⟩;rw[ae f]at c;exact bg c
def fN(n:Int)(v:ar):Bool:=match v with | .int k _=>k == n | _=>false
def vE{b:List Int}{a:List ar}(r:Vals (b.map V.int) a)(n:Int)(t:Tok):∀ y,y∈a.toArray->MeetsSeq.EqGives y (.int n t) (fN n y):=λ y c=>by
 obtain⟨m,d,rfl⟩:=eZ.mp (List.mem_toArray.mp c);obtain⟨k,f,_,e⟩:=wK r d;rw[e];exact GP _ _ _ _
def dN{d:List Int}{a:List ar}(r:Vals (d.map V.int) a){n:Int}{j:Nat}(h:cU d n j):∃ hj:j<a.toArray.size,fN n a.toArray[j]=true/\∀ m (g:m<a.toArray.size),m<j->fN n a.toArray[m]=false:=by
 have l:=r.length;rw[aj]at l;have hj:j<d.length:=(ak.mp h.1).1;have b:j<a.length:=by omega
 refine⟨by rw[fb];exact b,?_,λ m g i=>?_⟩
 ·obtain⟨k,t,c,f⟩:=wK r b
  rw[h.1]at c;cases c
  simp[f,fN]
 ·rw[fb]at g
  obtain⟨k,t,c,f⟩:=wK r g;have:k≠n:=λ z=>h.2 m i (by rw[c,z]);simp[f,fN,this]
inductive kMD(x:V)(vs:List V)(H:Hp)(Q:VK):Prop
 | mk:∀(l:au)(ns:List Int)(n:Int)(j:Nat),(x=.ref l)->(vs=[.int n])->(H l=some (.lst (ns.map V.int)))->(cU ns n j)->(Q (.int j) H)->kMD x vs H Q
def yN:MtM X "list.index" kMD:=by
 intro b s y H x B v A Q I d i h;obtain⟨l,C,n,j,rfl,rfl,o,c,q⟩:=h;cases d
 obtain⟨u,rfl,t,rfl⟩:=i.one;obtain⟨z,a,m,r,D,e⟩:=I.lstM o;obtain⟨h1,p,g⟩:=dN r c
 have f:(j:Int)<2 ^ 63-1:=by
  have:=dI;rw[fb]at h1;omega
 refine zo F.slot_list_index ⟨_,e,rfl⟩ F.entry_list_index (F.args_list_index_2 _ _) (MeetsSeq.list_index l a.toArray m (.int n t) (fN n) (vE r n t) j h1 f p g) ⟨e,?_⟩;exact⟨.int j,H,I.tok _,⟨_,rfl⟩,q⟩
inductive kGF(x:V)(vs:List V)(H:Hp)(Q:VK):Prop
 | mk:∀(l:au)(ns:List Int)(n:Int)(j:Nat),(x=.ref l)->(vs=[.int n])->(H l=some (.lst (ns.map V.int)))->(cU ns n j)->(Q .non (upd H l (.lst ((ns.eraseIdx j).map V.int))))->kGF x vs H Q
theorem vM{α β:Type}(f:α->β):∀(l:List α)(j:Nat),(l.eraseIdx j).map f=(l.map f).eraseIdx j
 | [],j=>by simp
 | x::r,0=>by simp
 | x::r,j+1=>by simp[vM f r j]
def pN:MtM X "list.remove" kGF:=by
 intro b s y H x B v A Q I f i h;obtain⟨l,o,n,j,rfl,rfl,c,d,q⟩:=h;cases f
 obtain⟨u,rfl,t,rfl⟩:=i.one;obtain⟨z,a,m,r,C,e⟩:=I.lstM c;obtain⟨h1,p,g⟩:=dN r d;refine zo F.slot_list_remove ⟨_,e,rfl⟩ F.entry_list_remove (F.args_list_remove_2 _ _) (MeetsSeq.list_remove l a.toArray m (.int n t) (fN n) (vE r n t) j h1 p g (by rw[fb];omega)) ⟨e,?_⟩;refine⟨.non,_,I.lset (its':=a.eraseIdx j) c e ?_ (by rw[vM];exact r.eraseIdx j) ?_,rfl,q⟩
 ·show a.toArray.eraseIdxIfInBounds j=(a.eraseIdx j).toArray
  rw[List.eraseIdxIfInBounds_toArray]
 ·rw[aj]
  have:=pP o j;rw[aj]at z;omega
end
def aQ{lo:Int}{n:Nat}{g:TG}{b:TB}{c:St->Hp->Prop}{a:St}{H:Hp}(Pv:Nat->St->Hp->Prop)(h0:Pv 0 a H)
  (f:∀ i a H,i<n->Pv i a H->g (.int (lo+i)) a H λ σ2 H2=>b (Pv (i+1)) σ2 H2) (r:∀ a H,Pv n a H->c a H):uB (Itr lo n) g b c a H:=by
 refine⟨λ i m a H=>m=n-i/\i<=n/\Pv i a H,⟨n,by simp,iA _,h0⟩,?_⟩;rintro i m a H ⟨rfl,o,p⟩;by_cases d:i<n
 ·refine .inr ⟨d,Pv (i+1),λ l j q=>⟨n-(i+1),by omega,rfl,by omega,q⟩,λ x j h=>?_⟩
  obtain⟨rfl,rfl⟩:=h;exact f i a _ d p
 ·have:i=n:=by omega
  subst this;exact .inl ⟨be _,r a H p⟩
def jI{K:bb}{a:au}{xs:List V}{g:TG}{b:TB}{j:St->Hp->Prop}{c:St}{H:Hp}(Pv:Nat->St->Hp->Prop)(h0:Pv 0 c H)(h:∀ i c H,i<=xs.length->Pv i c H->SqL K H a xs)
  (l:∀ i x c H,xs[i]?=some x->Pv i c H->g x c H λ σ2 H2=>b (Pv (i+1)) σ2 H2) (s:∀ c H,Pv xs.length c H->j c H):uB (Itl K a) g b j c H:=by
 refine⟨λ i m c H=>m=xs.length-i/\i<=xs.length/\Pv i c H,⟨xs.length,by simp,iA _,h0⟩,?_⟩;rintro i m c H ⟨rfl,d,p⟩;by_cases r:i<xs.length
 ·refine .inr ⟨⟨xs,xs[i],h i c H d p,by simp[r]⟩,Pv (i+1),λ o n q=>⟨xs.length-(i+1),by omega,rfl,by omega,q⟩,λ x n f=>?_⟩
  obtain⟨rfl,f⟩:=f;exact l i x c _ (f xs (h i c _ d p)) p
 ·have:i=xs.length:=by omega
  subst this;exact .inl ⟨⟨xs,h _ c H d p,be _⟩,s c H p⟩
def xR{K:bb}{a:au}{xs:List V}{g:TG}{b:TB}{j:St->Hp->Prop}{c:St}{H:Hp}(Pv:Nat->St->Hp->Prop)(h0:Pv 0 c H)(h:∀ i c H,i<=xs.length->Pv i c H->SqT K H a xs)
  (l:∀ i x c H,xs[i]?=some x->Pv i c H->g x c H λ σ2 H2=>b (Pv (i+1)) σ2 H2) (s:∀ c H,Pv xs.length c H->j c H):uB (Itt K a) g b j c H:=by
 refine⟨λ i m c H=>m=xs.length-i/\i<=xs.length/\Pv i c H,⟨xs.length,by simp,iA _,h0⟩,?_⟩;rintro i m c H ⟨rfl,d,p⟩;by_cases r:i<xs.length
 ·refine .inr ⟨⟨xs,xs[i],h i c H d p,by simp[r]⟩,Pv (i+1),λ o n q=>⟨xs.length-(i+1),by omega,rfl,by omega,q⟩,λ x n f=>?_⟩
  obtain⟨rfl,f⟩:=f;exact l i x c _ (f xs (h i c _ d p)) p
 ·have:i=xs.length:=by omega
  subst this;exact .inl ⟨⟨xs,h _ c H d p,be _⟩,s c H p⟩
section
variable {prog:eY} {w:iG} {A:gh} {E:ar->ay->Prop}
end
section
variable {X:Cx} {pos:Pos}
theorem gL:∀{b:List Int}{a:List ar},Vals (b.map V.int) a->Di a b
 | [],_,r=>by cases r;exact .nil
 | n::b,_,r=>by
  cases r with
  | cons r1 r2 =>
   obtain⟨t,rfl⟩:=r1;exact .cons n t (gL r2)
end
mutual
def Dt(K:bb)(H:Hp):CP->V->Prop
 | .none,v=>v=.non
 | .bool b,v=>v=.bl b
 | .int i,v=>v=.int i
 | .str x,v=>v=.str x
 | .tuple xs,v=>∃ a c,v=.ref a/\SqT K H a c/\DtAll K H xs c
 | .list xs,v=>∃ a c,v=.ref a/\SqL K H a c/\DtAll K H xs c
 | .dict _,_=>False
def DtAll(K:bb)(H:Hp):List CP->List V->Prop
 | [],vs=>vs=[]
 | d::ds,vs=>∃ v a,vs=v::a/\Dt K H d v/\DtAll K H ds a
end
section
variable {X:Cx} {pins:List (au×Obj)} {σ:St} {H:Hp} {s:ay}
mutual
theorem Dt.reads(I:Inv X pins σ H s):∀(d:CP)(v:V)(u:ar),RelV v u->Dt X.K H d v->∃ as,Reads s.heap u d as
 | .none,v,u,r,h=>by unfold Dt at h;subst h;cases r;exact⟨_,.none⟩
 | .bool b,v,u,r,h=>by unfold Dt at h;subst h;cases r;exact⟨_,.bool b⟩
 | .int i,v,u,r,h=>by unfold Dt at h;subst h;obtain⟨t,rfl⟩:=r;exact⟨_,.int i t⟩
 | .str x,v,u,r,h=>by unfold Dt at h;subst h;obtain⟨t,rfl⟩:=r;exact⟨_,.str x t⟩
 | .tuple xs,v,u,r,h=>by
  unfold Dt at h;obtain⟨a,q,rfl,f,y⟩:=h;cases r
  obtain⟨c,g,⟨o,p,m,n,l⟩,B⟩:=I.tuple f;obtain⟨as,j⟩:=DtAll.reads I xs q c g y;exact⟨_,.tuple p m l (by simpa using j)⟩
 | .list xs,v,u,r,h=>by
  unfold Dt at h;obtain⟨a,q,rfl,f,y⟩:=h;cases r
  obtain⟨c,g,A,B⟩:=I.list f;obtain⟨as,j⟩:=DtAll.reads I xs q c g y;obtain⟨o,p,m,n,l⟩:=A.isList;exact⟨_,.list p m l (by simpa using j)⟩
 | .dict _,v,u,r,h=>by unfold Dt at h;exact h.elim
theorem DtAll.reads(I:Inv X pins σ H s):∀(a:List CP)(b:List V)(c:List ar),Vals b c->DtAll X.K H a b->∃ as,ReadsAll s.heap c a as
 | [],b,c,r,h=>by unfold DtAll at h;subst h;cases r;exact⟨_,.nil⟩
 | d::a,b,c,r,h=>by
  unfold DtAll at h;obtain⟨v,j,rfl,h1,i⟩:=h
  cases r with
  | cons r1 r2 =>
   obtain⟨as,f⟩:=Dt.reads I d v _ r1 h1;obtain⟨bs,g⟩:=DtAll.reads I a j _ r2 i;exact⟨_,.cons f g⟩
end
end
section
variable {X:Cx}
inductive kSB(K:bb)(neg:Bool)(x:V)(y:V)(H:Hp)(Q:VK):Prop
 | mk:∀ d e,(Dt K H d x)->(Dt K H e y)->(lj d=true)->(lj e=true)->(Q (.bl (if neg then !PyData.eqv d e else ig d e)) H)->kSB K neg x y H Q
def sY(g:X.A.units+64<cLine):OpR X (compareOp .Eq) (kSB X.K false):=by
 intro a s l H x y v u Q I b f h;obtain⟨d,e,h1,j,c,i,q⟩:=h;obtain⟨m,p1⟩:=Dt.reads I d x v b h1;obtain⟨bs,p2⟩:=Dt.reads I e y u f j;exact SeqAt.compareEq_shaped p1 p2 c i g ⟨.bl _,H,I,rfl,q⟩
def sW(g:X.A.units+64<cLine):OpR X (compareOp .NotEq) (kSB X.K true):=by
 intro a s l H x y v u Q I b f h;obtain⟨d,e,h1,j,c,i,q⟩:=h;obtain⟨m,p1⟩:=Dt.reads I d x v b h1;obtain⟨bs,p2⟩:=Dt.reads I e y u f j;exact SeqAt.compareNe_shaped p1 p2 c i g ⟨.bl _,H,I,rfl,q⟩
end
def kWE(a b:vy):Bool:=(a.names.all λ y=>(y.2 != .local || a.names.lookup y.1 == some .local) && y.2 != .cell && (y.2 != .free || b.names.lookup y.1 == some .cell))
def CS.of{a c:vy}(k:a.kind=.function)(h:kWE a c=true):CS a c:=by
 have q:∀ y∈a.names,_:=wk.mp h;refine⟨k,λ y b e=>?_,λ y b e=>?_,λ y b e=>?_⟩<;>have z:=q y b<;>rw[iI,iI]at z<;>obtain⟨⟨g,d⟩,f⟩:=z
 ·rw[e]at g;simpa using g
 ·rw[e]at d;simp at d
 ·rw[e]at f;simpa using f
section
variable {prog:eY} {w:iG} {A:gh} {E:ar->ay->Prop} {s:ay}
def kEF{it t:au}{i:Nat}{items:Array ar}{x:ar}{Q:ar->ay->Prop}(a:s.heap.IsTupleIter it t i)(j:s.heap.IsTuple t items)(g:items[i]?=some x)
  (l:∀ h',h'.IsTupleIter it t (i+1)->iz it s.heap h'->Q x {s with heap:=h'}):dq (model prog w) A (gy (.ref it)) Q E s:=by
 obtain⟨o,c,h,b⟩:=id a;obtain⟨m,d,_,n,f⟩:=j;unfold gy;refine ai (ju (name:=wx "__next__") a.typeIs tw (ky tw a.typeIs BC ?_ (An _)));show dq _ _ (field (.ref it) 0 >>= _) _ _ s;refine ai (iY c b (x:=.ref t) rfl ?_);show dq _ _ (if(jr t == zm)=true then _ else _) _ _ s;rw[if_neg (show ¬ ((jr t == zm)=true) from eA)];show dq _ _ (field (.ref it) 1 >>= _) _ _ s;refine ai (iY c b (x:=.int i 0) rfl ?_);show dq _ _ (seqItems? (.ref t) >>= _) _ _ s;refine ai (jv d f ?_);simp only[iU,g];refine ai (Eo c b (by simp) (bp ⟨x,rfl,bp (l _ ?_ (jo ..))⟩));refine⟨_,qe _ c (Obj.isFreed_of_fields (DP b _)),(Obj.cls_mapFields ..).trans h,?_⟩;rw[DP b];simp[rawInt]
def mO{it t:au}{i:Nat}{items:Array ar}{Q:ar->ay->Prop}(h:A.handled=none)(b:s.heap.IsTupleIter it t i)(l:s.heap.IsTuple t items)(j:items[i]?=none)
  (n:∀ h' e,Heap.ExtBut it s.heap h'->(∃ o,h'.get? e=some o/\o.cls=.type "StopIteration")->E (.ref e) {s with heap:=h'}):dq (model prog w) A (gy (.ref it)) Q E s:=by
 obtain⟨o,c,p,f⟩:=id b;obtain⟨q,d,_,r,g⟩:=l;unfold gy;refine ai (ju (name:=wx "__next__") b.typeIs tw (ky tw b.typeIs BC ?_ (An _)));show dq _ _ (field (.ref it) 0 >>= _) _ _ s;refine ai (iY c f (x:=.ref t) rfl ?_);show dq _ _ (if(jr t == zm)=true then _ else _) _ _ s;rw[if_neg (show ¬ ((jr t == zm)=true) from eA)];show dq _ _ (field (.ref it) 1 >>= _) _ _ s;refine ai (iY c f (x:=.int i 0) rfl ?_);show dq _ _ (seqItems? (.ref t) >>= _) _ _ s;refine ai (jv d g ?_);simp only[iU,j];refine ai (vf (ai (Eo c f (by simp) ?_)));show dq _ _ (newExc (.type "StopIteration") [] >>= _) _ _ _;refine ai ?_;simp only[newExc,newTuple];refine ai (ir ?_ (by size_fits));refine ai (m:=firstArgMember _ _) (wpAny_of_eq (a:=zm) (by first | rfl | (simp only[firstArgMember];rfl)) ?_);refine ir ?_ (by size_fits);simp only[raiseNew];refine ai (wpAny_handled ?_)
 first | rw[show A.in1.handled=none from h] | rw[h]
 refine ai (bp (wpAny_throw ?_));exact n _ _ (((jo ..).extBut.push _).push _) ⟨_,cg _ rfl,rfl⟩
end
def ItOf(k:Bool)(h:iK)(it a:au)(i:Nat):Prop:=match k with | true=>h.IsListIter it a i | false=>h.IsTupleIter it a i
def SqOf(k:Bool)(h:iK)(a:au)(items:Array ar):Prop:=match k with | true=>h.IsList a items | false=>h.IsTuple a items
def zE(k:Bool):String:=match k with | true=>"list_iterator" | false=>"tuple_iterator"
def SqX(K:bb)(k:Bool)(H:Hp)(a:au)(xs:List V):Prop:=match k with | true=>SqL K H a xs | false=>SqT K H a xs
def ItOf.at{k:Bool}{h h':iK}{it a:au}{i:Nat}(x:ItOf k h it a i)(g:∀ o,h.get? it=some o->h'.get? it=some o):ItOf k h' it a i:=by
 cases k
 ·obtain⟨o,e,r⟩:=x;exact⟨o,g o e,r⟩
 ·obtain⟨o,e,r⟩:=x;exact⟨o,g o e,r⟩
def ItOf.live{k:Bool}{h:iK}{it a:au}{i:Nat}(x:ItOf k h it a i):∃ o,h.get? it=some o/\∀ v,o.data≠.cell v:=by
 cases k
 ·obtain⟨o,e,c,d⟩:=x;exact⟨o,e,λ v z=>by rw[d]at z;cases z⟩
 ·obtain⟨o,e,c,d⟩:=x;exact⟨o,e,λ v z=>by rw[d]at z;cases z⟩
def SqOf.at{k:Bool}{h h':iK}{a:au}{items:Array ar}(x:SqOf k h a items)(g:∀ o,h.get? a=some o->h'.get? a=some o):SqOf k h' a items:=by
 cases k
 ·obtain⟨o,e,r⟩:=x;exact⟨o,g o e,r⟩
 ·obtain⟨o,e,r⟩:=x;exact⟨o,g o e,r⟩
def SqOf.there{k:Bool}{h:iK}{a:au}{items:Array ar}(x:SqOf k h a items):∃ o,h.get? a=some o:=by
 cases k
 ·obtain⟨o,e,r⟩:=x;exact⟨o,e⟩
 ·obtain⟨o,e,r⟩:=x;exact⟨o,e⟩
def SqOf.lt{k:Bool}{h:iK}{a:au}{items:Array ar}(x:SqOf k h a items):a<h.objs.size:=let ⟨_,e⟩:=x.there;cf e
def ItOf.new(k:Bool)(h:iK)(a:au):ItOf k (h.push {cls:=.type (zE k),data:=.fields #[.ref a,.int 0 0]}) h.objs.size a 0:=by
 cases k
 ·exact⟨_,cg _ rfl,rfl,rfl⟩
 ·exact⟨_,cg _ rfl,rfl,rfl⟩
def Inv.sq{X:Cx}{b:List (au×Obj)}{c:St}{H:Hp}{s:ay}{k:Bool}{a:au}{xs:List V}(I:Inv X b c H s)(h:SqX X.K k H a xs):∃ its:List ar,Vals xs its/\SqOf k s.heap a its.toArray:=by
 cases k
 ·obtain⟨its,r,p,_⟩:=I.tuple h
  exact⟨its,r,p⟩
 ·obtain⟨its,r,p,_⟩:=I.list h
  exact⟨its,r,p.isList⟩
def Inv.sq_inj{X:Cx}{b:List (au×Obj)}{c:St}{H:Hp}{s:ay}{k:Bool}{a:au}{xs ys:List V}(I:Inv X b c H s)(h:SqX X.K k H a xs)(h':SqX X.K k H a ys):xs=ys:=by
 cases k
 ·exact I.tuple_inj h h'
 ·exact I.list_inj h h'
section
variable {prog:eY} {w:iG} {A:gh} {E:ar->ay->Prop} {s:ay}
def cC{k:Bool}{a:au}{items:Array ar}{Q:ar->ay->Prop}(h:SqOf k s.heap a items)(b:Q (.ref s.heap.objs.size) {s with heap:=s.heap.push {cls:=.type (zE k),data:=.fields #[.ref a,.int 0 0]}}) :
  dq (model prog w) A (pyIter (.ref a)) Q E s:=by
 cases k
 ·exact wu h b
 ·exact Bi h b
def xY(n:A.handled=none)(k:Bool)(it a:au)(d:a≠it)(items:Array ar):EM prog w A it [it,a] items.size (λ i v=>items[i]?=some v) (λ i h=>ItOf k h it a i/\SqOf k h a items) where
 live:=λ _ _ st=>let ⟨o,ho,_⟩:=st.1.live;⟨o,ho⟩
 frame:=λ _ _ _ st j=>⟨st.1.at λ o e=>j it (by simp) o e,st.2.at λ o e=>j a (by simp) o e⟩
 item:=λ i s Q E p st l=>by
  have f:items[i]?=some items[i]:=by simp[p]
  cases k
  ·exact kEF st.1 st.2 f λ g b c=>l _ g s.toks f ⟨b,st.2.at λ o e=>c.extBut a o d e⟩ c
  ·exact wpAny_nextOf_list_item st.1 st.2 f λ g b c=>l _ g s.toks f ⟨b,st.2.at λ o e=>c.extBut a o d e⟩ c
 done:=λ s Q E st m=>by
  cases k
  ·exact mO n st.1 st.2 (by simp) m
  ·exact wpAny_nextOf_list_end n st.1 st.2 (by simp) m
end
def Inv.turnedL{X:Cx}{a:List (au×Obj)}{h:St}{H:Hp}{s:ay}{h':iK}{t':Nat}{ch:List au}(I:Inv X a h H s)(k:∀ b o,b∉ch->s.heap.get? b=some o->h'.get? b=some o)(g:∀ b∈ch,zF X a H b) :
  Inv X a h H {s with heap:=h',toks:=t'}:=by
 have f:∀ b u,H b=some u->b∉ch:=λ b u e z=>by rw[(g b z).1]at e;cases e
 refine I.step (g':=s.gens) (d':=s.drawn) (ch:=ch) (λ b j=>?_) (λ b o _ _ d e _=>k b o d e) (λ b o _ _ d e _=>⟨o.slots,k b o d e⟩) (λ _ _ _ _ n=>n)
  (λ b o d e=>⟨o,k b o d e⟩) (λ _ _ e=>e) (λ _ _ _ e=>e) (λ b D e=>⟨#[],by rw[e];simp⟩) (λ m y=>?_) (λ b u e=>?_) I.bare
 ·obtain⟨G,A,J,p,i,x⟩:=g b j
  exact⟨p,A,i,x⟩
 ·obtain⟨o,C,l,B,r⟩:=y
  exact⟨o,C,l,k _ o (λ z=>(g _ z).2.1 rfl) B,r⟩
 ·refine(I.hok b u e).stay (λ c v d q=>k c v ?_ q) (λ _ q=>q) λ _ _ q=>q
  rcases d with z | z
  ·rw[z];exact f b u e
  ·exact f c _ z
open AutoSeq1 (wpAny_loadPart')
def tW(l:au)(items:Array ar)(n:Nat)(f:Option au)(o:Array (Option ar)) :
  Meets (zi.«enumerate.__new__» ⟨[.type "enumerate",.ref l],[]⟩) (λ _ R s=>s.heap.get? l=some {cls:=.type "tuple",dict:=f,data:=.seq items n,slots:=o} /\
   R (.ok (.ret (.ref (s.heap.push {cls:=.type "tuple_iterator",data:=.fields #[.ref l,.int 0 0]}).objs.size)))
    {s with heap:=(s.heap.push {cls:=.type "tuple_iterator",data:=.fields #[.ref l,.int 0 0]}).push {cls:=.type "enumerate",data:=.fields #[.none,.bool false,.ref s.heap.objs.size,rawInt 0,.none,.none]}}) :=
 .of_wp λ j w A R s h=>by
  obtain⟨hp,g,d,m,os⟩:=s;obtain⟨a,h⟩:=h;have i:=sub_enumerate;have b:Heap.IsTuple (Af ⟨hp,g,d,m,os⟩) l items:=⟨_,a,rfl,n,rfl⟩
  wp_walk using zj a
  refine wpAny_stack_any λ st=>bp ?_
  split
  ·rename_i c _ _ _ _ _
   cases(c == BG "enumerate")
   ·wp_walk using zj a,wu b
    exact⟨_,rfl,h⟩
   ·wp_walk using zj a,wu b
    exact⟨_,rfl,h⟩
  ·wp_walk using zj a,wu b
   exact⟨_,rfl,h⟩
section
variable {prog:eY} {w:iG} {A:gh} {E:ar->ay->Prop} {s:ay}
def kAB{k:Bool}{l:au}{items:Array ar}{Q:ar->ay->Prop}(i:SqOf k s.heap l items)
  (h:∀ h',IsEnum h' (s.heap.objs.size+1) s.heap.objs.size 0 .none->ItOf k h' s.heap.objs.size l 0->(∀ b o,s.heap.get? b=some o->h'.get? b=some o)->Q (.ref (s.heap.objs.size+1)) {s with heap:=h'}) :
  dq (model prog w) A (call (.type "enumerate") [.ref l]) Q E s:=by
 cases k
 ·obtain⟨⟨c,g,dt,r⟩,q,d,n,f⟩:=i
  replace d:c=.type "tuple":=d
  replace f:dt=.seq items n:=f
  subst d f;refine Dk F.called_enumerate (by decide) (F.typeCall_enumerate_1 _) (F.newCall_enumerate_1 _) (λ obj=>F.args_object_init_2 obj _) F.entry_enumerate_new (tW l items n g r) ⟨q,?_⟩;have j:(s.heap.push {cls:=.type "tuple_iterator",data:=.fields #[.ref l,.int 0 0]}).objs.size=s.heap.objs.size+1:=iZ ..;show _/\_;rw[j];have a:=cg (s.heap.push {cls:=.type "tuple_iterator",data:=.fields #[.ref l,.int 0 0]}) (o:={cls:=.type "enumerate",data:=.fields #[.none,.bool false,.ref s.heap.objs.size,rawInt 0,.none,.none]}) rfl;rw[j]at a;exact⟨⟨_,a,rfl⟩,h _ a ⟨_,ao _ (cg _ rfl),rfl,rfl⟩ λ b o x=>ao _ (ao _ x)⟩
 ·exact call_enumerate_list i λ h' a p _ m=>h h' a p m
end
def aE{k g:Bool}{h:iK}{a it b:au}{i:Nat}{items:Array ar}(x:SqOf k h a items)(y:ItOf g h it b i):a≠it:=by
 intro z;subst z
 cases k<;>cases g<;>obtain⟨o,e,c,_⟩:=x<;>obtain⟨j,f,d,_⟩:=y<;>rw[e]at f<;>cases f<;>rw[c]at d<;>revert d<;>decide
def kOE{h:iK}{a b:au}{o u:Obj}{m n:String}(h1:h.get? a=some o)(c:h.get? b=some u)(g:o.cls=.type m)(f:u.cls=.type n)(d:m≠n):a≠b:=by
 intro z;subst z;rw[h1]at c;cases c
 rw[g]at f;injection f with e
 exact d e
theorem ItOf.cls{k:Bool}{h:iK}{it a:au}{i:Nat}(x:ItOf k h it a i):∃ o,h.get? it=some o/\o.cls=.type (zE k):=by
 cases k<;>obtain⟨o,e,c,_⟩:=x<;>exact⟨o,e,c⟩
def kRS(k:Bool):String:=match k with | true=>"list" | false=>"tuple"
theorem SqOf.cls{k:Bool}{h:iK}{a:au}{items:Array ar}(x:SqOf k h a items):∃ o,h.get? a=some o/\o.cls=.type (kRS k):=by
 cases k<;>obtain⟨o,e,c,_⟩:=x<;>exact⟨o,e,c⟩
def Inv.handed{X:Cx}{a:List (au×Obj)}{d:St}{H:Hp}{s:ay}{h':iK}{t':Nat}{ch:List au}{x y:V}{u v:ar}(I:Inv X a d H s)(l:RelV x u)(B:RelV y v)
  (p:h'.get? s.heap.objs.size=some {cls:=.type "tuple",data:=.seq #[u,v]}) (k:∀ b o,b∉ch->s.heap.get? b=some o->h'.get? b=some o) (g:∀ b∈ch,zF X a H b) (f:∀ b∈ch,b<s.heap.objs.size) :
  Inv X a d (upd H s.heap.objs.size (.tup [x,y])) {s with heap:=h',toks:=t'}/\(∀ b∈ch,upd H s.heap.objs.size (.tup [x,y]) b=none):=by
 have h:∀ b∈ch,upd H s.heap.objs.size (.tup [x,y]) b=none:=λ b c=>by rw[kM (dr (f b c))];exact(g b c).1
 have r:Inv X a d (upd H s.heap.objs.size (.tup [x,y])) {s with heap:=s.heap.push {cls:=.type "tuple",data:=.seq #[u,v]},toks:=s.toks} :=
  I.laid (λ b o e=>ao _ e) (be _) ⟨by simp only[iC,tm];rw[Ad];decide,[u,v],.cons l (.cons B .nil),⟨_,cg _ rfl,rfl,0,rfl,rfl⟩⟩
 have m:=Inv.turnedL (h':=h') (t':=t') (ch:=ch) r (λ b o c e=>by
  rcases Cs e with⟨rfl,rfl⟩ | e
  ·exact p
  ·exact k b o c e) (λ b c=>by
  obtain⟨C,i,A,n,j,q⟩:=g b c;exact⟨h b c,i,A,n,j,q⟩)
 exact⟨m,h⟩
def Ite(k:Bool)(K:bb)(a:au):It :=
 ⟨λ i H=>∃ b x,SqX K k H a b/\b[i]?=some x,λ i H v c=>∃ T x,H T=none/\v=.ref T/\(∀ b,SqX K k H a b->b[i]?=some x)/\c=upd H T (.tup [.int i,x]),λ i H=>∃ b,SqX K k H a b/\b.length=i⟩
def kIK{P:eY}{w:iG}{K:bb}{B:List iH} {x1} {a1:Pos} (k:Bool) (a e it:au):Turn P w K (.Tuple B x1 a1) (Ite k K a) [e,it] e (λ i h=>(∃ old,IsEnum h e it i old)/\ItOf k h it a i) where
 mem:=by simp
 obj:=λ i h st b c=>by
  obtain⟨⟨old,f⟩,g⟩:=st;rcases eK.mp c with rfl | c
  ·exact⟨_,f,λ v z=>by cases z⟩
  ·have:b=it:=by simpa using c
   subst this;exact g.live
 keep:=λ i h h' st kk=>by
  obtain⟨⟨old,f⟩,g⟩:=st;exact⟨⟨old,kk e (by simp) _ f⟩,g.at λ o q=>kk it (by simp) o q⟩
 item:=by
  intro X Y Z O U i r s σ H E I hf st Q;subst Y Z O;obtain⟨⟨old,f⟩,g⟩:=st;obtain⟨xs,x,G,J⟩:=Q;obtain⟨d,rv,p⟩:=I.sq G;obtain⟨u,hu,ru⟩:=rv.get J;have j:=aE p g;obtain⟨oi,ei,ci⟩:=g.cls;obtain⟨oa,ea,ca⟩:=p.cls;have l:e≠it:=kOE f ei rfl ci (by cases k<;>decide);have S:e≠a:=kOE f ea rfl ca (by cases k<;>decide);have D:=xY (prog:=X.prog) (w:=X.w) (A:=X.A.in1) (I.ok.hd U) k it a j d.toArray
  have a3:i<d.toArray.size:=by
   have:=(ak.mp hu).1;simpa using this
  refine wpAny_pyNext_enum_itemD D f ⟨g,p⟩ a3 l (by simp[l,S]) λ y h' L hy ho N hT hz hk=>?_
  have ey:y=u:=by
   have n:d[i]?=some y:=by simpa using hy
   rw[hu]at n;exact(bg n).symm
  subst ey;refine⟨_,rfl,wpAny_letOwnedTupleGo_enum ho λ h2 M m=>?_⟩;have C:e<s.heap.objs.size:=cf f;have T:it<s.heap.objs.size:=cf ei;have a2:h2.get? s.heap.objs.size=some {cls:=.type "tuple",data:=.seq #[.int i L,y]}:=m.extBut _ _ (ja C) hT
  obtain⟨I2,n2⟩:=I.handed (x:=.int i) (u:=.int i L) (t':=L+1) (ch:=[e,it]) ⟨L,rfl⟩ ru a2 (λ b o c q=>m.extBut b o (λ z=>c (by simp[z])) (hk b o (λ z=>c (by simp[z])) (λ z=>c (by simp[z])) q)) hf
   (λ b c=>by rcases eK.mp c with rfl | c;exact C;rw[bu.mp c];exact T)
  refine⟨.ref s.heap.objs.size,_,I2,rfl,⟨_,x,I.hok.fresh (be _),rfl,λ ys a0=>by rw[I.sq_inj a0 G];exact J,rfl⟩,⟨⟨_,by simpa using M⟩,N.1.at λ o q=>m.extBut it o l.symm q⟩,n2⟩
 done:=by
  intro X Y Z O U i r s σ H E I hf st Q;subst Y Z O;obtain⟨⟨old,f⟩,g⟩:=st;obtain⟨xs,G,J⟩:=Q;obtain⟨d,rv,p⟩:=I.sq G;have j:=aE p g;have D:=xY (prog:=X.prog) (w:=X.w) (A:=X.A.in1) (I.ok.hd U) k it a j d.toArray;have hl:d.toArray.size=i:=by rw[<-J,rv.length];simp
  refine wpAny_pyNext_enum_endD D f ⟨hl ▸ g,p⟩ λ h' eb=>⟨rfl,I.turnedL (t':=s.toks) (ch:=[it]) (λ b o c q=>eb b o (λ z=>c (by simp[z])) q) λ b c=>hf b (by simp at c ⊢;exact .inr c)⟩
 self:=λ _ _ _ _ _ st h=>by
  obtain⟨⟨old,f⟩,_⟩:=st;exact Dl f h
section
variable {X:Cx}
inductive kNK(k:Bool)(K:bb)(R:It->Hp->Prop)(vs:List V)(H1:Hp):Prop
 | mk:∀ a,(vs=[.ref a])->((∃ xs,SqX K k H1 a xs))->(R (Ite k K a) H1)->kNK k K R vs H1
def kUY(k:Bool)(K:bb)(d:TA):TI:=λ a H R=>d a H λ c b=>kNK k K R c b
def kGM(k:Bool){a:iH}{o:TA}{p j g:Pos}{m:List iH} {x1} (G:Gl X "enumerate") (Q:X.mg "enumerate" = none) (B:PA X [a] o) (D:starEach [a] X.env=[(false,eval a X.env)]:=by rfl) :
  PI X (.Tuple m x1 g) (.Call (.Name "enumerate" p) [a] [] j) (kUY k X.K o):=by
 intro c s J H R I h;refine Fk (wN I G Q boot_enumerate (ie (thn (B j c s J H _ I h) λ T i ⟨Y,v,n,S,N⟩=>?_) D rfl));obtain⟨l,rfl,⟨Z,M⟩,q⟩:=N;obtain⟨u,rfl,r⟩:=vU S;cases r
 obtain⟨y,U,A⟩:=n.sq M;refine kAB A λ L x O C=>?_;refine Dl (s:={i with heap:=L}) x ?_
 have f:∀ b,i.heap.objs.size<=b->zF X c v b:=λ b d=>n.fpOk d (n.hok.fresh d);refine⟨_,[i.heap.objs.size+1,i.heap.objs.size],_,_,v,rfl,n.kept (t':=i.toks) C,kIK k l _ _,⟨⟨_,x⟩,O⟩,λ b d=>?_,q⟩;rcases eK.mp d with rfl | d
 ·exact f _ (by omega)
 ·rw[bu.mp d];exact f _ (be _)
end
end L2
namespace L2
open PySem PySem.Spec PyProof.Rows
structure ZAp(z TI TO i1 i2:au)(fp1 fp2:List au):Prop where
 zTI:z≠TI
 zTO:z≠TO
 zi1:z≠i1
 zi2:z≠i2
 TOi1:TO≠i1
 TOi2:TO≠i2
 i12:i1≠i2
 TITO:TI≠TO
 TIi1:TI≠i1
 TIi2:TI≠i2
 z1:z∉fp1
 z2:z∉fp2
 t1:TO∉fp1
 t2:TO∉fp2
 i2f:i2∉fp1
 i1f:i1∉fp2
section
variable {prog:eY} {w:iG} {A:gh} {E:ar->ay->Prop} {s:ay} {z TI TO i1 i2:au} {fp1 fp2:List au} {n1 n2 j:Nat} {P1 P2:Nat->ar->Prop} {S1 S2:Nat->iK->Prop} {a b:ar}
def kHZ{Q:ar->ay->Prop}(O:EM prog w A i1 fp1 n1 P1 S1)(D2:EM prog w A i2 fp2 n2 P2 S2)(d:ZAp z TI TO i1 i2 fp1 fp2)
  (hz:wm s.heap z TI TO .none) (a0:xg s.heap TI (.ref i1) (.ref i2)) (S:xg s.heap TO a b) (h1:S1 j s.heap) (h2:S2 j s.heap) (l1:j<n1) (l2:j<n2)
  (hQ:∀ x y h' tk,P1 j x->P2 j y->wm h' z TI TO (rawInt s.heap.objs.size)->xg h' TO x y->S1 (j+1) h'->S2 (j+1) h'->xg h' s.heap.objs.size x y ->
   (∀ c o,c≠z->c≠TO->c≠i1->c≠i2->s.heap.get? c=some o->h'.get? c=some o)->Q (.ref s.heap.objs.size) {s with heap:=h',toks:=tk}) :
  dq (model prog w) A (zi.«zip.__next__» ⟨[.ref z],[]⟩) (λ fin s'=>∃ v,fin=.done (.ret v)/\Q v s') E s:=by
 have l:∀{i:Nat}{h h':iK}{c:au},S1 i h->iz c h h'->c∉fp1->S1 i h':=λ st sb Y=>O.frame _ _ _ st λ b n o e=>sb.extBut b o (λ q=>Y (q ▸ n)) e;have g:∀{i:Nat}{h h':iK}{c:au},S2 i h->iz c h h'->c∉fp2->S2 i h':=λ st sb Y=>D2.frame _ _ _ st λ b n o e=>sb.extBut b o (λ q=>Y (q ▸ n)) e;show dq _ _ (field (.ref z) 2 >>= _) _ _ _;refine ai (iY hz rfl (x:=.bool false) rfl ?_);show dq _ _ (field (.ref z) 3 >>= _) _ _ _;refine ai (iY hz rfl (x:=.ref TI) rfl ?_);refine ai (jv a0 rfl ?_);show dq _ _ (iB (.ref z) >>= _) _ _ _;refine ai ?_;unfold iB;refine ai (iY hz rfl (x:=.none) rfl (bp ?_));simp only[if_true];refine ai (vf ?_);refine ai (iY hz rfl (x:=.ref TO) rfl ?_);refine ai (jz hz (by simp) λ g1 C r=>?_)
 replace C:wm g1 z TI TO .ellipsis:=C
 refine ai ?_
 simp only[ym,Ao,zh,BO]
 refine ai (ai (vj ?_));show dq _ _ (gy (.ref i1) >>= _) _ _ _;refine ai (O.item j _ _ _ l1 (l h1 r d.z1) λ x g2 a3 px X G=>bp ?_);have o2:xg g2 TO a b:=G.extBut _ _ d.TOi1 (r.extBut _ _ d.zTO.symm S);refine ai (jv o2 rfl ?_);refine ai (Ag o2 λ g3 T H=>?_)
 replace T:xg g3 TO x b:=T
 refine ai (Ah (bp ?_))
 refine ai (ai (vj ?_));show dq _ _ (gy (.ref i2) >>= _) _ _ _;refine ai (D2.item j _ _ _ l2 (g (g (g h2 r d.z2) G d.i1f) H d.t2) λ y g4 a2 py a1 u=>bp ?_);have o4:xg g4 TO x b:=u.extBut _ _ d.TOi2 T;refine ai (jv o4 rfl ?_);refine ai (Ag o4 λ f M p=>?_)
 replace M:xg f TO x y:=M
 refine ai (Ah (bp (bp ?_)))
 refine ai (jv M rfl ?_);refine ai (Ct ?_);have sz:f.objs.size=s.heap.objs.size:=by rw[p.1,u.1,H.1,G.1,r.1]
 have z5:wm f z TI TO .ellipsis:=p.extBut _ _ d.zTO (u.extBut _ _ d.zi2 (H.extBut _ _ d.zTO (G.extBut _ _ d.zi1 C)))
 have k5:∀ c o,c≠z->c≠TO->c≠i1->c≠i2->s.heap.get? c=some o->f.get? c=some o:=λ c o m N c3 U e =>
  p.extBut _ _ N (u.extBut _ _ U (H.extBut _ _ N (G.extBut _ _ c3 (r.extBut _ _ m e))))
 have Z:S1 (j+1) f:=l (l (l X H d.t1) u d.i2f) p d.t1;have D:S2 (j+1) f:=g a1 p d.t2;have B:z<f.objs.size:=cf z5;show dq _ _ (mj (.ref z) (.ref f.objs.size) >>= _) _ _ _;refine ai ?_;unfold mj;have z6:wm (f.push {cls:=.type "tuple",data:=.seq #[x,y]}) z TI TO .ellipsis:=ao _ z5;refine ai (jz z6 (by simp) λ g7 z7 s7=>?_)
 replace z7:wm g7 z TI TO (rawInt f.objs.size):=z7
 refine jz z7 (by simp) λ L J s8=>?_
 replace J:wm L z TI TO (rawInt f.objs.size):=J
 have I:∀ c o,c≠z->f.get? c=some o->L.get? c=some o:=λ c o m e=>s8.extBut _ _ m (s7.extBut _ _ m (ao _ e));have t8:xg L f.objs.size x y:=s8.extBut _ _ (ja B) (s7.extBut _ _ (ja B) (cg _ rfl));rw[sz]at J t8;refine bp ⟨_,rfl,?_⟩;show Q (.ref f.objs.size) _;rw[sz];exact hQ x y L _ px py J (I _ _ d.zTO.symm M) (O.frame _ _ _ Z λ b n o e=>I b o (λ q=>d.z1 (q ▸ n)) e) (D2.frame _ _ _ D λ b n o e=>I b o (λ q=>d.z2 (q ▸ n)) e) t8 λ c o m N c3 U e=>I c o m (k5 c o m N c3 U e)
end
def kCY(b r:Bool)(a c:au)(xs ys:Array ar) :
  Meets (zi.«zip.__new__» ⟨[.type "zip",.ref a,.ref c],[]⟩) (λ _ R s=>SqOf b s.heap a xs/\SqOf r s.heap c ys /\
   ∀(m f i n y:iK),m=s.heap.push {cls:=.type (zE b),data:=.fields #[.ref a,.int 0 0]}->f=m.push {cls:=.type (zE r),data:=.fields #[.ref c,.int 0 0]} ->
    i=f.push {cls:=.type "tuple",data:=.seq #[.ref s.heap.objs.size,.ref m.objs.size]}->n=i.push {cls:=.type "tuple",data:=.seq #[.none,.none]} ->
    y=n.push {cls:=.type "zip",data:=.fields #[.none,.bool false,.bool false,.ref f.objs.size,.ref i.objs.size]}->R (.ok (.ret (.ref n.objs.size))) {s with heap:=y}) :=
 .of_wp λ v w A R s h=>by
  obtain⟨hp,g,d,x,os⟩:=s;obtain⟨j,l,h⟩:=h;have u:=sub_zip;have p:SqOf b (Af ⟨hp,g,d,x,os⟩) a xs:=j;have q:SqOf r (Af ⟨hp.push {cls:=.type (zE b),data:=.fields #[.ref a,.int 0 0]},g,d,x,os⟩) c ys:=l.at λ o e=>ao _ e;have h:=h _ _ _ _ _ rfl rfl rfl rfl rfl
  wp_walk using cC p,cC q
  exact⟨_,rfl,h⟩
section
variable {prog:eY} {w:iG} {A:gh} {E:ar->ay->Prop} {s:ay}
def kCU{i m:Bool}{f b:au}{xs ys:Array ar}{Q:ar->ay->Prop}(h1:SqOf i s.heap f xs)(T:SqOf m s.heap b ys)
  (h:∀ h',wm h' (s.heap.objs.size+4) (s.heap.objs.size+2) (s.heap.objs.size+3) .none->xg h' (s.heap.objs.size+2) (.ref s.heap.objs.size) (.ref (s.heap.objs.size+1)) ->
   xg h' (s.heap.objs.size+3) .none .none->ItOf i h' s.heap.objs.size f 0->ItOf m h' (s.heap.objs.size+1) b 0->(∀ c o,s.heap.get? c=some o->h'.get? c=some o)->Q (.ref (s.heap.objs.size+4)) {s with heap:=h'}) :
  dq (model prog w) A (call (.type "zip") [.ref f,.ref b]) Q E s:=by
 refine Dk Fy (by decide) (F.typeCall_zip_2 _ _) (F.newCall_zip_2 _ _) (λ obj=>F.args_object_init_3 obj _ _) ET (kCY i m f b xs ys) ⟨h1,T,?_⟩;intro a d j p g B v D G H;have y:a.objs.size=s.heap.objs.size+1:=by rw[B];exact iZ ..
 have q:d.objs.size=s.heap.objs.size+2:=by rw[v,iZ,y]
 have r:j.objs.size=s.heap.objs.size+3:=by rw[D,iZ,q]
 have N:p.objs.size=s.heap.objs.size+4:=by rw[G,iZ,r]
 have S:∀ c o,s.heap.get? c=some o->a.get? c=some o:=λ c o e=>by rw[B];exact ao _ e
 have I:∀ c o,a.get? c=some o->d.get? c=some o:=λ c o e=>by rw[v];exact ao _ e
 have u:∀ c o,d.get? c=some o->j.get? c=some o:=λ c o e=>by rw[D];exact ao _ e
 have n:∀ c o,j.get? c=some o->p.get? c=some o:=λ c o e=>by rw[G];exact ao _ e
 have l:∀ c o,p.get? c=some o->g.get? c=some o:=λ c o e=>by rw[H];exact ao _ e
 have C:wm g p.objs.size d.objs.size j.objs.size .none:=by rw[H];exact cg _ rfl
 have L:xg g j.objs.size .none .none:=l _ _ (by rw[G];exact cg _ rfl);have J:xg g d.objs.size (.ref s.heap.objs.size) (.ref a.objs.size):=l _ _ (n _ _ (by rw[D];exact cg _ rfl));have O:ItOf i g s.heap.objs.size f 0:=ItOf.at (h:=a) (by rw[B];exact ItOf.new i s.heap f) λ o e=>l _ _ (n _ _ (u _ _ (I _ _ e)));have M:ItOf m g a.objs.size b 0:=ItOf.at (h:=d) (by rw[v];exact ItOf.new m a b) λ o e=>l _ _ (n _ _ (u _ _ e));show _/\_;rw[q,r,N]at C;rw[y,q]at J;rw[r]at L;rw[y]at M;rw[N];exact⟨⟨_,C,rfl⟩,h _ C J L O M λ c o x=>l _ _ (n _ _ (u _ _ (I _ _ (S _ _ x))))⟩
end
def zap(n a b:Nat)(i:a<n)(g:b<n):ZAp (n+4) (n+2) (n+3) n (n+1) [n,a] [n+1,b]:=by
 have q:∀{x y u:Nat},x≠y->x≠u->¬ x∈[y,u]:=λ h1 c f=>by
  rcases eK.mp f with e | e
  ·exact h1 e
  ·exact c (bu.mp e)
 have d:∀{x y:Nat},x<y->y≠x:=λ h=>ja h;have e:∀{x y:Nat},x<y->x≠y:=λ h=>dr h
 exact⟨d (by omega),d (by omega),d (by omega),d (by omega),d (by omega),d (by omega),e (by omega),e (by omega),d (by omega),d (by omega),
  q (d (by omega)) (d (by omega)),q (d (by omega)) (d (by omega)),q (d (by omega)) (d (by omega)),q (d (by omega)) (d (by omega)),q (d (by omega)) (d (by omega)),q (e (by omega)) (d (by omega))⟩
section
variable {X:Cx}
end
section
variable {X:Cx} {tg iter el:iH} {ifs:List iH} {sc:vy} {pos py spos:Pos} {Nc:List Str} {js:List (Option Nat)} {wi:TI} {i:Nat} {y:Str}
def uU{g:TG}{bd:au->TB}(hx:X.xe=λ _ _=>False)(hc:X.calm=true)(hN:X.N.Nodup)(a4:X.N[i]?=some y)(U:Loc X.env.scope y)(hi:PI X tg iter wi)(S:CS sc X.env.scope)(a8:cN js Nc X.N sc.names=true)
  (hg:∀ C s₂ H₂ fp pins,PG (cxC X Nc sc C s₂ H₂ fp pins) tg g)
  (n:∀ C s₂ H₂ fp pins D L,PTl (cxC X Nc sc C s₂ H₂ fp pins) (yI ifs (cxC X Nc sc C s₂ H₂ fp pins).env (do let _ <-call (.builtin "list.append") [.ref D,<-eval el (cxC X Nc sc C s₂ H₂ fp pins).env]) L) L (bd D))
  (hs:∀ x,foldedSetIterable iter X.env x=pure x:=by intro _;rfl)
  (a5:swapsWith (.ListComp el [⟨tg,iter,ifs,0⟩] sc pos) (some (.Name y py)) spos.line X.env=pure true:=by rfl)
  (hf:X.fn y=true\/X.env.scope.names.lookup y=some .local:=by first | exact .inl rfl | exact .inr rfl | assumption) :
  PS X (.Assign [.Name y py] (.ListComp el [⟨tg,iter,ifs,0⟩] sc pos) spos) (kLA (tLC js wi g bd) (nA i)):=by
 intro pins s σ H D0 I h;have a7:closureFor sc X.env=pure (aD sc X.env):=yU λ y U hf=>I.ok.has y.1 (.inl (S.free y U hf));rw[Co _ _ _ _ a5];refine ai (ve (ai ?_));show dq _ X.A (do let _ <-comprehension (.ListComp el [⟨tg,iter,ifs,0⟩] sc pos) sc X.env _ (newList []) false (eval iter X.env) (some (assign (.Name y py) X.env))) _ _ s
 refine ai (vd (ni (use:=some (assign (.Name y py) X.env)) (Q:=λ _ u=>SP X pins D0 .next u) rfl hs a7 S.kind S.names
  (thn (hi pins s σ H _ I h) λ v s1 h1=>thn h1 λ ab f h2=>?_)) (λ _ u hq=>bp (bp hq)) λ _ _ e=>e)
 obtain⟨it,fp,tn,J,H2,e,I2,T,Z,f2,hw⟩:=h2;subst e;have O:∀ b∈fp,b<f.heap.objs.size:=λ b n=>let ⟨o,ho,_⟩:=T.obj _ _ Z b n;cf ho;refine ir (qm S.nocell (by intro y U;simp at U) (λ l j d=>?_) S.kind);dsimp only at j d ⊢;generalize B:f.heap.push {cls:=.type "list",dict:=none,data:=.seq ([]:List ar).toArray}=G at j d ⊢;have af:G.objs.size=f.heap.objs.size+1:=by rw[<-B,iZ]
 have a0:f.heap.objs.size≠G.objs.size:=by omega
 have m:f.heap.objs.size<=G.objs.size:=by omega
 have Y:∀ b o,f.heap.get? b=some o->l.get? b=some o:=λ b o e=>d.extBut b o (dr (cw (cf e) m)) (ao _ (B ▸ ao _ e));have a1:l.get? f.heap.objs.size=some {cls:=.type "list",dict:=none,data:=.seq ([]:List ar).toArray}:=d.extBut _ _ a0 (ao _ (B ▸ cg _ rfl));have new:ObjOk X.prog X.w (upd H2 f.heap.objs.size (.lst [])) l f.heap.objs.size (.lst []):=⟨iA _,[],_,.nil,a1⟩;have I4:=wX (js:=js) (Nc:=Nc) (tk:=f.toks+([]:List (Str×ar)).length) I2 S f2 O a8 m (be _) a0 Y j new;have hn:H2 f.heap.objs.size=none:=I2.fresh
 have f4:∀ b∈fp,zF (cxC X Nc sc G.objs.size f H2 fp pins) [] (upd H2 f.heap.objs.size (.lst [])) b:=λ b n=>by
  obtain⟨h0,h1,h2,h3,h4,h5⟩:=f2 b n;refine⟨?_,dr (cw (O b n) m),λ z=>?_,.inl n,λ x c z=>?_,λ p hp=>?_⟩
  ·rw[kM (dr (O b n))];exact h0
  ·rcases eK.mp (I2.stkSub b z) with q | q
   ·exact h1 q
   ·exact h2 q
  ·exact h4 x c (cM sc.names [] (λ z=>nomatch z) z)
  ·rcases ck.mp hp with z | z
   ·exact h5 p z
   ·exact absurd z (by simp)
 have a2:tn 0 l:=T.keep _ _ _ Z λ b n o e=>Y b o e
 have r:codeAny (model X.prog X.w) X.A (.compLoop (.ListComp el [⟨tg,iter,ifs,0⟩] sc pos) 0 (.ref it) (.ref f.heap.objs.size) (compEnvC sc (aD sc X.env) G.objs.size X.env))
   (compPost (model X.prog X.w) X.A X.xe (some (assign (.Name y py) X.env)) (λ _ u=>SP X pins D0 .next u) (.ref f.heap.objs.size) G.objs.size) {f with heap:=l,toks:=f.toks+([]:List (Str×ar)).length}:=by
  refine yT (X:=cxC X Nc sc G.objs.size f H2 fp pins) (.inl ⟨el,rfl⟩) hx hc (kFC _ _ _ _ _ _ _ _ _) T (hg _ _ _ _ _) (n _ _ _ _ _ _ _) I4 a2 f4 (hw _ hn) λ ac H' u I' q=>?_;obtain⟨m',a9,_⟩:=I'.loc;have IB:Inv X pins σ H' {u with heap:=u.heap}:=wY I2 f2 m I' (AC ..)
  have nC:H' G.objs.size=none:=I'.free;have fC:zF X pins H' G.objs.size:=I2.fpOk m nC;show dq _ X.A (assign (.Name y py) X.env (.ref f.heap.objs.size)) _ _ u;refine Bh (cX (v:=.ref f.heap.objs.size) IB hN a4 U rfl (λ aa IC a6=>?_) hf);obtain⟨a,sb,ha⟩:=a6
  have aC:G.objs.size≠a:=by
   rcases ha with rfl | ha
   ·exact fC.2.1
   ·exact λ z=>fC.2.2.2.2.1 y a ha z.symm
  refine⟨m',a9.sameBut sb aC,λ h' a3=>?_⟩;exact⟨_,H',IC.turnedL (t':=aa.toks) (ch:=[G.objs.size]) (λ b o M e=>a3.extBut b o (λ z=>M (by simp[z])) e) (λ b M=>by rw[bu.mp M];exact fC),q⟩
 exact yD (.inl ⟨el,rfl⟩) rfl rfl r (T.self _ _ _ _ _ a2 r)
end
def kNP{k:Bool}{K:bb}{a:au}{xs:List V}{g:TG}{f:TS}{D:Ends}{b:St}{H:Hp}(Pv:Nat->St->Hp->Prop)(h0:Pv 0 b H)(r:∀ i b H,i<=xs.length->Pv i b H->SqX K k H a xs)
  (h:∀ i x T b H,xs[i]?=some x->H T=none->Pv i b H->g (.ref T) b (upd H T (.tup [.int i,x])) λ σ2 H2=>f {D with nx:=Pv (i+1),ct:=Pv (i+1),bk:=D.nx} σ2 H2) (u:∀ b H,Pv xs.length b H->D.nx b H) :
  ∃ W:Nat->Nat->St->Hp->Prop,(∃ m,W 0 m b H)/\∀ i m b H,W i m b H ->
   ((Ite k K a).stop i H/\D.nx b H)\/((Ite k K a).go i H/\∃ N:St->Hp->Prop,(∀ σ' H',N σ' H'->∃ m',m'<m/\W (i+1) m' σ' H')/\∀ x H',(Ite k K a).yld i H x H'->g x b H' λ σ2 H2=>f {D with nx:=N,ct:=N,bk:=D.nx} σ2 H2):=by
 refine⟨λ i m b H=>m=xs.length-i/\i<=xs.length/\Pv i b H,⟨xs.length,by simp,iA _,h0⟩,?_⟩;rintro i m b H ⟨rfl,d,p⟩;have c:=r i b H d p;by_cases n:i<xs.length
 ·refine .inr ⟨⟨xs,xs[i],c,by simp[n]⟩,Pv (i+1),λ σ' H' q=>⟨xs.length-(i+1),by omega,rfl,by omega,q⟩,λ x H' l=>?_⟩
  obtain⟨T,j,s,rfl,o,rfl⟩:=l;exact h i j T b H (o xs c) s p
 ·have:i=xs.length:=by omega
  subst this;exact .inl ⟨⟨xs,c,rfl⟩,u b H p⟩
def kIV(bs:List Bool):(cq bs.length).all (λ i=>bs.getD i false)=bs.all id:=by
 rw[iQ,wk,wk];constructor
 ·intro h b d
  obtain⟨i,a,rfl⟩:=eZ.mp d;have:=h i (jt.mpr a);simpa[av,a] using this
 ·intro h i a
  have c:i<bs.length:=jt.mp a;have:=h bs[i] (iO c);simpa[av,c] using this
theorem kFA:∀{bs:List Bool}{a:List ar},Vals (bs.map V.bl) a->a=bs.map BF
 | [],_,r=>by cases r;rfl
 | b::bs,_,r=>by
  cases r with
  | cons r1 r2 =>
   cases r1
   rw[kFA r2]
   rfl
section
variable {X:Cx}
def kKQ{prog:eY}{w:iG}{A:gh}{bs:List Bool}{items:Array ar}(e:items=(bs.map BF).toArray):TruthOf prog w A (λ i v=>items[i]?=some v) (λ i=>bs.getD i false):=by
 intro i v s Q E h q;rw[e]at h;have a:(bs.map BF)[i]?=some v:=by simpa using h
 rw[az]at a
 cases z:bs[i]? with
 | none=>rw[z]at a;cases a
 | some b =>
  rw[z]at a
  cases a
  refine oy ?_;simpa[av,z] using q
inductive nQ(K:bb)(xs:List V)(H:Hp)(Q:VK):Prop
 | mk:∀(a:au)(bs:List Bool),(xs=[.ref a])->(SqL K H a (bs.map V.bl))->(Q (.bl (bs.all id)) H)->nQ K xs H Q
def dP(n:X.calm=true):zH X (.builtin "all") (nQ X.K):=by
 intro j s y H G D Q I r h;obtain⟨a,bs,rfl,l,q⟩:=h;obtain⟨u,rfl,x⟩:=vU r;cases x
 obtain⟨d,p,v,C⟩:=I.list l;have i:=v.isList;have f:a≠s.heap.objs.size:=by obtain⟨o,e,_⟩:=i;exact dr (cf e)
 have c:=kFA p;refine call_all_walk (Bi i ⟨_,_,_,_,_,_,_,rfl,Walks.list (A:=X.A.in1) (I.ok.hd n) _ a f d.toArray,⟨⟨_,cg _ rfl,rfl,rfl⟩,i.push _⟩,kKQ (bs:=bs) (by rw[c]),λ B J m=>?_⟩);have e:d.toArray.size=bs.length:=by rw[c];simp
 rw[e,kIV];refine⟨.bl _,H,I.kept λ b o g=>m b o (λ z=>?_) (ao _ g),rfl,q⟩;rw[bu.mp z]at g;exact absurd (cf g) (qj _)
inductive nO(K:bb)(xs:List V)(H:Hp)(Q:VK):Prop
 | mk:∀(a:au)(ns:List Int),(xs=[.ref a])->(SqL K H a (ns.map V.int))->(0<ns.length)->(∀ M,M∈ns->(∀ i∈ns,M<=i)->Q (.int M) H)->nO K xs H Q
def kKD(A:X.calm=true):zH X (.builtin "min") (nO X.K):=by
 intro l s M H c S Q I r h;obtain⟨a,D,rfl,o,d,q⟩:=h;obtain⟨u,rfl,L⟩:=vU r;cases L
 obtain⟨x,B,G,O⟩:=I.list o;have m:=gL B;obtain⟨c,e⟩:=m.allInts.items;have b:D=c.toList.map (·.1):=by rw[<-m.numsOf,<-nums_intItems,<-e]
 have f:0<c.size:=by
  have i:=d;rw[b,aj,iD]at i;exact i
 have n:=G.isList;rw[e]at n;refine min_intList (I.ok.hd A) n f λ v N T C y=>?_;obtain⟨t,rfl⟩:=intItems_at C;obtain⟨h1,J⟩:=argBest_lt (numAt c) (c.size-1);refine⟨.int _,H,I.kept y,⟨_,rfl⟩,q _ ?_ λ a g=>?_⟩
 ·rw[b,numAt_eq];exact getD_mem (by rw[aj,iD];omega)
 ·rw[b]at g
  obtain⟨j,p,rfl⟩:=mem_getD g;rw[aj,iD]at p;rw[<-numAt_eq];exact J j (by omega)
end
section
variable {X:Cx} {tg iter el tg2 iter2:iH} {ifs ifs2:List iH} {sc:vy} {pos:Pos} {Nc:List Str} {js:List (Option Nat)} {wi wi2:TI} {g g2:TG}
def kRF(a:TI)(c:TG)(f:TB):TB:=λ N b H=>a b H λ J d=>uB J c f N b d
def kMH{D:au}{l:TB}{L:Gg}{e:iH}(B:e=.ListComp el [⟨tg,iter,[],0⟩,⟨tg2,iter2,ifs2,0⟩] sc pos)(S:X.xe=λ _ _=>False)(C:X.calm=true)(hi:PI X tg2 iter2 wi2)(p:PG X tg2 g2)
  (G:∀ L,PTl X (yI ifs2 X.env (do let _ <-call (.builtin "list.append") [.ref D,<-eval el X.env]) L) L l) (o:∀ x,foldedSetIterable iter2 X.env x=pure x) :
  PTl X (kKT [] X.env iter2 (λ i=>.compStart e 1 i (.ref D) X.env) L) L (kRF wi2 g2 l):=by
 subst B;intro c s u H N I h;unfold kKT;refine ai (ES ?_);show dq _ _ (eval iter2 X.env >>= _) _ _ s;refine ai (thn (hi c s u H _ I h) λ v Y h1=>?_);refine ai (ve (ai (wpAny_of_eq (o v) (ai (km (thn h1 λ n Q U=>?_))))));obtain⟨it,fp,tn,J,Z,e,y,T,d,O,M⟩:=U;subst e;refine ai (wpAny_runOwn ?_)
 have b:codeAny (model X.prog X.w) X.A (.compLoop (.ListComp el [⟨tg,iter,[],0⟩,⟨tg2,iter2,ifs2,0⟩] sc pos) 1 (.ref it) (.ref D) X.env)
   (λ r f=>match r with | .ok _=>dq (model X.prog X.w) X.A (again L) (λ j f=>j=.again L/\∃ a g,Inv X c a g f/\N a g) X.xe f | .error e=>cameBackBy (model X.prog X.w) X.A X.env X.xe e f) Q :=
  yT (.inl ⟨el,rfl⟩) S C (kKO _ _ _ _ _ _ _ _ _ _ _ _) T p (G _) y d O M λ a g f m q=>bp ⟨rfl,a,g,m,q⟩
 exact yD (.inl ⟨el,rfl⟩) rfl rfl b (T.self _ _ _ _ _ d b)
def sU{bd:au->TB}(hx:X.xe=λ _ _=>False)(hc:X.calm=true)(hi:PI X tg iter wi)(S:CS sc X.env.scope)(a2:cN js Nc X.N sc.names=true)
  (hg:∀ C s₂ H₂ fp pins,PG (cxC X Nc sc C s₂ H₂ fp pins) tg g) (a6:∀ C s₂ H₂ fp pins,PI (cxC X Nc sc C s₂ H₂ fp pins) tg2 iter2 wi2) (a3:∀ C s₂ H₂ fp pins,PG (cxC X Nc sc C s₂ H₂ fp pins) tg2 g2)
  (l:∀ C s₂ H₂ fp pins D L,PTl (cxC X Nc sc C s₂ H₂ fp pins) (yI ifs2 (cxC X Nc sc C s₂ H₂ fp pins).env (do let _ <-call (.builtin "list.append") [.ref D,<-eval el (cxC X Nc sc C s₂ H₂ fp pins).env]) L) L (bd D))
  (hs:∀ x,foldedSetIterable iter X.env x=pure x:=by intro _;rfl) (a4:∀ C s₂ H₂ fp pins x,foldedSetIterable iter2 (cxC X Nc sc C s₂ H₂ fp pins).env x=pure x:=by intro _ _ _ _ _ _;rfl) :
  PE X (.ListComp el [⟨tg,iter,[],0⟩,⟨tg2,iter2,ifs2,0⟩] sc pos) (tLC js wi g λ D=>kRF wi2 g2 (bd D)):=by
 intro pins s σ H Q I h;rw[eval_ListComp];have a1:closureFor sc X.env=pure (aD sc X.env):=yU λ y hy hf=>I.ok.has y.1 (.inl (S.free y hy hf));refine ni (use:=none) rfl hs a1 S.kind S.names (thn (hi pins s σ H _ I h) λ v s1 h1=>thn h1 λ a7 d h2=>?_);obtain⟨it,fp,tn,J,u,e,Z,T,O,f2,hw⟩:=h2;subst e;have r:∀ b∈fp,b<d.heap.objs.size:=λ b l=>let ⟨o,ho,_⟩:=T.obj _ _ O b l;cf ho;refine ir (qm S.nocell (by intro y hy;simp at hy) (λ i f a=>?_) S.kind);dsimp only at f a ⊢;generalize n:d.heap.push {cls:=.type "list",dict:=none,data:=.seq ([]:List ar).toArray}=G at f a ⊢;have a9:G.objs.size=d.heap.objs.size+1:=by rw[<-n,iZ]
 have B:d.heap.objs.size≠G.objs.size:=by omega
 have j:d.heap.objs.size<=G.objs.size:=by omega
 have M:∀ b o,d.heap.get? b=some o->i.get? b=some o:=λ b o e=>a.extBut b o (dr (cw (cf e) j)) (ao _ (n ▸ ao _ e));have U:i.get? d.heap.objs.size=some {cls:=.type "list",dict:=none,data:=.seq ([]:List ar).toArray}:=a.extBut _ _ B (ao _ (n ▸ cg _ rfl));have new:ObjOk X.prog X.w (upd u d.heap.objs.size (.lst [])) i d.heap.objs.size (.lst []):=⟨iA _,[],_,.nil,U⟩;have I4:=wX (js:=js) (Nc:=Nc) (tk:=d.toks+([]:List (Str×ar)).length) Z S f2 r a2 j (be _) B M f new;have hn:u d.heap.objs.size=none:=Z.fresh
 have f4:∀ b∈fp,zF (cxC X Nc sc G.objs.size d u fp pins) [] (upd u d.heap.objs.size (.lst [])) b:=λ b l=>by
  obtain⟨h0,h1,h2,h3,h4,h5⟩:=f2 b l;refine⟨?_,dr (cw (r b l) j),λ z=>?_,.inl l,λ x c z=>?_,λ p hp=>?_⟩
  ·rw[kM (dr (r b l))];exact h0
  ·rcases eK.mp (Z.stkSub b z) with q | q
   ·exact h1 q
   ·exact h2 q
  ·exact h4 x c (cM sc.names [] (λ z=>nomatch z) z)
  ·rcases ck.mp hp with z | z
   ·exact h5 p z
   ·exact absurd z (by simp)
 have Y:tn 0 i:=T.keep _ _ _ O λ b l o e=>M b o e
 have m:codeAny (model X.prog X.w) X.A (.compLoop (.ListComp el [⟨tg,iter,[],0⟩,⟨tg2,iter2,ifs2,0⟩] sc pos) 0 (.ref it) (.ref d.heap.objs.size) (compEnvC sc (aD sc X.env) G.objs.size X.env))
   (compPost (model X.prog X.w) X.A X.xe none (EP X pins σ Q) (.ref d.heap.objs.size) G.objs.size) {d with heap:=i,toks:=d.toks+([]:List (Str×ar)).length}:=by
  refine yT (X:=cxC X Nc sc G.objs.size d u fp pins) (.inl ⟨el,rfl⟩) hx hc (kKP _ _ _ _ _ _ _ _ _ _ _ _) T (hg _ _ _ _ _)
   (kMH (X:=cxC X Nc sc G.objs.size d u fp pins) rfl hx hc (a6 _ _ _ _ _) (a3 _ _ _ _ _) (λ L=>l _ _ _ _ _ _ L) (a4 _ _ _ _ _)) I4 Y f4 (hw _ hn) λ a8 H' s' I' q=>?_
  obtain⟨m',a5,_⟩:=I'.loc;exact⟨m',a5,λ h' a0=>⟨.ref d.heap.objs.size,H',wY Z f2 j I' a0,rfl,q⟩⟩
 exact yD (.inl ⟨el,rfl⟩) rfl rfl m (T.self _ _ _ _ _ Y m)
end
open AutoSeq1 (wpAny_loadPart')
def kIL(l:au)(items:Array ar)(n:Nat)(H:Option au)(G:Array (Option ar))(x:ar)(e:ar->Bool)(j:Nat)(O:j<items.size)(q:e items[j]=true)(v:∀ m (S:m<items.size),m<j->e items[m]=false) :
  Meets (zi.«tuple.index» ⟨[.ref l,x],[]⟩) (λ A R s=>s.heap.get? l=some {cls:=.type "tuple",dict:=H,data:=.seq items n,slots:=G}/\(∀ y,y∈items->Ei A.in1 s y x (e y))/\R (.ok (.ret (.int j s.toks))) {s with toks:=s.toks+1}) :=
 .of_wp λ a w A R s h=>by
  obtain⟨hp,g,d,M,os⟩:=s;obtain⟨N,D,h⟩:=h
  wp_walk using zj N
  have I:∀(f:Nat->Option ui×PUnit->Sem (ForInStep (Option ui×PUnit)))(Q:Option ui×PUnit->ay->Prop)(E:ar->ay->Prop)(B:ay),
    dq (model a w) A.in1 (forIn (zu 0 items.size) ((none:Option ui),GX) f) Q E B->dq (model a w) A.in1 (forIn [:min items.size items.size] ((none:Option ui),GX) f) Q E B:=λ f Q E B z=>by
   rw[qv];simpa[AJ] using z
  refine I (λ i __s=>match items[i]? with
      | some y=>do
       if <-eqBool y x then do
         let r <-retInt (i:Nat)
         pure (xx (some r,()))
        else pure (jd (none,()))
      | _=>pure (jd (none,()))) _ _ _ ?_
  refine AQ _ (λ rest b u=>b.1=none/\u=⟨hp,g,d,M,os⟩/\∃ i,i<=j/\rest=zu i (items.size-i)) _ ?_ ?_ _ _ ⟨rfl,rfl,0,iA _,by simp⟩
  ·rintro y rest b u ⟨J,rfl,i,L,p⟩
   have o:i<items.size:=by omega
   rw[show items.size-i=(items.size-(i+1))+1 by omega,wd]at p;injection p with e1 e2
   subst e1;have C:items[y]?=some items[y]:=by simp[o]
   simp only[C];refine ai (D _ (Bk o) a w _ _ ?_);by_cases c:y=j
   ·subst c
    rw[q]
    wp_walk
    exact⟨_,rfl,h⟩
   ·rw[v y o (by omega)]
    wp_walk
    exact⟨rfl,rfl,y+1,by omega,e2⟩
  ·rintro b u ⟨J,rfl,i,L,p⟩
   have:ip ([]:List Nat)=items.size-i:=by rw[p,List.length_range']
   simp at this;omega
section
variable {X:Cx}
inductive kGH(K:bb)(x:V)(vs:List V)(H:Hp)(Q:VK):Prop
 | mk:∀(l:au)(ns:List Int)(n:Int)(j:Nat),(x=.ref l)->(vs=[.int n])->(SqT K H l (ns.map V.int))->(cU ns n j)->(Q (.int j) H)->kGH K x vs H Q
def dG:MtM X "tuple.index" (kGH X.K):=by
 intro c s J H x N v M Q I i C h;obtain⟨l,O,n,j,rfl,rfl,D,g,q⟩:=h;cases i
 obtain⟨u,rfl,t,rfl⟩:=C.one;obtain⟨a,r,⟨⟨cls,B,dt,p⟩,d,b,m,f⟩,L⟩:=I.tuple D;simp only at b f;subst b f;obtain⟨h1,G,A⟩:=dN r g;refine zo F.slot_tuple_index ⟨_,d,rfl⟩ F.entry_tuple_index (F.args_tuple_index_2 _ _) (kIL l a.toArray m B p (.int n t) (fN n) j h1 G A) ⟨d,λ y o=>(vE r n t y o).at _ _,?_⟩;exact⟨.int j,H,I.tok _,⟨_,rfl⟩,q⟩
end
def qJ{N P:List Str}{f:vy}(a:f.kind=.function:=by rfl)(b:f.isCoroutine=false:=by rfl)(c:f.isGenerator=false:=by rfl)(d:N.Nodup:=by decide +kernel)(e:N.take P.length=P:=by rfl)
  (g:∀ x∈P,f.names.lookup x=some .local\/f.names.lookup x=some .cell:=by decide +kernel) (h:∀ y∈f.names,y.2≠.free:=by decide +kernel):FnScope N P f:=⟨a,b,c,d,e,g,h⟩
def kUS{α:Type}{a:List α}(h:a.length=0):a=[]:=og.mp h
def kPS{α:Type}{b:List α}{n:Nat}(h:b.length=n+1):∃ a r,b=a::r/\r.length=n:=by
 cases b with
 | nil=>exact nomatch h
 | cons a r=>exact⟨a,r,rfl,Nat.succ.inj h⟩
def kUR{α:Type}{b:List α}(h:b.length=1):∃ a,b=[a]:=by
 obtain⟨a,r,rfl,g⟩:=kPS h;exact⟨a,by rw[kUS g]⟩
def kUQ{α:Type}{c:List α}(h:c.length=2):∃ a b,c=[a,b]:=by
 obtain⟨a,r,rfl,g⟩:=kPS h;obtain⟨b,rfl⟩:=kUR g;exact⟨a,b,rfl⟩
def kUP{α:Type}{d:List α}(h:d.length=3):∃ a b c,d=[a,b,c]:=by
 obtain⟨a,r,rfl,g⟩:=kPS h;obtain⟨b,c,rfl⟩:=kUQ g;exact⟨a,b,c,rfl⟩
def kWB{α:Type}{f:List α}(h:f.length=4):∃ a b c d,f=[a,b,c,d]:=by
 obtain⟨a,r,rfl,g⟩:=kPS h;obtain⟨b,c,d,rfl⟩:=kUP g;exact⟨a,b,c,d,rfl⟩
section
variable {P:eY} {w:iG} {K:bb} {mg:Str->Option ar} {base:iK}
def qK{n:Str}{st:kr}{N j:List Str}{k:Nat}{sp:Sp}(X:∃ h:iK,K.In h/\h.Ns gw mg)(d:jF K n st)(S:FnScope N j (kN st))
  (c:∀(f:au)(a:ar)(A:gh)(outer:List Env)(s:ay)(H:Hp)(i:List V)(Q:VK)(E:XK),N.Nodup->Room k (A.deeper (envOfC n (kN st) s.heap.objs.size f a))->sp i H Q E ->
   ∃ t,PSs (qX CX0 P w K mg base N n (kN st) f a A outer s H E).nox (zL st) t/\t {nx:=λ _ H'=>Q .non H',rt:=Q} (start N i) H)
  (len:∀ i H Q E,sp i H Q E->i.length=j.length:=by intro _ _ _ _ h;first | (cases h;subst_vars;rfl) | (rcases h with h | h<;>cases h<;>subst_vars<;>rfl))
  (b:∀(kV m p:ar)(o:Option au)(a ct:ar)(l:List ar),l.length=j.length->bindArgs (uo n n (vO st) (zL st) (kN st) .none kV m p o a ct) ⟨l,[]⟩=pure (j.zip l):=by
   intro _ _ _ _ _ _ l hl;first | (obtain⟨_,rfl⟩:=kUR hl;rfl) | (obtain⟨_,_,rfl⟩:=kUQ hl;rfl) | (obtain⟨_,_,_,rfl⟩:=kUP hl;rfl) | (obtain⟨_,_,_,_,rfl⟩:=kWB hl;rfl) | (obtain⟨_,_,_,_,_,rfl⟩:=len5 hl;rfl) | (obtain rfl:=kUS hl;rfl)):Own.Has P w K mg base n j (k+1) sp:=by
 obtain⟨h,x,g⟩:=X;exact kTD x g d (λ f q F=>F.ok S len λ a A outer s H i Q E=>c f a A outer s H i Q E S.nd) b
end
inductive oS(K:bb)(vs:List V)(H:Hp)(Q:VK)(E:XK):Prop
 | mk (a:au) (ns:List Int):vs=[.ref a]->SqL K H a (ns.map V.int)->ns.length<=63->(∀ H',Q (.bl true) H')->oS K vs H Q E
structure Cn where
 P:eY
 w:iG
 K:bb
 mg:Str->Option ar
 base:iK
instance:Nonempty Cn:=⟨⟨default,⟨λ _ _=>0,{strHash:=λ _=>0,shareClass:=id,mergeTok:=id,idOf:=λ _=>0,idOfShared:=λ _ _=>0,followText:=λ _=>true,idOfImm:=λ _=>0}⟩,default,λ _=>none,default⟩⟩
section
variable {X:Cx} {e:iH} {es:List iH} {te:TE} {t:TA} {p pos pos':Pos} {x:Str}
def pf{j k:Nat}{f:List Str}{sp:Sp}(h:Own.Has X.prog X.w X.K X.mg X.base x f j sp)(l:Room k X.A)(g:PA X (e::es) t)(c:j<=k:=by decide)(d:Gl X x:=by rfl)
  (b:(x == ("__debug__" : Str))=false:=by decide) (i:starEach (e::es) X.env=(false,eval e X.env)::starEach es X.env:=by rfl) (a:(backTo pos (starEach es X.env)).any (·.1)=false:=by rfl) :
  PE X (.Call (.Name x p) (e::es) [] pos) (kKZ sp [] E0 t):=Own.pe_has h (l.mono c) d g b i a
def pst(i:Nat)(d:X.N.Nodup)(f:PE X e te)(hi:X.N[i]?=some x:=by rfl)(c:Loc X.env.scope x:=by first | exact xw rfl | exact EH rfl)(b:swapsWith e (some (.Name x pos')) pos.line X.env=pure false:=by rfl)
  (a:X.fn x=true\/X.env.scope.names.lookup x=some .local:=by first | exact .inl rfl | exact .inr rfl):PS X (.Assign [.Name x pos'] e pos) (kLA te (nA i)):=kSD d hi c f b a
def pgn(i:Nat)(c:X.N.Nodup)(hi:X.N[i]?=some x:=by rfl)(b:Loc X.env.scope x:=by first | exact xw rfl | exact EH rfl)(a:X.fn x=true\/X.env.scope.names.lookup x=some .local:=by first | exact .inl rfl | exact .inr rfl):PG X (.Name x pos) (nA i):=zY c hi b a
def uJ{b iter:iH}{a:List kr}{d:TI}{g:TG}{c:TS}(hi:PI X b iter d)(i:PG X b g)(f:PSs X a c)(hp:Fi (model X.prog X.w) X.A X.env X.xe:=by exact EU)(j:X.calm=true:=by rfl)
  (h:∀ x,foldedSetIterable iter X.env x=pure x:=by intro _;rfl):PS X (.For b iter a [] pos) (kTW d g c):=kSF hp j hi i f h
variable {a b c d:iH} {ta tb tc td:TE}
def pix{r:R2}(g:IxR X r)(f:PE X a ta)(c:PE X b tb)(d:kHY b:=by exact λ _ _=>rfl):PE X (.Subscript a b pos) (tOp r ta tb):=kUK g f c d
def p1(b:PE X a ta)(h1:starEach [a] X.env=(false,eval a X.env)::starEach [] X.env:=by rfl):PA X [a] (kFE ta kRP):=kI b kY h1
def p2(f:PE X a ta)(d:PE X b tb)(h1:starEach [a,b] X.env=(false,eval a X.env)::starEach [b] X.env:=by rfl)(c:starEach [b] X.env=(false,eval b X.env)::starEach [] X.env:=by rfl):PA X [a,b] (kFE ta (kFE tb kRP)):=kI f (kI d kY c) h1
def nd1{a:Str}:[a].Nodup:=gj.mpr ⟨rm,yk⟩
def nd2{a b:Str}(h:a≠b):[a,b].Nodup:=gj.mpr ⟨λ m=>h (bu.mp m),nd1⟩
def nd3{a b c:Str}(h:a≠b)(h':a≠c)(d:b≠c):[a,b,c].Nodup:=gj.mpr ⟨λ m=>(eK.mp m).elim h λ m=>h' (bu.mp m),nd2 d⟩
def pgc(i:Nat)(c:X.N.Nodup:=by first | exact nd1 | exact nd2 (by decide) | exact nd3 (by decide) (by decide) (by decide))(hi:X.N[i]?=some x:=by rfl)(b:Loc X.env.scope x:=by first | exact xw rfl | exact EH rfl)(a:X.fn x=true\/X.env.scope.names.lookup x=some .local:=by first | exact .inl rfl | exact .inr rfl):PG X (.Name x pos) (nA i):=zY c hi b a
section
variable {o:iH} {to:TE} {r:V->List V->Hp->VK->Prop} {apos cpos:Pos}
def jG{n:Str}{id:String}(f:Slot "list" n id)(g:typeOf (.builtin id)=pure (.type "method_descriptor"))(l:MtR X id r)(j:PE X o to)(i:PA X (e::es) t)
  (b:attributeBase o n X.env (eval o X.env)=eval o X.env:=by rfl)
  (d:((backTo cpos (starEach (e::es) X.env)).all (λ x=>!x.1) && (backToKw cpos (keywordEach [] X.env)).all (λ x=>x.1.isSome)
   && decide ((e::es).length+([]:List EY).length+(if([]:List EY).isEmpty then 0 else 1)<30))=true:=by rfl)
  (c:(apos.endLine == cpos.line)=true:=by rfl) (h:starEach (e::es) X.env=(false,eval e X.env)::starEach es X.env:=by rfl) (a:(backTo cpos (starEach es X.env)).any (·.1)=false:=by rfl) :
  PE X (.Call (.Attribute o n apos) (e::es) [] cpos) (tBM X.K "list" r to t):=kBN PySem.F.plainAttrs_list f g l j i b d c h a
end
end
def snoc{α:Type}{xs:List α}{x y:α}{i:Nat}(h:(xs++[x])[i]?=some y):(i<xs.length/\xs[i]?=some y)\/(i=xs.length/\some x=some y):=by
 rcases iV i xs.length with c | c
 ·rw[bf c]at h
  exact .inl ⟨c,h⟩
 ·have e:i=xs.length:=by
   have:=(ak.mp h).1;rw[bj,fj]at this;omega
  rw[e,cu]at h;exact .inr ⟨e,h⟩
def gD{X:Cx}{st:kr}:PS X st (λ _ _ _=>False):=λ _ _ _ _ _ _ h=>h.elim
section
variable {X:Cx} {tg iter kx vx:iH} {ifs:List iH} {sc:vy} {pos:Pos} {Nc:List Str} {js:List (Option Nat)} {wi:TI}
def pZ(c a:iH)(env:Env)(b:ar):Sem Unit:=do
 let kv <-eval c env
 let vv <-holding [kv] (eval a env)
 match b with
 | .ref d=>do
  standAt (have __src:=c.pos;{line:=__src.line,col:=__src.col,endLine:=a.pos.endLine,endCol:=a.pos.endCol})
  holding [kv,vv] (dictSet d kv vv)
 | _=>unsupported "internal:dictcomp"
def rO(g f d iter:iH)(c:List iH)(h:vy)(a:Pos)(it b:ar)(env:Env) :
  compTurn (.DictComp g f [⟨d,iter,c,0⟩] h a) 0 it b env=(standAt iter.pos >>= λ _=>pyNext it >>= λ r=>match r with
   | none=>pure (.done .next)
   | some v=>letOwnedTupleGo d it v >>= λ _=>assign d env v >>= λ _=>yI c env (pZ g f env b) (.compLoop (.DictComp g f [⟨d,iter,c,0⟩] h a) 0 it b env)):=by rfl
def tDC(js:List (Option Nat))(d:TI)(g:TG)(bd:au->TB):TE:=λ a H Q=>d a H λ J b=>∀ D,b D=none->uB J g (bd D) (λ _ c=>Q (.ref D) c) (dO js a) (upd b D (.dK []))
def kGO{g:TG}{bd:au->TB}(hx:X.xe=λ _ _=>False)(hc:X.calm=true)(hi:PI X tg iter wi)(S:CS sc X.env.scope)(a3:cN js Nc X.N sc.names=true)
  (hg:∀ C s₂ H₂ fp pins,PG (cxC X Nc sc C s₂ H₂ fp pins) tg g)
  (l:∀ C s₂ H₂ fp pins D L,PTl (cxC X Nc sc C s₂ H₂ fp pins) (yI ifs (cxC X Nc sc C s₂ H₂ fp pins).env (pZ kx vx (cxC X Nc sc C s₂ H₂ fp pins).env (.ref D)) L) L (bd D))
  (hs:∀ x,foldedSetIterable iter X.env x=pure x:=by intro _;rfl) :
  PE X (.DictComp kx vx [⟨tg,iter,ifs,0⟩] sc pos) (tDC js wi g bd):=by
 intro pins s σ H Q I h;rw[Dm];have a2:closureFor sc X.env=pure (aD sc X.env):=yU λ y hy hf=>I.ok.has y.1 (.inl (S.free y hy hf));refine ni (use:=none) rfl hs a2 S.kind S.names (thn (hi pins s σ H _ I h) λ v s1 h1=>thn h1 λ a5 d Z=>?_);obtain⟨it,fp,tn,J,U,e,O,T,B,f2,hw⟩:=Z;subst e;have r:∀ b∈fp,b<d.heap.objs.size:=λ b l=>let ⟨o,ho,_⟩:=T.obj _ _ B b l;cf ho;refine ir (qm S.nocell (by intro y hy;simp at hy) (λ i f a=>?_) S.kind);dsimp only at f a ⊢;generalize n:d.heap.push {cls:=.type "dict",dict:=none,data:=.dict #[]}=G at f a ⊢;have a7:G.objs.size=d.heap.objs.size+1:=by rw[<-n,iZ]
 have M:d.heap.objs.size≠G.objs.size:=by omega
 have j:d.heap.objs.size<=G.objs.size:=by omega
 have u:∀ b o,d.heap.get? b=some o->i.get? b=some o:=λ b o e=>a.extBut b o (dr (cw (cf e) j)) (ao _ (n ▸ ao _ e));have Y:i.get? d.heap.objs.size=some {cls:=.type "dict",dict:=none,data:=.dict #[]}:=a.extBut _ _ M (ao _ (n ▸ cg _ rfl))
 have new:ObjOk X.prog X.w (upd U d.heap.objs.size (.dK [])) i d.heap.objs.size (.dK []):=by
  refine⟨iA _,beq_eq_false_iff_ne.mpr (ox (dr O.big)),[],.nil,?_⟩;obtain⟨o,es,ep,h1,rest⟩:=Cg (knd:=qH X.prog X.w) d.heap;have Z:(d.heap.push {cls:=.type "dict",dict:=none,data:=.dict #[]}).get? d.heap.objs.size=some {cls:=.type "dict",dict:=none,data:=.dict #[]}:=cg _ rfl;have h3:=h1.symm.trans Z;exact⟨o,es,ep,Y.trans h3.symm,rest⟩
 have I4:=wX (js:=js) (Nc:=Nc) (tk:=d.toks+([]:List (Str×ar)).length) O S f2 r a3 j (be _) M u f new;have hn:U d.heap.objs.size=none:=O.fresh
 have f4:∀ b∈fp,zF (cxC X Nc sc G.objs.size d U fp pins) [] (upd U d.heap.objs.size (.dK [])) b:=λ b l=>by
  obtain⟨h0,h1,Z,h3,h4,h5⟩:=f2 b l;refine⟨?_,dr (cw (r b l) j),λ z=>?_,.inl l,λ x c z=>?_,λ p hp=>?_⟩
  ·rw[kM (dr (r b l))];exact h0
  ·rcases eK.mp (O.stkSub b z) with q | q
   ·exact h1 q
   ·exact Z q
  ·exact h4 x c (cM sc.names [] (λ z=>nomatch z) z)
  ·rcases ck.mp hp with z | z
   ·exact h5 p z
   ·exact absurd z (by simp)
 have a0:tn 0 i:=T.keep _ _ _ B λ b l o e=>u b o e
 have m:codeAny (model X.prog X.w) X.A (.compLoop (.DictComp kx vx [⟨tg,iter,ifs,0⟩] sc pos) 0 (.ref it) (.ref d.heap.objs.size) (compEnvC sc (aD sc X.env) G.objs.size X.env))
   (compPost (model X.prog X.w) X.A X.xe none (EP X pins σ Q) (.ref d.heap.objs.size) G.objs.size) {d with heap:=i,toks:=d.toks+([]:List (Str×ar)).length}:=by
  refine yT (X:=cxC X Nc sc G.objs.size d U fp pins) (.inr ⟨kx,vx,rfl⟩) hx hc (rO _ _ _ _ _ _ _ _ _ _) T (hg _ _ _ _ _) (l _ _ _ _ _ _ _) I4 a0 f4 (hw _ hn) λ a6 H' s' I' q=>?_;obtain⟨m',a4,_⟩:=I'.loc;exact⟨m',a4,λ h' a1=>⟨.ref d.heap.objs.size,H',wY O f2 j I' a1,rfl,q⟩⟩
 exact yD (.inr ⟨kx,vx,rfl⟩) rfl rfl m (T.self _ _ _ _ _ a0 m)
def cH{prog:eY}{w:iG}{A:gh}{E:ar->ay->Prop}{s:ay}{t f:au}{items:Array ar}{l j:ar}{lo hi:Option Int}{Q:ar->ay->Prop}(a:EZ s.heap t items)(g:s.heap.IsSliceOf f l j .none)(o:CK l lo)(n:CK j hi)
  (i:HT.sIx items.size 0 lo=0/\HT.sIx items.size items.size hi=items.size) (h:Q (.ref t) s):dq (model prog w) A (getItem (.ref t) (.ref f)) Q E s:=by
 obtain⟨os,d,b,m⟩:=id g;have c:s.TypeIs (.ref f) "slice":=⟨os,d,b⟩;unfold getItem
 try with_reducible refine km ?_
 first | refine ai (bp ?_) | skip
 refine ai (Df a.typeIs (by decide) ?_)
 refine ai (ju (name:=wx "__getitem__") a.typeIs jj
  (ky jj a.typeIs DD ?_ (DO _ _)))
 show dq _ _ (BN (.ref t) >>= _) _ _ s;refine ai (tupleItemsOf_ a ?_);refine ai (AA c ?_);rw[if_pos (by decide)];refine ai (HT.sliceApplied_gen g o n ?_);show dq _ _ (if(((HT.sIx items.size 0 lo:Nat):Int) == 0 && (1:Int) == 1 && (HT.sIx items.size items.size hi-HT.sIx items.size 0 lo) == items.size)=true then _ else _) _ _ s;rw[if_pos (by rw[i.1,i.2];simp)];unfold Ep
 first
  | refine ai (ai (AA a.typeIs (bp ?_)))
  | refine ai (AA a.typeIs (bp ?_))
 rw[if_pos (by decide)];exact ai (vf (bp ⟨_,rfl,bp h⟩))
inductive kRZ(K:bb)(x:V)(lo:Option Int)(hi:Option Int)(H:Hp)(Q:VK):Prop
 | mk:∀ a xs,(x=.ref a)->(SqT K H a xs)->((HT.sIx xs.length 0 lo=0/\HT.sIx xs.length xs.length hi=xs.length))->(Q (.ref a) H)->kRZ K x lo hi H Q
def kOT:SlR X (kRZ X.K):=by
 intro d s u H x v p y lo C A Q I g i j m h;obtain⟨a,n,rfl,o,l,q⟩:=h;cases g
 obtain⟨c,r,f,B⟩:=I.tuple o;have b:c.toArray.size=n.length:=by rw[fb];exact r.length.symm
 refine⟨"tuple",_,jj.lookup,f.typeIs,?_⟩;exact cH f i j m (by rw[b];exact l) ⟨.ref a,H,I,rfl,q⟩
def kWA(K:bb):V->Option Int->Option Int->Hp->VK->Prop:=λ x lo a H Q=>kRY K x lo a H Q\/kRZ K x lo a H Q
def kOS:SlR X (kWA X.K):=sl_tup.or kOT
end
end L2
namespace Cyc
def Adj:List Nat->Nat->Nat->Prop
 | x::y::r,a,b=>(a=x/\b=y)\/Adj (y::r) a b
 | _,_,_=>False
def Nx(row:List Nat)(a b:Nat):Prop:=Adj (row++row.head?.toList) a b
def kHW(x a b:Nat):¬ Adj [x] a b:=id
def cR(x y:Nat)(r:List Nat)(a b:Nat):Adj (x::y::r) a b↔(a=x/\b=y)\/Adj (y::r) a b:=Bl
theorem jN:∀(l:List Nat)(x:Nat)(r:List Nat)(a b:Nat),Adj (l++x::r) a b↔Adj (l++[x]) a b\/Adj (x::r) a b
 | [],x,r,a,b=>⟨.inr,λ h=>h.elim (λ z=>(kHW x a b z).elim) id⟩
 | [y],x,r,a,b=>by
  show(a=y/\b=x)\/Adj (x::r) a b↔((a=y/\b=x)\/Adj [x] a b)\/Adj (x::r) a b;have:=kHW x a b;exact⟨λ h=>h.elim (λ z=>.inl (.inl z)) .inr,λ h=>h.elim (λ z=>z.elim .inl λ q=>(this q).elim) .inr⟩
 | y::z::l,x,r,a,b=>by
  have c:=jN (z::l) x r a b;show(a=y/\b=z)\/Adj (z::l++x::r) a b↔((a=y/\b=z)\/Adj (z::l++[x]) a b)\/Adj (x::r) a b;rw[c];exact⟨λ h=>h.elim (λ q=>.inl (.inl q)) λ q=>q.elim (λ q=>.inl (.inr q)) .inr,λ h=>h.elim (λ q=>q.elim .inl λ q=>.inr (.inl q)) λ q=>.inr (.inr q)⟩
theorem qP:∀{l:List Nat}{a b:Nat},Adj l a b->a∈l/\b∈l.tail
 | [],_,_,h=>h.elim
 | [_],_,_,h=>h.elim
 | x::y::r,a,b,h=>by
  rcases h with⟨rfl,rfl⟩ | h
  ·exact⟨fc,fc⟩
  ·have:=qP h
   exact⟨eD _ this.1,eD _ this.2⟩
def tN(x:Nat)(r:List Nat)(a b:Nat):Nx (x::r) a b↔Adj (x::r++[x]) a b:=Bl
def jR(A C:List Nat)(a b:Nat):Nx (A++C) a b↔Nx (C++A) a b:=by
 cases A with
 | nil=>rw[qi,iP]
 | cons a0 A' =>
  cases C with
  | nil=>rw[qi,iP]
  | cons c0 C' =>
   have d:Nx (a0::A'++c0::C') a b↔Adj ((a0::A')++c0::(C'++[a0])) a b:=by
    show Adj ((a0::A'++c0::C')++[a0]) a b↔_;rw[dh];exact Bl
   have c:Nx (c0::C'++a0::A') a b↔Adj ((c0::C')++a0::(A'++[c0])) a b:=by
    show Adj ((c0::C'++a0::A')++[c0]) a b↔_;rw[dh];exact Bl
   rw[d,c,jN (a0::A') c0,jN (c0::C') a0];exact Or.comm
def wD(v:Nat)(R:List Nat)(a b:Nat):Nx (v::R) a b↔(a=v/\b=(R++[v]).headD 0)\/Adj (R++[v]) a b:=by
 rw[tN]
 cases R with
 | nil=>exact Bl
 | cons y r=>exact Bl
theorem yH:∀{R:List Nat}{v a b:Nat},v∉R->Adj (R++[v]) a b->a≠v
 | [],_,_,_,_,h=>h.elim
 | x::r,v,a,b,hv,h=>by
  have c:v∉r:=λ z=>hv (eD _ z);have d:x≠v:=λ z=>hv (by rw[z];exact fc)
  cases r with
  | nil =>
   rcases h with⟨rfl,_⟩ | h
   ·exact d
   ·exact h.elim
  | cons y r' =>
   rcases h with⟨rfl,_⟩ | h
   ·exact d
   ·exact yH c h
def kSN{A B:List Nat}{v w:Nat}(nd:(A++v::B).Nodup)(f:w∉A++v::B)(a b:Nat) :
  Nx (A++v::w::B) a b↔(a=v/\b=w)\/(a=w/\Nx (A++v::B) v b)\/(a≠v/\Nx (A++v::B) a b):=by
 rw[jR A (v::w::B),jR A (v::B),jR A (v::B)];simp only[kj]
 have c:v∉B++A:=λ z=>by
  rw[dc]at nd;rcases ck.mp z with z | z
  ·exact(gj.mp nd.2.1).1 z
  ·exact nd.2.2 v z v fc rfl
 have l:w≠v:=λ z=>f (by rw[z];simp);generalize j:B++A=R at c;rw[wD,wD,wD];have i:(w::R++[v]).headD 0=w:=rfl
 have g:Adj (w::R++[v]) a b↔(a=w/\b=(R++[v]).headD 0)\/Adj (R++[v]) a b:=by
  cases R with
  | nil=>exact Bl
  | cons y r=>exact Bl
 rw[i,g];constructor
 ·rintro(h | h | h)
  ·exact .inl h
  ·exact .inr (.inl ⟨h.1,.inl ⟨rfl,h.2⟩⟩)
  ·exact .inr (.inr ⟨yH c h,.inr h⟩)
 ·rintro(h | ⟨h,d⟩ | ⟨h,d⟩)
  ·exact .inl h
  ·rcases d with⟨_,z⟩ | z
   ·exact .inr (.inl ⟨h,z⟩)
   ·exact(yH c z rfl).elim
  ·rcases d with⟨z,_⟩ | z
   ·exact(h z).elim
   ·exact .inr (.inr z)
theorem fS:∀{l:List Nat}{a f b:Nat},l.tail.Nodup->Adj l a b->Adj l f b->a=f
 | [],_,_,_,_,h,_=>h.elim
 | [_],_,_,_,_,h,_=>h.elim
 | x::y::r,a,f,b,nd,h,d=>by
  have c:(y::r).Nodup:=nd;rcases h with⟨rfl,rfl⟩ | h
  ·rcases d with⟨rfl,_⟩ | d
   ·rfl
   ·exact((gj.mp c).1 (qP d).2).elim
  ·rcases d with⟨rfl,rfl⟩ | d
   ·exact((gj.mp c).1 (qP h).2).elim
   ·exact fS (l:=y::r) (gj.mp c).2 h d
def uE{row:List Nat}{v:Nat}(h:v∈row):∃ A B,row=A++v::B:=yx h
def uT{A B:List Nat}{v:Nat}(nd:(A++v::B).Nodup):v∉B++A/\(B++A).Nodup:=by
 rw[dc]at nd;obtain⟨i,j,c⟩:=nd;obtain⟨f,g⟩:=gj.mp j;refine⟨λ z=>?_,?_⟩
 ·rcases ck.mp z with z | z
  ·exact f z
  ·exact c v z v fc rfl
 ·rw[dc]
  exact⟨g,i,λ a h b d e=>c b d a (eD _ h) e.symm⟩
def kW{row:List Nat}{a b:Nat}(h:Nx row a b):a∈row/\b∈row:=by
 cases row with
 | nil=>exact h.elim
 | cons x r =>
  have q:=qP h;constructor
  ·rcases ck.mp q.1 with z | z
   ·exact z
   ·exact eK.mpr (.inl (by simpa using z))
  ·rcases ck.mp q.2 with z | z
   ·exact eD _ z
   ·exact eK.mpr (.inl (by simpa using z))
def jZ{row:List Nat}{a b c:Nat}(nd:row.Nodup)(h:Nx row a b)(h':Nx row a c):b=c:=by
 obtain⟨A,B,rfl⟩:=uE (kW h).1;rw[jR]at h h';simp only[kj]at h h';obtain⟨d,f⟩:=uT nd;rw[wD]at h h';rcases h with⟨_,rfl⟩ | h
 ·rcases h' with⟨_,rfl⟩ | h'
  ·rfl
  ·exact(yH d h' rfl).elim
 ·exact(yH d h rfl).elim
def yM{row:List Nat}{a d b:Nat}(nd:row.Nodup)(h:Nx row a b)(h':Nx row d b):a=d:=by
 obtain⟨A,B,rfl⟩:=uE (kW h).2;rw[jR]at h h';simp only[kj]at h h';obtain⟨g,i⟩:=uT nd;rw[tN]at h h';refine fS ?_ h h';show(B++A++[b]).Nodup;rw[dc];exact⟨i,by simp,λ x f y c e=>g (by simp at c;rw[<-c,<-e];exact f)⟩
def kSO{A B:List Nat}{q:Nat}(nd:(A++q::B).Nodup)(a b:Nat) :
  Nx (A++B) a b↔(a≠q/\b≠q/\Nx (A++q::B) a b)\/(a≠q/\b≠q/\Nx (A++q::B) a q/\Nx (A++q::B) q b):=by
 rw[jR A B,jR A (q::B),jR A (q::B),jR A (q::B)];simp only[kj];obtain⟨i,p⟩:=uT nd;generalize B++A=R at i p;clear nd
 cases R with
 | nil =>
  constructor
  ·intro h;exact h.elim
  ·rintro(⟨h1,f,g⟩ | ⟨h1,f,g,_⟩)
   ·rcases g with⟨z,_⟩ | z
    ·exact(h1 z).elim
    ·exact z.elim
   ·rcases g with⟨z,_⟩ | z
    ·exact(h1 z).elim
    ·exact z.elim
 | cons x T =>
  rw[wD q (x::T) a b,wD q (x::T) a q,wD q (x::T) q b,tN x T];have m:(x::T++[q]).headD 0=x:=rfl;rw[m]
  have l:x≠q:=λ z=>i (by rw[z];exact fc)
  have key:∀(T:List Nat)(x z a b:Nat),Adj (x::T++[z]) a b↔Adj (x::T) a b\/(a=(x::T).getLast (by simp)/\b=z):=by
   intro T
   induction T with
   | nil=>intro x z a b;exact⟨λ h=>h.elim .inr λ q=>q.elim,λ h=>h.elim (λ q=>q.elim) .inl⟩
   | cons y r ih =>
    intro x z a b;show(a=x/\b=y)\/Adj (y::r++[z]) a b↔((a=x/\b=y)\/Adj (y::r) a b)\/_;rw[ih y z a b,List.getLast_cons (Ai y r)];exact or_assoc.symm
  rw[key T x x,key T x q,key T x q,key T x q]
  have mem:∀{c d},Adj (x::T) c d->c≠q/\d≠q:=λ{c d} h=>by
   have:=qP h;exact⟨λ z=>i (z ▸ this.1),λ z=>i (z ▸ eD _ this.2)⟩
  have j:(x::T).getLast (by simp)≠q:=λ z=>i (z ▸ List.getLast_mem _);constructor
  ·rintro(h | ⟨h1,f⟩)
   ·exact .inl ⟨(mem h).1,(mem h).2,.inr (.inl h)⟩
   ·refine .inr ⟨by rw[h1];exact j,by rw[f];exact l,.inr (.inr ⟨h1,rfl⟩),.inl ⟨rfl,f⟩⟩
  ·rintro(⟨h1,f,g⟩ | ⟨h1,f,g,n⟩)
   ·rcases g with⟨z,_⟩ | z | ⟨_,z⟩
    ·exact(h1 z).elim
    ·exact .inl z
    ·exact(f z).elim
   ·have s:a=(x::T).getLast (by simp):=by
     rcases g with⟨z,_⟩ | z | ⟨z,_⟩
     ·exact(h1 z).elim
     ·exact((mem z).2 rfl).elim
     ·exact z
    have o:b=x:=by
     rcases n with⟨_,z⟩ | z | ⟨z,_⟩
     ·exact z
     ·exact((mem z).1 rfl).elim
     ·exact(j z.symm).elim
    exact .inr ⟨s,o⟩
end Cyc
namespace Tri
open Cyc
abbrev Rows:=List (List Nat)
def R(L:Rows)(q a b:Nat):Prop:=∃ row,L[q]?=some row/\Nx row a b
def E(L:Rows)(a b:Nat):Prop:=∃ row,L[a]?=some row/\b∈row
inductive Reach(L:Rows):Nat->Nat->Prop
 | here (a:Nat):Reach L a a
 | more {a b c:Nat}:Reach L a b->E L b c->Reach L a c
def Reach.trans{L:Rows}{a b c:Nat}(h:Reach L a b)(h':Reach L b c):Reach L a c:=by
 induction h' with
 | here=>exact h
 | more _ e ih=>exact .more ih e
theorem Reach.by{L c:Rows}(h:∀ a b,E L a b->Reach c a b){a b:Nat}(r:Reach L a b):Reach c a b:=by
 induction r with
 | here=>exact .here _
 | more _ e ih=>exact ih.trans (h _ _ e)
structure Good(L:Rows):Prop where
 three:3<=L.length
 ne:∀(p:Nat)(row:List Nat),L[p]?=some row->row≠[]
 nd:∀(p:Nat)(row:List Nat),L[p]?=some row->row.Nodup
 rng:∀(p:Nat)(row:List Nat)(a:Nat),L[p]?=some row->a∈row->a<L.length/\a≠p
 tri:∀ q a b,R L q a b->R L a b q
 con:∀ p,p<L.length->Reach L 0 p
 tot:(L.map ip).sum+12=6*L.length
def mC{L:Rows}{p:Nat}{row:List Nat}(hp:p<L.length)(x a b:Nat):R (L.set p row) x a b↔(x=p/\Nx row a b)\/(x≠p/\R L x a b):=by
 unfold R;by_cases h:x=p
 ·subst h
  simp[jx hp]
 ·simp[eo (ox h),h]
def kUG{L:Rows}{row:List Nat}(x a b:Nat):R (L++[row]) x a b↔R L x a b\/(x=L.length/\Nx row a b):=by
 unfold R;rcases xj x L.length with h | h | h
 ·rw[bf h]
  constructor
  ·exact .inl
  ·rintro(z | ⟨z,_⟩)
   ·exact z
   ·omega
 ·subst h
  rw[bz (be _),ud (be _)];simp
 ·rw[ud (by simp;omega),ud (by omega)]
  constructor
  ·rintro⟨_,z,_⟩;cases z
  ·rintro(⟨_,z,_⟩ | ⟨z,_⟩)
   ·cases z
   ·omega
def zT{L:Rows}{q a b:Nat}(h:R L q a b):E L q a/\E L q b:=by
 obtain⟨row,e,n⟩:=h;exact⟨⟨row,e,(kW n).1⟩,⟨row,e,(kW n).2⟩⟩
def yK{L:Rows}(G:Good L){q a b c:Nat}(h:R L q a b)(h':R L q a c):b=c:=by
 obtain⟨row,e,n⟩:=h;obtain⟨f,d,g⟩:=h';rw[e]at d
 cases d
 exact jZ (G.nd q row e) n g
def kMC{L:Rows}(G:Good L){q a f b:Nat}(h:R L q a b)(h':R L q f b):a=f:=by
 obtain⟨row,e,n⟩:=h;obtain⟨d,c,g⟩:=h';rw[e]at c
 cases c
 exact yM (G.nd q row e) n g
def wS{L:Rows}(G:Good L){q a b:Nat}(h:R L q a b):q<L.length/\a<L.length/\b<L.length/\a≠q/\b≠q:=by
 obtain⟨row,e,n⟩:=h;have m:=kW n;have:=G.rng q row a e m.1;have:=G.rng q row b e m.2;have:q<L.length:=(ak.mp e).1;omega
def kRB{row:List Nat}{b:Nat}(h:b∈row):∃ a,Nx row a b:=by
 obtain⟨A,B,rfl⟩:=uE h
 have key:∀(R:List Nat),∃ a,Nx (b::R) a b:=by
  intro R
  cases R with
  | nil=>exact⟨b,.inl ⟨rfl,rfl⟩⟩
  | cons y r =>
   have:∀(r:List Nat)(y:Nat),∃ a,Adj (y::r++[b]) a b:=by
    intro r
    induction r with
    | nil=>intro y;exact⟨y,.inl ⟨rfl,rfl⟩⟩
    | cons z r ih=>intro y;obtain⟨a,q⟩:=ih z;exact⟨a,.inr q⟩
   obtain⟨a,q⟩:=this r y;exact⟨a,.inr q⟩
 obtain⟨a,q⟩:=key (B++A);exact⟨a,(jR A (b::B) a b).mpr q⟩
def dF{row:List Nat}{a:Nat}(h:a∈row):∃ b,Nx row a b:=by
 obtain⟨A,B,rfl⟩:=uE h;refine⟨(B++A++[a]).headD 0,(jR A (a::B) _ _).mpr ?_⟩;exact(wD a (B++A) a _).mpr (.inl ⟨rfl,rfl⟩)
def Good.sym{L:Rows}(G:Good L){a b:Nat}(h:E L a b):E L b a:=by
 obtain⟨row,e,m⟩:=h;obtain⟨c,n⟩:=dF m;have:=G.tri a b c ⟨row,e,n⟩;exact(zT this).2
def jQ(row:List Nat)(v w:Nat):List Nat:=row.take (row.idxOf v+1)++w::row.drop (row.idxOf v+1)
def xB(row:List Nat)(q:Nat):List Nat:=row.eraseIdx (row.idxOf q)
def dL{A B:List Nat}{v:Nat}(h:v∉A):(A++v::B).idxOf v=A.length:=by
 rw[xk,if_neg h];simp
def xI{row:List Nat}{v:Nat}(h:v∈row)(nd:row.Nodup):∃ A B,row=A++v::B/\v∉A/\v∉B:=by
 obtain⟨A,B,rfl⟩:=uE h;have q:=uT nd;exact⟨A,B,rfl,λ z=>q.1 (dj _ z),λ z=>q.1 (dw _ z)⟩
def tQ{A B:List Nat}{v w:Nat}(h:v∉A):jQ (A++v::B) v w=A++v::w::B:=by
 unfold jQ;rw[dL h];have e:A++v::B=(A++[v])++B:=by simp
 rw[e,ya (by simp),Ap (by simp)];simp
def tV{A B:List Nat}{q:Nat}(h:q∉A):xB (A++q::B) q=A++B:=by
 unfold xB;rw[dL h,zw (be _)];simp
def xX{row:List Nat}{v w:Nat}(h:v∈row):(jQ row v w).length=row.length+1:=by
 unfold jQ;simp only[bj,cx,iC,iN];have:=fq h;omega
def kCL{row:List Nat}{q:Nat}(h:q∈row):(xB row q).length+1=row.length:=by
 unfold xB;have:=fq h;rw[List.length_eraseIdx_of_lt this];omega
def xW{row:List Nat}{v w x:Nat}(h:v∈row)(nd:row.Nodup):x∈jQ row v w↔x∈row\/x=w:=by
 obtain⟨A,B,rfl,hA,hB⟩:=xI h nd;rw[tQ hA];simp only[ck,eK]
 grind
def vD{row:List Nat}{q x:Nat}(h:q∈row)(nd:row.Nodup):x∈xB row q↔x∈row/\x≠q:=by
 obtain⟨A,B,rfl,hA,hB⟩:=xI h nd;rw[tV hA];simp only[ck,eK]
 grind
def cD{row:List Nat}{v w:Nat}(h:v∈row)(nd:row.Nodup)(a:w∉row):(jQ row v w).Nodup:=by
 obtain⟨A,B,rfl,hA,hB⟩:=xI h nd;rw[tQ hA];simp only[dc,gj,eK,ck]at nd a ⊢
 grind
def kHA{row:List Nat}{q:Nat}(h:q∈row)(nd:row.Nodup):(xB row q).Nodup:=by
 obtain⟨A,B,rfl,hA,hB⟩:=xI h nd;rw[tV hA];simp only[dc,gj,eK]at nd ⊢
 grind
def bU{row:List Nat}{v w:Nat}(h:v∈row)(nd:row.Nodup)(c:w∉row)(a b:Nat):Nx (jQ row v w) a b↔(a=v/\b=w)\/(a=w/\Nx row v b)\/(a≠v/\Nx row a b):=by
 obtain⟨A,B,rfl,hA,hB⟩:=xI h nd;rw[tQ hA];exact kSN nd c a b
def kGR{row:List Nat}{q:Nat}(h:q∈row)(nd:row.Nodup)(a b:Nat):Nx (xB row q) a b↔(a≠q/\b≠q/\Nx row a b)\/(a≠q/\b≠q/\Nx row a q/\Nx row q b):=by
 obtain⟨A,B,rfl,hA,hB⟩:=xI h nd;rw[tV hA];exact kSO nd a b
theorem zI:∀(L:Rows)(p:Nat)(row new:List Nat),L[p]?=some row->((L.set p new).map ip).sum+row.length=(L.map ip).sum+new.length
 | [],p,row,new,h=>by simp at h
 | x::r,0,row,new,h=>by
  simp at h;subst h;simp;omega
 | x::r,p+1,row,new,h=>by
  simp at h;have q:=zI r p row new h;simp only[List.set_cons_succ,gm,Ab];omega
def bD(L:Rows)(p q r:Nat)(b a c:List Nat):Rows :=
 ((L.set p (jQ b q L.length)).set q (jQ a r L.length)).set r (jQ c p L.length)++[[p,q,r]]
def nx3(p q r a b:Nat):Nx [p,q,r] a b↔(a=p/\b=q)\/(a=q/\b=r)\/(a=r/\b=p):=by
 show((a=p/\b=q)\/(a=q/\b=r)\/(a=r/\b=p)\/False)↔_;simp
def wF{L:Rows}{p:Nat}{new:List Nat}(hp:p<L.length){x:Nat}{row:List Nat}(h:(L.set p new)[x]?=some row):(x=p/\row=new)\/(x≠p/\L[x]?=some row):=by
 by_cases e:x=p
 ·subst e
  rw[jx hp]at h;exact .inl ⟨rfl,(bg h).symm⟩
 ·rw[eo (ox e)]at h
  exact .inr ⟨e,h⟩
def nI{L:Rows}{p:Nat}{new:List Nat}(hp:p<L.length)(x b:Nat):E (L.set p new) x b↔(x=p/\b∈new)\/(x≠p/\E L x b):=by
 unfold E;by_cases h:x=p
 ·subst h
  simp[jx hp]
 ·simp[eo (ox h),h]
def kTK{L:Rows}{row:List Nat}{x b:Nat}(h:E L x b):E (L++[row]) x b:=by
 obtain⟨r,e,m⟩:=h;exact⟨r,by rw[bf (ak.mp e).1];exact e,m⟩
section
variable {L:Rows} {p q r:Nat} {rp rq rr:List Nat}
def kOH(G:Good L)(hp:L[p]?=some rp)(A:L[q]?=some rq)(y:L[r]?=some rr)(f:Nx rq r p):Good (bD L p q r rp rq rr):=by
 have U:R L q r p:=⟨rq,A,f⟩;have Fr:R L r p q:=G.tri _ _ _ U;have Fp:R L p q r:=G.tri _ _ _ Fr;have S:Nx rr p q:=by obtain⟨x,e,n⟩:=Fr;rw[y]at e;cases e;exact n
 have T:Nx rp q r:=by obtain⟨x,e,n⟩:=Fp;rw[hp]at e;cases e;exact n
 obtain⟨lq,Z,lp,o,j⟩:=wS G U;obtain⟨-,-,-,l,-⟩:=wS G Fr;have M:=G.nd p rp hp;have J:=G.nd q rq A;have H:=G.nd r rr y;have vp:L.length∉rp:=λ z=>qj _ (G.rng p rp _ hp z).1;have vq:L.length∉rq:=λ z=>qj _ (G.rng q rq _ A z).1;have Y:L.length∉rr:=λ z=>qj _ (G.rng r rr _ y z).1;have mp:=(kW T).1;have D:=(kW f).1;have C:=(kW S).1;have Q:p<L.length:=lp;have N:q<(L.set p (jQ rp q L.length)).length:=by simpa using lq
 have O:r<((L.set p (jQ rp q L.length)).set q (jQ rq r L.length)).length:=by simpa using Z
 have len:(bD L p q r rp rq rr).length=L.length+1:=by simp[bD]
 have g:(((L.set p (jQ rp q L.length)).set q (jQ rq r L.length)).set r (jQ rr p L.length)).length=L.length:=by simp
 have look:∀(x:Nat)(row:List Nat),(bD L p q r rp rq rr)[x]?=some row->(x=L.length/\row=[p,q,r])\/(x=r/\row=jQ rr p L.length)\/(x=q/\row=jQ rq r L.length)\/(x=p/\row=jQ rp q L.length)\/(x≠p/\x≠q/\x≠r/\L[x]?=some row):=by
  intro x row h;unfold bD at h;by_cases hx:x<L.length
  ·rw[bf (by rw[g];exact hx)]at h
   rcases wF O h with z | ⟨n3,h⟩
   ·exact .inr (.inl z)
   ·rcases wF N h with z | ⟨n2,h⟩
    ·exact .inr (.inr (.inl z))
    ·rcases wF Q h with z | ⟨n1,h⟩
     ·exact .inr (.inr (.inr (.inl z)))
     ·exact .inr (.inr (.inr (.inr ⟨n1,n2,n3,h⟩)))
  ·rw[bz (by rw[g];omega),g]at h
   have:x-L.length=0:=by
    rcases Nat.eq_zero_or_pos (x-L.length) with z | z
    ·exact z
    ·rw[ud (by simp;omega)]at h;cases h
   rw[this]at h;exact .inl ⟨by omega,(bg h).symm⟩
 have s:∀ x a b,R (bD L p q r rp rq rr) x a b↔(x=L.length/\((a=p/\b=q)\/(a=q/\b=r)\/(a=r/\b=p)))\/(x=r/\((a=p/\b=L.length)\/(a=L.length/\b=q)\/(a≠p/\R L r a b)))\/(x=q/\((a=r/\b=L.length)\/(a=L.length/\b=p)\/(a≠r/\R L q a b)))\/(x=p/\((a=q/\b=L.length)\/(a=L.length/\b=r)\/(a≠q/\R L p a b)))\/(x≠p/\x≠q/\x≠r/\R L x a b):=by
  intro x a b;have e1:Nx rp q b↔b=r:=⟨λ z=>jZ M z T,λ z=>z ▸ T⟩;have e2:Nx rq r b↔b=p:=⟨λ z=>jZ J z f,λ z=>z ▸ f⟩;have e3:Nx rr p b↔b=q:=⟨λ z=>jZ H z S,λ z=>z ▸ S⟩;have g1:R L p a b↔Nx rp a b:=⟨λ⟨z,e,n⟩=>by rw[hp]at e;cases e;exact n,λ n=>⟨rp,hp,n⟩⟩;have g2:R L q a b↔Nx rq a b:=⟨λ⟨z,e,n⟩=>by rw[A]at e;cases e;exact n,λ n=>⟨rq,A,n⟩⟩;have g3:R L r a b↔Nx rr a b:=⟨λ⟨z,e,n⟩=>by rw[y]at e;cases e;exact n,λ n=>⟨rr,y,n⟩⟩;unfold bD;rw[kUG,mC O,mC N,mC Q,bU mp M vp,bU D J vq,bU C H Y,nx3,g,e1,e2,e3,g1,g2,g3];have no:¬ R L L.length a b:=λ z=>by have:=wS G z;omega
  clear U Fr Fp S T M J H vp vq Y mp D C Q N O len g look hp A y f e1 e2 e3 g1 g2 g3 G;by_cases x0:x=L.length
  ·subst x0
   have n1:¬ L.length=p:=ja lp;have n2:¬ L.length=q:=ja lq;have n3:¬ L.length=r:=ja Z;simp only[n1,n2,n3,no,ne_eq,not_false_eq_true,false_and,true_and,and_false,or_false,false_or,not_true_eq_false]
  ·by_cases B:x=r
   ·subst B
    have n1:¬ x=q:=o;have n2:¬ x=p:=λ z=>l z.symm;simp only[x0,n1,n2,ne_eq,not_false_eq_true,false_and,true_and,and_false,or_false,false_or,not_true_eq_false]
   ·by_cases I:x=q
    ·subst I
     have n2:¬ x=p:=λ z=>j z.symm;simp only[x0,B,n2,ne_eq,not_false_eq_true,false_and,true_and,and_false,or_false,false_or,not_true_eq_false]
    ·by_cases X:x=p
     ·subst X
      simp only[x0,B,I,ne_eq,not_false_eq_true,false_and,true_and,and_false,or_false,false_or,not_true_eq_false]
     ·simp only[x0,B,I,X,ne_eq,not_false_eq_true,false_and,true_and,and_false,or_false,false_or,not_true_eq_false]
 have v1:L.length≠p:=ja lp;have v2:L.length≠q:=ja lq
 have v3:L.length≠r:=ja Z
 have v:∀ x a b,R L x a b->¬ (x=p/\a=q)->¬ (x=q/\a=r)->¬ (x=r/\a=p)->R (bD L p q r rp rq rr) x a b:=by
  intro x a b h h1 h2 h3;rw[s];clear U Fr Fp S T lq Z lp o j l M J H vp vq Y mp D C Q N O len g look hp A y f s G v1 v2 v3;by_cases B:x=r
  ·subst B;exact .inr (.inl ⟨rfl,.inr (.inr ⟨λ z=>h3 ⟨rfl,z⟩,h⟩)⟩)
  ·by_cases I:x=q
   ·subst I;exact .inr (.inr (.inl ⟨rfl,.inr (.inr ⟨λ z=>h2 ⟨rfl,z⟩,h⟩)⟩))
   ·by_cases X:x=p
    ·subst X;exact .inr (.inr (.inr (.inl ⟨rfl,.inr (.inr ⟨λ z=>h1 ⟨rfl,z⟩,h⟩)⟩)))
    ·exact .inr (.inr (.inr (.inr ⟨X,I,B,h⟩)))
 have d:∀ x a b,R L x a b->¬ (x=p/\a=q)->¬ (x=q/\a=r)->¬ (x=r/\a=p)->R (bD L p q r rp rq rr) a b x:=by
  intro x a b h h1 h2 h3;have i:=G.tri _ _ _ h;clear S T lq Z lp o j l M J H vp vq Y mp D C Q N O len g look hp A y f s v1 v2 v3;refine v _ _ _ i (λ z=>?_) (λ z=>?_) (λ z=>?_)
  ·obtain⟨rfl,rfl⟩:=z
   exact h3 ⟨yK G i Fp,rfl⟩
  ·obtain⟨rfl,rfl⟩:=z
   exact h1 ⟨yK G i U,rfl⟩
  ·obtain⟨rfl,rfl⟩:=z
   exact h2 ⟨yK G i Fr,rfl⟩
 have c:∀ x a b,((x=L.length/\((a=p/\b=q)\/(a=q/\b=r)\/(a=r/\b=p)))\/(x=r/\((a=p/\b=L.length)\/(a=L.length/\b=q)))\/(x=q/\((a=r/\b=L.length)\/(a=L.length/\b=p)))\/(x=p/\((a=q/\b=L.length)\/(a=L.length/\b=r))))->R (bD L p q r rp rq rr) x a b:=by
  intro x a b h;rw[s];rcases h with h | ⟨h,i | i⟩ | ⟨h,i | i⟩ | ⟨h,i | i⟩
  ·exact .inl h
  ·exact .inr (.inl ⟨h,.inl i⟩)
  ·exact .inr (.inl ⟨h,.inr (.inl i)⟩)
  ·exact .inr (.inr (.inl ⟨h,.inl i⟩))
  ·exact .inr (.inr (.inl ⟨h,.inr (.inl i)⟩))
  ·exact .inr (.inr (.inr (.inl ⟨h,.inl i⟩)))
  ·exact .inr (.inr (.inr (.inl ⟨h,.inr (.inl i)⟩)))
 have u:∀ a b,E L a b->E (bD L p q r rp rq rr) a b:=by
  intro a b h;unfold bD;refine kTK ?_;rw[nI O,nI N,nI Q,xW mp M,xW D J,xW C H];obtain⟨row,e,m⟩:=h;clear U Fr Fp S T lq Z lp o j l M J H vp vq Y mp D C Q N O len g look f s v d c G v1 v2 v3;by_cases B:a=r
  ·subst B;rw[y]at e;cases e;exact .inl ⟨rfl,.inl m⟩
  ·by_cases I:a=q
   ·subst I;rw[A]at e;cases e;exact .inr ⟨B,.inl ⟨rfl,.inl m⟩⟩
   ·by_cases X:a=p
    ·subst X;rw[hp]at e;cases e;exact .inr ⟨B,.inr ⟨I,.inl ⟨rfl,.inl m⟩⟩⟩
    ·exact .inr ⟨B,.inr ⟨I,.inr ⟨X,row,e,m⟩⟩⟩
 refine⟨by rw[len];have:=G.three;omega,?_,?_,?_,?_,?_,?_⟩
 ·intro x row h
  rcases look x row h with⟨_,rfl⟩ | ⟨_,rfl⟩ | ⟨_,rfl⟩ | ⟨_,rfl⟩ | ⟨_,_,_,h⟩
  ·simp
  ·intro z;have:=xX (w:=L.length) C;rw[z]at this;simp at this
  ·intro z;have:=xX (w:=L.length) D;rw[z]at this;simp at this
  ·intro z;have:=xX (w:=L.length) mp;rw[z]at this;simp at this
  ·exact G.ne _ _ h
 ·intro x row h
  rcases look x row h with⟨_,rfl⟩ | ⟨_,rfl⟩ | ⟨_,rfl⟩ | ⟨_,rfl⟩ | ⟨_,_,_,h⟩
  ·simp only[gj,eK,rm,or_false,yk,and_true,not_false_eq_true]
   exact⟨λ z=>z.elim j l,λ z=>o z.symm⟩
  ·exact cD C H Y
  ·exact cD D J vq
  ·exact cD mp M vp
  ·exact G.nd _ _ h
 ·intro x row a h m
  rw[len]
  replace h:=look x row h
  clear U Fr Fp S T vp vq Y Q N O len g look f s v d c u;rcases h with⟨rfl,rfl⟩ | ⟨rfl,rfl⟩ | ⟨rfl,rfl⟩ | ⟨rfl,rfl⟩ | ⟨_,_,_,h⟩
  ·simp only[eK,rm,or_false]at m
   clear o j l v1 v2 v3;omega
  ·rcases(xW C H).mp m with z | z
   ·have:=G.rng _ _ _ y z
    exact⟨xm this.1,this.2⟩
   ·subst z
    exact⟨CA _,ja Z⟩
  ·rcases(xW D J).mp m with z | z
   ·have:=G.rng _ _ _ A z
    exact⟨xm this.1,this.2⟩
   ·subst z
    exact⟨CA _,ja lq⟩
  ·rcases(xW mp M).mp m with z | z
   ·have:=G.rng _ _ _ hp z
    exact⟨xm this.1,this.2⟩
   ·subst z
    exact⟨CA _,ja lp⟩
  ·have:=G.rng _ _ _ h m
   exact⟨xm this.1,this.2⟩
 ·intro x a b h
  rw[s]at h;clear U Fr Fp S T lq Z lp M J H vp vq Y mp D C Q N O len g look hp A y f s v u G v1 v2 v3;rcases h with⟨rfl,⟨rfl,rfl⟩ | ⟨rfl,rfl⟩ | ⟨rfl,rfl⟩⟩ | ⟨rfl,⟨rfl,rfl⟩ | ⟨rfl,rfl⟩ | ⟨h,i⟩⟩ | ⟨rfl,⟨rfl,rfl⟩ | ⟨rfl,rfl⟩ | ⟨h,i⟩⟩ | ⟨rfl,⟨rfl,rfl⟩ | ⟨rfl,rfl⟩ | ⟨h,i⟩⟩ | ⟨h1,h2,h3,i⟩
  ·exact c _ _ _ (.inr (.inr (.inr ⟨rfl,.inl ⟨rfl,rfl⟩⟩)))
  ·exact c _ _ _ (.inr (.inr (.inl ⟨rfl,.inl ⟨rfl,rfl⟩⟩)))
  ·exact c _ _ _ (.inr (.inl ⟨rfl,.inl ⟨rfl,rfl⟩⟩))
  ·exact c _ _ _ (.inr (.inr (.inr ⟨rfl,.inr ⟨rfl,rfl⟩⟩)))
  ·exact c _ _ _ (.inl ⟨rfl,.inr (.inl ⟨rfl,rfl⟩)⟩)
  ·exact d _ _ _ i (λ z=>l z.1.symm) (λ z=>o z.1) λ z=>h z.2
  ·exact c _ _ _ (.inr (.inl ⟨rfl,.inr ⟨rfl,rfl⟩⟩))
  ·exact c _ _ _ (.inl ⟨rfl,.inl ⟨rfl,rfl⟩⟩)
  ·exact d _ _ _ i (λ z=>j z.1.symm) (λ z=>h z.2) λ z=>o z.1.symm
  ·exact c _ _ _ (.inr (.inr (.inl ⟨rfl,.inr ⟨rfl,rfl⟩⟩)))
  ·exact c _ _ _ (.inl ⟨rfl,.inr (.inr ⟨rfl,rfl⟩)⟩)
  ·exact d _ _ _ i (λ z=>h z.2) (λ z=>j z.1) λ z=>l z.1
  ·exact d _ _ _ i (λ z=>h1 z.1) (λ z=>h2 z.1) λ z=>h3 z.1
 ·intro x hx
  rw[len]at hx;by_cases h:x=L.length
  ·subst h
   refine .more ((G.con p lp).by λ a b e=>.more (.here _) (u a b e)) ?_;exact(zT (c p q L.length (.inr (.inr (.inr ⟨rfl,.inl ⟨rfl,rfl⟩⟩))))).2
  ·exact(G.con x (by omega)).by λ a b e=>.more (.here _) (u a b e)
 ·rw[len]
  unfold bD;have t:=G.tot;have s1:=zI L p rp (jQ rp q L.length) hp;have a0:(L.set p (jQ rp q L.length))[q]?=some rq:=by rw[eo j];exact A
  have s2:=zI _ q rq (jQ rq r L.length) a0;have a1:((L.set p (jQ rp q L.length)).set q (jQ rq r L.length))[r]?=some rr:=by rw[eo (λ z=>o z.symm),eo l];exact y
  have s3:=zI _ r rr (jQ rr p L.length) a1;rw[xX mp]at s1;rw[xX D]at s2;rw[xX C]at s3;rw[cy,EV];simp only[gm,BB,Ab,List.sum_nil,iC,tm];omega
end
def zS(L:Rows)(p q r s:Nat)(d b c a:List Nat):Rows :=
 (((L.set p (xB d q)).set q (xB b p)).set r (jQ c p s)).set s (jQ a q r)
section
variable {L:Rows} {p q r s:Nat} {rp rq rr rs:List Nat}
def kJV(G:Good L)(hp:L[p]?=some rp)(T:L[q]?=some rq)(Q:L[r]?=some rr)(S:L[s]?=some rs)(f:Nx rq r p)(g:Nx rp s q)(B:r≠s)(sr:s∉rr):Good (zS L p q r s rp rq rr rs):=by
 have C:R L q r p:=⟨rq,T,f⟩;have v:R L r p q:=G.tri _ _ _ C;have H:R L p q r:=G.tri _ _ _ v;have D:R L p s q:=⟨rp,hp,g⟩;have y:R L s q p:=G.tri _ _ _ D;have I:R L q p s:=G.tri _ _ _ y;have un:∀{x row a b},L[x]?=some row->R L x a b->Nx row a b:=λ{x row a b} e ⟨z,e',n⟩=>by rw[e]at e';cases e';exact n
 obtain⟨lq,lr,lp,l,u⟩:=wS G C;obtain⟨-,-,-,o,-⟩:=wS G v;obtain⟨-,ls,-,j,-⟩:=wS G D;obtain⟨-,-,-,A,-⟩:=wS G y;have np:=G.nd p rp hp;have nq:=G.nd q rq T;have nr:=G.nd r rr Q;have ns:=G.nd s rs S;have mp:q∈rp:=(kW (un hp H)).1;have Z:p∈rq:=(kW f).2;have U:p∈rr:=(kW (un Q v)).1;have X:q∈rs:=(kW (un S y)).1
 have J:r∉rs:=λ z=>by
  obtain⟨row,e,m⟩:=G.sym (a:=s) (b:=r) ⟨rs,S,z⟩;rw[Q]at e;cases e;exact sr m
 have l1:p<L.length:=lp;have l2:q<(L.set p (xB rp q)).length:=by simpa using lq
 have l3:r<((L.set p (xB rp q)).set q (xB rq p)).length:=by simpa using lr
 have l4:s<(((L.set p (xB rp q)).set q (xB rq p)).set r (jQ rr p s)).length:=by simpa using ls
 have len:(zS L p q r s rp rq rr rs).length=L.length:=by simp[zS]
 have look:∀(x:Nat)(row:List Nat),(zS L p q r s rp rq rr rs)[x]?=some row->(x=s/\row=jQ rs q r)\/(x=r/\row=jQ rr p s)\/(x=q/\row=xB rq p)\/(x=p/\row=xB rp q)\/(x≠p/\x≠q/\x≠r/\x≠s/\L[x]?=some row):=by
  intro x row h;unfold zS at h;rcases wF l4 h with z | ⟨n4,h⟩
  ·exact .inl z
  ·rcases wF l3 h with z | ⟨n3,h⟩
   ·exact .inr (.inl z)
   ·rcases wF l2 h with z | ⟨n2,h⟩
    ·exact .inr (.inr (.inl z))
    ·rcases wF l1 h with z | ⟨n1,h⟩
     ·exact .inr (.inr (.inr (.inl z)))
     ·exact .inr (.inr (.inr (.inr ⟨n1,n2,n3,n4,h⟩)))
 have M:∀ x a b,R (zS L p q r s rp rq rr rs) x a b↔(x=s/\((a=q/\b=r)\/(a=r/\b=p)\/(a≠q/\R L s a b)))\/(x=r/\((a=p/\b=s)\/(a=s/\b=q)\/(a≠p/\R L r a b)))\/(x=q/\((a≠p/\b≠p/\R L q a b)\/(a=r/\b=s)))\/(x=p/\((a≠q/\b≠q/\R L p a b)\/(a=s/\b=r)))\/(x≠p/\x≠q/\x≠r/\x≠s/\R L x a b):=by
  intro x a b;have g1:∀ a b,Nx rp a b↔R L p a b:=λ a b=>⟨λ n=>⟨rp,hp,n⟩,un hp⟩;have g2:∀ a b,Nx rq a b↔R L q a b:=λ a b=>⟨λ n=>⟨rq,T,n⟩,un T⟩;have g3:∀ a b,Nx rr a b↔R L r a b:=λ a b=>⟨λ n=>⟨rr,Q,n⟩,un Q⟩;have g4:∀ a b,Nx rs a b↔R L s a b:=λ a b=>⟨λ n=>⟨rs,S,n⟩,un S⟩;have e1:R L p a q↔a=s:=⟨λ z=>kMC G z D,λ z=>z ▸ D⟩;have e2:R L p q b↔b=r:=⟨λ z=>yK G z H,λ z=>z ▸ H⟩;have e3:R L q a p↔a=r:=⟨λ z=>kMC G z C,λ z=>z ▸ C⟩;have e4:R L q p b↔b=s:=⟨λ z=>yK G z I,λ z=>z ▸ I⟩;have e5:R L r p b↔b=q:=⟨λ z=>yK G z v,λ z=>z ▸ v⟩;have e6:R L s q b↔b=p:=⟨λ z=>yK G z y,λ z=>z ▸ y⟩;unfold zS;rw[mC l4,mC l3,mC l2,mC l1,kGR mp np,kGR Z nq,bU U nr sr,bU X ns J];simp only[g1,g2,g3,g4,e1,e2,e3,e4,e5,e6];have c1:(a≠q/\b≠q/\a=s/\b=r)↔(a=s/\b=r):=⟨λ z=>z.2.2,λ z=>⟨λ h=>A (h.symm.trans z.1),λ h=>l (z.2.symm.trans h),z⟩⟩;have c2:(a≠p/\b≠p/\a=r/\b=s)↔(a=r/\b=s):=⟨λ z=>z.2.2,λ z=>⟨λ h=>o (h.symm.trans z.1),λ h=>j (z.2.symm.trans h),z⟩⟩;rw[c1,c2];clear look g1 g2 g3 g4 e1 e2 e3 e4 e5 e6 c1 c2 C v H D y I un np nq nr ns mp Z U X J l1 l2 l3 l4 len hp T Q S f g sr lq lr lp ls;by_cases O:x=s
  ·subst O
   have n1:¬ x=r:=λ z=>B z.symm;have n2:¬ x=q:=λ z=>A z.symm;have n3:¬ x=p:=j;simp only[n1,n2,n3,ne_eq,not_false_eq_true,false_and,true_and,and_false,or_false,false_or,not_true_eq_false]
  ·by_cases Y:x=r
   ·subst Y
    have n1:¬ x=q:=l;have n2:¬ x=p:=λ z=>o z.symm;simp only[O,n1,n2,ne_eq,not_false_eq_true,false_and,true_and,and_false,or_false,false_or,not_true_eq_false]
   ·by_cases x2:x=q
    ·subst x2
     have n2:¬ x=p:=λ z=>u z.symm;simp only[O,Y,n2,ne_eq,not_false_eq_true,false_and,true_and,and_false,or_false,false_or,not_true_eq_false]
    ·by_cases x1:x=p
     ·subst x1
      simp only[O,Y,x2,ne_eq,not_false_eq_true,false_and,true_and,and_false,or_false,false_or,not_true_eq_false]
     ·simp only[O,Y,x2,x1,ne_eq,not_false_eq_true,false_and,true_and,and_false,or_false,false_or,not_true_eq_false]
 have N:∀ x a b,R L x a b->¬ (x=p/\a=q)->¬ (x=p/\b=q)->¬ (x=q/\a=p)->¬ (x=q/\b=p)->¬ (x=r/\a=p)->¬ (x=s/\a=q)->R (zS L p q r s rp rq rr rs) x a b:=by
  intro x a b h h1 h2 h3 h4 h5 h6;rw[M];clear C v H D y I un np nq nr ns mp Z U X J l1 l2 l3 l4 len hp T Q S f g sr lq lr lp ls B l u o j A look M G;by_cases O:x=s
  ·subst O;exact .inl ⟨rfl,.inr (.inr ⟨λ z=>h6 ⟨rfl,z⟩,h⟩)⟩
  ·by_cases Y:x=r
   ·subst Y;exact .inr (.inl ⟨rfl,.inr (.inr ⟨λ z=>h5 ⟨rfl,z⟩,h⟩)⟩)
   ·by_cases x2:x=q
    ·subst x2;exact .inr (.inr (.inl ⟨rfl,.inl ⟨λ z=>h3 ⟨rfl,z⟩,λ z=>h4 ⟨rfl,z⟩,h⟩⟩))
    ·by_cases x1:x=p
     ·subst x1;exact .inr (.inr (.inr (.inl ⟨rfl,.inl ⟨λ z=>h1 ⟨rfl,z⟩,λ z=>h2 ⟨rfl,z⟩,h⟩⟩)))
     ·exact .inr (.inr (.inr (.inr ⟨x1,x2,Y,O,h⟩)))
 have c:∀ x a b,R L x a b->¬ (x=p/\a=q)->¬ (x=p/\b=q)->¬ (x=q/\a=p)->¬ (x=q/\b=p)->¬ (x=r/\a=p)->¬ (x=s/\a=q)->R (zS L p q r s rp rq rr rs) a b x:=by
  intro x a b h h1 h2 h3 h4 h5 h6;have i:=G.tri _ _ _ h;clear C D un np nq nr ns mp Z U X J l1 l2 l3 l4 len hp T Q S f g sr lq lr lp ls B l u o j A look M;refine N _ _ _ i (λ z=>?_) (λ z=>?_) (λ z=>?_) (λ z=>?_) (λ z=>?_) (λ z=>?_)
  ·obtain⟨rfl,rfl⟩:=z
   exact h5 ⟨yK G i H,rfl⟩
  ·obtain⟨rfl,rfl⟩:=z
   exact h3 ⟨rfl,rfl⟩
  ·obtain⟨rfl,rfl⟩:=z
   exact h6 ⟨yK G i I,rfl⟩
  ·obtain⟨rfl,rfl⟩:=z
   exact h1 ⟨rfl,rfl⟩
  ·obtain⟨rfl,rfl⟩:=z
   exact h4 ⟨yK G i v,rfl⟩
  ·obtain⟨rfl,rfl⟩:=z
   exact h2 ⟨yK G i y,rfl⟩
 have d:∀ x a b,((x=s/\((a=q/\b=r)\/(a=r/\b=p)))\/(x=r/\((a=p/\b=s)\/(a=s/\b=q)))\/(x=q/\(a=r/\b=s))\/(x=p/\(a=s/\b=r)))->R (zS L p q r s rp rq rr rs) x a b:=by
  intro x a b h;rw[M];rcases h with⟨h,i | i⟩ | ⟨h,i | i⟩ | ⟨h,i⟩ | ⟨h,i⟩
  ·exact .inl ⟨h,.inl i⟩
  ·exact .inl ⟨h,.inr (.inl i)⟩
  ·exact .inr (.inl ⟨h,.inl i⟩)
  ·exact .inr (.inl ⟨h,.inr (.inl i)⟩)
  ·exact .inr (.inr (.inl ⟨h,.inr i⟩))
  ·exact .inr (.inr (.inr (.inl ⟨h,.inr i⟩)))
 have a0:∀ a b,E L a b->¬ (a=p/\b=q)->¬ (a=q/\b=p)->E (zS L p q r s rp rq rr rs) a b:=by
  intro a b h h1 h2;unfold zS;rw[nI l4,nI l3,nI l2,nI l1,vD mp np,vD Z nq,xW U nr,xW X ns];obtain⟨row,e,m⟩:=h;clear C v H D y I un np nq nr ns mp Z U X J l1 l2 l3 l4 len f g sr lq lr lp ls B l u o j A look M N c d G;by_cases O:a=s
  ·subst O;rw[S]at e;cases e;exact .inl ⟨rfl,.inl m⟩
  ·by_cases Y:a=r
   ·subst Y;rw[Q]at e;cases e;exact .inr ⟨O,.inl ⟨rfl,.inl m⟩⟩
   ·by_cases x2:a=q
    ·subst x2;rw[T]at e;cases e;exact .inr ⟨O,.inr ⟨Y,.inl ⟨rfl,m,λ z=>h2 ⟨rfl,z⟩⟩⟩⟩
    ·by_cases x1:a=p
     ·subst x1;rw[hp]at e;cases e;exact .inr ⟨O,.inr ⟨Y,.inr ⟨x2,.inl ⟨rfl,m,λ z=>h1 ⟨rfl,z⟩⟩⟩⟩⟩
     ·exact .inr ⟨O,.inr ⟨Y,.inr ⟨x2,.inr ⟨x1,row,e,m⟩⟩⟩⟩
 have a1:∀ a b,E L a b->Reach (zS L p q r s rp rq rr rs) a b:=by
  intro a b h;clear C v H D y I un np nq nr ns mp Z U X J l1 l2 l3 l4 len hp T Q S f g sr lq lr lp ls B l u o j A look M N c G;by_cases h1:a=p/\b=q
  ·obtain⟨rfl,rfl⟩:=h1
   refine Reach.more (b:=r) (Reach.more (Reach.here _) ?_) ?_
   ·exact(zT (d a s r (.inr (.inr (.inr ⟨rfl,rfl,rfl⟩))))).2
   ·exact(zT (d r s b (.inr (.inl ⟨rfl,.inr ⟨rfl,rfl⟩⟩)))).2
  ·by_cases h2:a=q/\b=p
   ·obtain⟨rfl,rfl⟩:=h2
    refine Reach.more (b:=r) (Reach.more (Reach.here _) ?_) ?_
    ·exact(zT (d a r s (.inr (.inr (.inl ⟨rfl,rfl,rfl⟩))))).1
    ·exact(zT (d r b s (.inr (.inl ⟨rfl,.inl ⟨rfl,rfl⟩⟩)))).1
   ·exact .more (.here _) (a0 a b h h1 h2)
 refine⟨by rw[len];exact G.three,?_,?_,?_,?_,?_,?_⟩
 ·intro x row h
  rcases look x row h with⟨_,rfl⟩ | ⟨_,rfl⟩ | ⟨_,rfl⟩ | ⟨_,rfl⟩ | ⟨_,_,_,_,h⟩
  ·intro z;have:=xX (w:=r) X;rw[z]at this;simp at this
  ·intro z;have:=xX (w:=s) U;rw[z]at this;simp at this
  ·intro z
   have:s∈xB rq p:=(vD Z nq).mpr ⟨(kW (un T I)).2,j⟩;rw[z]at this;cases this
  ·intro z
   have:r∈xB rp q:=(vD mp np).mpr ⟨(kW (un hp H)).2,l⟩;rw[z]at this;cases this
  ·exact G.ne _ _ h
 ·intro x row h
  rcases look x row h with⟨_,rfl⟩ | ⟨_,rfl⟩ | ⟨_,rfl⟩ | ⟨_,rfl⟩ | ⟨_,_,_,_,h⟩
  ·exact cD X ns J
  ·exact cD U nr sr
  ·exact kHA Z nq
  ·exact kHA mp np
  ·exact G.nd _ _ h
 ·intro x row a h m
  rw[len]
  replace h:=look x row h
  clear C v H D y I un J l1 l2 l3 l4 len f g sr lq lp l u o j A look M N c d a0 a1;rcases h with⟨rfl,rfl⟩ | ⟨rfl,rfl⟩ | ⟨rfl,rfl⟩ | ⟨rfl,rfl⟩ | ⟨_,_,_,_,h⟩
  ·rcases(xW X ns).mp m with z | z
   ·exact G.rng _ _ _ S z
   ·subst z
    exact⟨lr,B⟩
  ·rcases(xW U nr).mp m with z | z
   ·exact G.rng _ _ _ Q z
   ·subst z
    exact⟨ls,λ h=>B h.symm⟩
  ·exact G.rng _ _ _ T ((vD Z nq).mp m).1
  ·exact G.rng _ _ _ hp ((vD mp np).mp m).1
  ·exact G.rng _ _ _ h m
 ·intro x a b h
  rw[M]at h;clear C v H D y I un np nq nr ns mp Z U X J l1 l2 l3 l4 len hp T Q S f g sr lq lr lp ls look M N a0 a1 G;rcases h with⟨rfl,⟨rfl,rfl⟩ | ⟨rfl,rfl⟩ | ⟨h,i⟩⟩ | ⟨rfl,⟨rfl,rfl⟩ | ⟨rfl,rfl⟩ | ⟨h,i⟩⟩ | ⟨rfl,⟨h,k,i⟩ | ⟨rfl,rfl⟩⟩ | ⟨rfl,⟨h,k,i⟩ | ⟨rfl,rfl⟩⟩ | ⟨h1,h2,h3,h4,i⟩
  ·exact d _ _ _ (.inr (.inr (.inl ⟨rfl,rfl,rfl⟩)))
  ·exact d _ _ _ (.inr (.inl ⟨rfl,.inl ⟨rfl,rfl⟩⟩))
  ·exact c _ _ _ i (λ z=>j z.1) (λ z=>j z.1) (λ z=>A z.1.symm) (λ z=>A z.1.symm) (λ z=>B z.1.symm) λ z=>h z.2
  ·exact d _ _ _ (.inr (.inr (.inr ⟨rfl,rfl,rfl⟩)))
  ·exact d _ _ _ (.inl ⟨rfl,.inl ⟨rfl,rfl⟩⟩)
  ·exact c _ _ _ i (λ z=>o z.1.symm) (λ z=>o z.1.symm) (λ z=>l z.1) (λ z=>l z.1) (λ z=>h z.2) λ z=>B z.1
  ·exact c _ _ _ i (λ z=>u z.1.symm) (λ z=>u z.1.symm) (λ z=>h z.2) (λ z=>k z.2) (λ z=>l z.1.symm) λ z=>A z.1
  ·exact d _ _ _ (.inr (.inl ⟨rfl,.inr ⟨rfl,rfl⟩⟩))
  ·exact c _ _ _ i (λ z=>h z.2) (λ z=>k z.2) (λ z=>u z.1) (λ z=>u z.1) (λ z=>o z.1) λ z=>j z.1.symm
  ·exact d _ _ _ (.inl ⟨rfl,.inr ⟨rfl,rfl⟩⟩)
  ·exact c _ _ _ i (λ z=>h1 z.1) (λ z=>h1 z.1) (λ z=>h2 z.1) (λ z=>h2 z.1) (λ z=>h3 z.1) λ z=>h4 z.1
 ·intro x hx
  rw[len]at hx;exact(G.con x hx).by a1
 ·rw[len]
  unfold zS;have t:=G.tot;have s1:=zI L p rp (xB rp q) hp;have a2:(L.set p (xB rp q))[q]?=some rq:=by rw[eo u];exact T
  have s2:=zI _ q rq (xB rq p) a2;have a4:((L.set p (xB rp q)).set q (xB rq p))[r]?=some rr:=by rw[eo (λ z=>l z.symm),eo o];exact Q
  have s3:=zI _ r rr (jQ rr p s) a4;have a3:(((L.set p (xB rp q)).set q (xB rq p)).set r (jQ rr p s))[s]?=some rs:=by rw[eo B,eo A,eo (λ z=>j z.symm)];exact S
  have s4:=zI _ s rs (jQ rs q r) a3;have k1:=kCL mp;have k2:=kCL Z;rw[xX U]at s3;rw[xX X]at s4;clear B l u o j A l1 l2 l3 l4 lp lq lr ls;omega
def kEP:Good [[1,2],[2,0],[0,1]]:=by
 have look:∀(x:Nat)(row:List Nat),([[1,2],[2,0],[0,1]]:Rows)[x]?=some row->(x=0/\row=[1,2])\/(x=1/\row=[2,0])\/(x=2/\row=[0,1]):=by
  intro x row h
  match x,h with
  | 0,h=>exact .inl ⟨rfl,(bg h).symm⟩
  | 1,h=>exact .inr (.inl ⟨rfl,(bg h).symm⟩)
  | 2,h=>exact .inr (.inr ⟨rfl,(bg h).symm⟩)
  | n+3,h=>simp at h
 have c:∀ x y a b:Nat,Nx [x,y] a b↔(a=x/\b=y)\/(a=y/\b=x):=by
  intro x y a b;show((a=x/\b=y)\/(a=y/\b=x)\/False)↔_;simp
 refine⟨by decide,?_,?_,?_,?_,?_,by decide⟩
 ·intro x row h
  rcases look x row h with⟨_,rfl⟩ | ⟨_,rfl⟩ | ⟨_,rfl⟩<;>simp
 ·intro x row h
  rcases look x row h with⟨_,rfl⟩ | ⟨_,rfl⟩ | ⟨_,rfl⟩<;>decide
 ·intro x row a h m
  rcases look x row h with⟨rfl,rfl⟩ | ⟨rfl,rfl⟩ | ⟨rfl,rfl⟩<;>simp at m ⊢<;>omega
 ·rintro x a b ⟨row,h,n⟩
  rcases look x row h with⟨rfl,rfl⟩ | ⟨rfl,rfl⟩ | ⟨rfl,rfl⟩<;>rw[c]at n<;>rcases n with⟨rfl,rfl⟩ | ⟨rfl,rfl⟩
  ·exact⟨[2,0],rfl,(c _ _ _ _).mpr (.inl ⟨rfl,rfl⟩)⟩
  ·exact⟨[0,1],rfl,(c _ _ _ _).mpr (.inr ⟨rfl,rfl⟩)⟩
  ·exact⟨[0,1],rfl,(c _ _ _ _).mpr (.inl ⟨rfl,rfl⟩)⟩
  ·exact⟨[1,2],rfl,(c _ _ _ _).mpr (.inr ⟨rfl,rfl⟩)⟩
  ·exact⟨[1,2],rfl,(c _ _ _ _).mpr (.inl ⟨rfl,rfl⟩)⟩
  ·exact⟨[2,0],rfl,(c _ _ _ _).mpr (.inr ⟨rfl,rfl⟩)⟩
 ·intro x d
  match x,d with
  | 0,_=>exact .here _
  | 1,_=>exact .more (.here _) ⟨[1,2],rfl,by decide⟩
  | 2,_=>exact .more (.here _) ⟨[1,2],rfl,by decide⟩
end
def xP(row:List Nat)(p:Nat):Option Nat:=if row.idxOf p=0 then row.getLast? else row[row.idxOf p-1]?
def zJ{row:List Nat}{p v:Nat}(nd:row.Nodup)(hp:p∈row)(h:xP row p=some v):Nx row v p:=by
 obtain⟨A,B,rfl,hA,hB⟩:=xI hp nd;unfold xP at h;rw[dL hA]at h;by_cases h0:A.length=0
 ·have:A=[]:=og.mp h0
  subst this;rw[if_pos h0,qi]at h;show Adj (p::B++[p]) v p
  have e:p::B=(p::B).dropLast++[v]:=by
   rw[fe (Ai p B)]at h;rw[<-bg h];exact(eC (Ai p B)).symm
  rw[e,dh];exact(jN _ v [p] v p).mpr (.inr (.inl ⟨rfl,rfl⟩))
 ·rw[if_neg h0]at h
  rw[bf (by omega)]at h;have a:A≠[]:=λ z=>h0 (by rw[z];rfl)
  have e:A=A.dropLast++[v]:=by
   have z:A.getLast?=some v:=by rw[uf];exact h
   rw[fe a]at z;rw[<-bg z];exact(eC a).symm
  rw[e,dh];rw[jR];show Nx (v::(p::B)++A.dropLast) v p;exact .inl ⟨rfl,rfl⟩
def vH{row:List Nat}{p:Nat}(hp:p∈row):∃ v,xP row p=some v:=by
 have b:=fq hp;unfold xP
 split
 ·have a:row≠[]:=λ z=>by rw[z]at hp;cases hp
  exact⟨_,fe a⟩
 ·exact⟨_,ae (show row.idxOf p-1<row.length by omega)⟩
end Tri
namespace Rnd
open Cyc Tri
section
variable {α:Type} [DecidableEq α]
def it(f:α->α):Nat->α->α
 | 0,x=>x
 | n+1,x=>f (it f n x)
def bA(f:α->α)(m n:Nat)(x:α):it f (m+n) x=it f m (it f n x):=by
 induction m with
 | zero=>rw[CQ];rfl
 | succ m ih=>rw[Nat.succ_add];show f _=f _;rw[ih]
structure Perm(f:α->α)(S:List α):Prop where
 to:∀ x,x∈S->f x∈S
 one:∀ x y,x∈S->y∈S->f x=f y->x=y
theorem Perm.it{f:α->α}{S:List α}(h:Perm f S)(n:Nat){x:α}(a:x∈S):it f n x∈S:=by
 induction n with
 | zero=>exact a
 | succ n ih=>exact h.to _ ih
def Perm.back{f:α->α}{S:List α}(h:Perm f S)(n:Nat){x y:α}(b:x∈S)(a:y∈S)(e:Rnd.it f n x=Rnd.it f n y):x=y:=by
 induction n with
 | zero=>exact e
 | succ n ih=>exact ih (h.one _ _ (h.it n b) (h.it n a) e)
theorem dH{f:Nat->α}:∀(n:Nat),(∀ i j,i<j->j<n->f i≠f j)->((cq n).map f).Nodup
 | 0,_=>by simp
 | n+1,h=>by
  rw[BP,cy,dc];refine⟨dH n λ i j a b=>h i j a (by omega),by simp,λ a d b c=>?_⟩;obtain⟨i,g,rfl⟩:=iJ.mp d;have:b=f n:=by simpa using c
  subst this;exact h i n (jt.mp g) (by omega)
def Perm.comes{f:α->α}{S:List α}(h:Perm f S){x:α}(d:x∈S):∃ k,0<k/\k<=S.length/\Rnd.it f k x=x/\∀ j,0<j->j<k->Rnd.it f j x≠x:=by
 have some:∃ k,0<k/\k<=S.length/\Rnd.it f k x=x:=by
  refine eW λ s=>?_
  have nd:((cq (S.length+1)).map λ i=>Rnd.it f i x).Nodup:=dH _ λ i j r B e=>by
   refine s ⟨j-i,by omega,by omega,?_⟩
   have o:Rnd.it f i (Rnd.it f (j-i) x)=Rnd.it f i x:=by
    rw[<-bA,show i+(j-i)=j by omega];exact e.symm
   exact h.back i (h.it _ d) d o
  have le:=eO nd (l₂:=S) λ y g=>by
   obtain⟨i,_,rfl⟩:=iJ.mp g;exact h.it i d
  rw[aj,gv]at le;omega
 obtain⟨A,p0,v,q⟩:=some
 have kMY:∀ n,(∃ k,0<k/\k<=n/\Rnd.it f k x=x)->∃ k,0<k/\k<=n/\Rnd.it f k x=x/\∀ j,0<j->j<k->Rnd.it f j x≠x:=λ n=>by
  induction n with
  | zero=>rintro⟨k,a,b,_⟩;omega
  | succ n ih =>
   intro l;by_cases c:∃ k,0<k/\k<=n/\Rnd.it f k x=x
   ·obtain⟨k,a,b,e,m⟩:=ih c
    exact⟨k,a,by omega,e,m⟩
   ·obtain⟨k,a,b,e⟩:=l
    refine⟨k,a,b,e,λ j p C u=>c ⟨j,p,by omega,u⟩⟩
 exact kMY S.length ⟨A,p0,v,q⟩
def Perm.round_nodup{f:α->α}{S:List α}(h:Perm f S){x:α}(a:x∈S){k:Nat}(m:∀ j,0<j->j<k->Rnd.it f j x≠x):((cq k).map λ i=>Rnd.it f i x).Nodup:=dH _ λ i j c d e=>by
 refine m (j-i) (by omega) (by omega) ?_
 have b:Rnd.it f i (Rnd.it f (j-i) x)=Rnd.it f i x:=by
  rw[<-bA,show i+(j-i)=j by omega];exact e.symm
 exact h.back i (h.it _ a) a b
end
def kS(W:Rows):List (Nat×Nat):=(cq W.length).flatMap λ p=>(W.getD p []).map λ q=>(p,q)
def mem_steps{W:Rows}{p q:Nat}:(p,q)∈kS W↔E W p q:=by
 unfold kS E;rw[AR];constructor
 ·rintro⟨c,hp,h⟩
  obtain⟨d,b,e⟩:=iJ.mp h;cases e
  have a:=jt.mp hp;refine⟨W[p],ae a,?_⟩;simpa[av,a] using b
 ·rintro⟨row,e,h⟩
  have a:=(ak.mp e).1;refine⟨p,jt.mpr a,iJ.mpr ⟨q,?_,rfl⟩⟩;rw[av,e];exact h
def nxt(W:Rows)(s:Nat×Nat):Nat×Nat:=(s.2,(xP (W.getD s.2 []) s.1).getD 0)
def mM{W:Rows}(nd:∀(p:Nat)(row:List Nat),W[p]?=some row->row.Nodup)(sym:∀ a b,E W a b->E W b a):Perm (nxt W) (kS W):=by
 have look:∀ p q,(p,q)∈kS W->∃ row v,W[q]?=some row/\p∈row/\xP row p=some v/\nxt W (p,q)=(q,v)/\Nx row v p:=λ p q h=>by
  obtain⟨row,e,m⟩:=sym p q (mem_steps.mp h);obtain⟨v,f⟩:=vH m;refine⟨row,v,e,m,f,?_,zJ (nd q row e) m f⟩;unfold nxt;rw[av,e];show(q,(xP row p).getD 0)=(q,v);rw[f]
  rfl
 refine⟨λ s h=>?_,λ s t r C e=>?_⟩
 ·obtain⟨p,q⟩:=s
  obtain⟨row,v,c,o,A,g,d⟩:=look p q h;rw[g];exact mem_steps.mpr ⟨row,c,(kW d).1⟩
 ·obtain⟨p,q⟩:=s
  obtain⟨n,j⟩:=t;obtain⟨row,v,c,o,A,g,d⟩:=look p q r;obtain⟨i,x,l,H,G,u,y⟩:=look n j C;rw[g,u]at e;have B:q=j:=congrArg Cu e;have D:v=x:=congrArg yc e;subst B D;rw[c]at l;cases l
  rw[jZ (nd q row c) d y]
end Rnd
namespace Tri
section
variable {R R':Nat->Nat->Nat->Prop} {N N' K:Nat->Nat->Prop} {inP:Nat->Prop} {f l w:Nat}
end
open Cyc
section
variable {A M C:List Nat} {f l w:Nat}
def nxP(M:List Nat)(f l a b:Nat):Nx (f::M++[l]) a b↔Adj (f::M++[l]) a b\/(a=l/\b=f):=by
 show Adj (f::M++[l]++[f]) a b↔_;rw[show f::M++[l]++[f]=(f::M)++l::[f] by simp,jN];simp only[Adj,or_false]
end
section
variable {L L2:Rows} {A M C:List Nat} {f l:Nat}
end
section
variable {L:Rows} {A M C:List Nat} {f l u:Nat}
theorem kCW:∀{P:List Nat}{l x:Nat},x∈P->∃ y,Adj (P++[l]) x y
 | [z],l,x,h=>⟨l,.inl ⟨by simpa using h,rfl⟩⟩
 | z::z'::r,l,x,h=>by
  rcases eK.mp h with e | h
  ·exact⟨z',.inl ⟨e,rfl⟩⟩
  ·obtain⟨y,a⟩:=kCW (l:=l) h
   exact⟨y,.inr a⟩
end
open Cyc Rnd
section
variable {W:Rows}
def sP{row:List Nat}{p v:Nat}(nd:row.Nodup)(h:Nx row v p):xP row p=some v:=by
 obtain⟨u,a⟩:=vH (kW h).2;rw[a,yM nd h (zJ nd (kW h).2 a)]
def mN(nd:∀(p:Nat)(row:List Nat),W[p]?=some row->row.Nodup){p q v:Nat}(h:R W q v p):nxt W (p,q)=(q,v):=by
 obtain⟨row,e,n⟩:=h;unfold nxt;rw[av,e];show(q,(xP row p).getD 0)=(q,v);rw[sP (nd q row e) n]
 rfl
def dS(nd:∀(p:Nat)(row:List Nat),W[p]?=some row->row.Nodup):(kS W).Nodup:=by
 unfold kS;rw[BQ,Cp];refine⟨λ p hp=>?_,?_⟩
 ·have d:=jt.mp hp
  have e:W[p]?=some (W.getD p []):=by rw[av,ae d];rfl
  have n:=nd p _ e;refine Gc _ (λ x y (z:x≠y) e=>z (congrArg yc e)) n
 ·refine sh.imp λ{p q} a=>?_
  intro x b y c e;obtain⟨_,_,rfl⟩:=iJ.mp b;obtain⟨_,_,rfl⟩:=iJ.mp c;exact a (congrArg Cu e)
def yV:∀(W:Rows) ,(kS W).length=(W.map ip).sum:=by
 intro W;unfold kS;rw[yd]
 congr 1
 refine CB (by simp) λ i h1 a=>?_;simp at h1 a;simp[av,h1]
end
theorem kHX(f:Nat->Nat):∀(l:List Nat)(a b:Nat),Adj (l.map f) a b↔∃ x y,Adj l x y/\a=f x/\b=f y
 | [],a,b=>⟨λ h=>h.elim,λ⟨_,_,h,_⟩=>h.elim⟩
 | [z],a,b=>⟨λ h=>h.elim,λ⟨_,_,h,_⟩=>h.elim⟩
 | z::z'::r,a,b=>by
  have c:=kHX f (z'::r) a b;constructor
  ·rintro(⟨rfl,rfl⟩ | h)
   ·exact⟨z,z',.inl ⟨rfl,rfl⟩,rfl,rfl⟩
   ·obtain⟨x,y,h,e⟩:=c.mp h
    exact⟨x,y,.inr h,e⟩
  ·rintro⟨x,y,⟨rfl,rfl⟩ | h,rfl,rfl⟩
   ·exact .inl ⟨rfl,rfl⟩
   ·exact .inr (c.mpr ⟨x,y,h,rfl,rfl⟩)
def kMV(f:Nat->Nat)(l:List Nat)(a b:Nat):Nx (l.map f) a b↔∃ x y,Nx l x y/\a=f x/\b=f y:=by
 unfold Nx;rw[show l.map f++(l.map f).head?.toList=(l++l.head?.toList).map f by cases l<;>simp];exact kHX f _ a b
def Reach.symm{W:Rows}(sym:∀ a b,E W a b->E W b a){a b:Nat}(h:Reach W a b):Reach W b a:=by
 induction h with
 | here=>exact .here _
 | more _ e ih=>exact(Reach.more (.here _) (sym _ _ e)).trans ih
structure Ren(L W:Rows)(ns:List Nat):Prop where
 perm:ns.Perm (cq L.length)
 len:W.length=L.length
 at':∀(p:Nat)(row:List Nat),L[p]?=some row->∃ n A B,ns[p]?=some n/\row.map (λ q=>ns.getD q 0)=A++B/\W[n]?=some (B++A)
section
variable {L W:Rows} {ns:List Nat}
def Ren.nlen(h:Ren L W ns):ns.length=L.length:=by rw[h.perm.length_eq,gv]
def Ren.get(h:Ren L W ns){p:Nat}(hp:p<L.length):ns[p]?=some (ns.getD p 0):=by
 rw[av,ae (by rw[h.nlen];exact hp)]
 rfl
def Ren.lt(h:Ren L W ns){p:Nat}(hp:p<L.length):ns.getD p 0<L.length:=jt.mp (h.perm.mem_iff.mp (cv (h.get hp)))
def Ren.inj(h:Ren L W ns){p q:Nat}(hp:p<L.length)(b:q<L.length)(e:ns.getD p 0=ns.getD q 0):p=q:=by
 have nd:ns.Nodup:=h.perm.nodup_iff.mpr sh;have h1:=h.get hp;have a:=h.get b;rw[e,<-a]at h1;exact(xp (by rw[h.nlen];exact hp) nd).mp h1
def Ren.sur(h:Ren L W ns){x:Nat}(a:x<L.length):∃ p,p<L.length/\ns.getD p 0=x:=by
 obtain⟨p,hp,e⟩:=List.getElem_of_mem (h.perm.mem_iff.mpr (jt.mpr a));rw[h.nlen]at hp;refine⟨p,hp,?_⟩;rw[av,ae (by rw[h.nlen];exact hp),e]
 rfl
theorem Ren.row(h:Ren L W ns){x:Nat}{c:List Nat}(e:W[x]?=some c):∃ p row,p<L.length/\L[p]?=some row/\x=ns.getD p 0/\c.Perm (row.map λ q=>ns.getD q 0)/\∀ a b,Nx c a b↔Nx (row.map λ q=>ns.getD q 0) a b:=by
 have i:x<L.length:=by rw[<-h.len];exact(ak.mp e).1
 obtain⟨p,hp,rfl⟩:=h.sur i;obtain⟨n,A,B,g,d,f⟩:=h.at' p _ (ae hp);rw[h.get hp]at g;cases g
 rw[e]at f;cases f
 refine⟨p,_,hp,ae hp,rfl,?_,λ a b=>?_⟩
 ·rw[d];exact kh
 ·rw[d];exact jR B A a b
def Ren.to(h:Ren L W ns){p:Nat}{row:List Nat}(e:L[p]?=some row):∃ row',W[ns.getD p 0]?=some row'/\row'.Perm (row.map λ q=>ns.getD q 0)/\∀ a b,Nx row' a b↔Nx (row.map λ q=>ns.getD q 0) a b:=by
 have hp:=(ak.mp e).1;obtain⟨n,A,B,d,c,f⟩:=h.at' p _ e;rw[h.get hp]at d;cases d
 exact⟨_,f,by rw[c];exact kh,λ a b=>by rw[c];exact jR B A a b⟩
def Ren.r_to(h:Ren L W ns){q a b:Nat}(r:R L q a b):R W (ns.getD q 0) (ns.getD a 0) (ns.getD b 0):=by
 obtain⟨row,e,n⟩:=r;obtain⟨c,d,_,f⟩:=h.to e;exact⟨c,d,(f _ _).mpr ((kMV _ _ _ _).mpr ⟨a,b,n,rfl,rfl⟩)⟩
def Ren.r_of(h:Ren L W ns){q a b:Nat}(r:R W q a b):∃ q' a' b',R L q' a' b'/\q=ns.getD q' 0/\a=ns.getD a' 0/\b=ns.getD b' 0:=by
 obtain⟨c,f,n⟩:=r;obtain⟨p,row,hp,e,rfl,_,d⟩:=h.row f;obtain⟨x,y,g,rfl,rfl⟩:=(kMV _ _ _ _).mp ((d _ _).mp n);exact⟨p,x,y,⟨row,e,g⟩,rfl,rfl,rfl⟩
def Ren.e_to(h:Ren L W ns){a b:Nat}(r:E L a b):E W (ns.getD a 0) (ns.getD b 0):=by
 obtain⟨row,e,m⟩:=r;obtain⟨c,d,f,_⟩:=h.to e;exact⟨c,d,f.mem_iff.mpr (iJ.mpr ⟨b,m,rfl⟩)⟩
def Ren.e_of(h:Ren L W ns){a b:Nat}(r:E W a b):∃ x y,E L x y/\a=ns.getD x 0/\b=ns.getD y 0:=by
 obtain⟨c,d,m⟩:=r;obtain⟨p,row,hp,e,rfl,g,_⟩:=h.row d;obtain⟨y,f,rfl⟩:=iJ.mp (g.mem_iff.mp m);exact⟨p,y,⟨row,e,f⟩,rfl,rfl⟩
def kMB(G:Good L)(h:Ren L W ns):Good W:=by
 have sym:∀ a b,E W a b->E W b a:=λ a b r=>by
  obtain⟨x,y,s,rfl,rfl⟩:=h.e_of r;exact h.e_to (G.sym s)
 have reach:∀{x y:Nat},Reach L x y->Reach W (ns.getD x 0) (ns.getD y 0):=λ r=>by
  induction r with
  | here=>exact .here _
  | more _ e ih=>exact .more ih (h.e_to e)
 have f:∀ x,x<L.length->Reach W (ns.getD 0 0) x:=λ x n=>by
  obtain⟨p,hp,rfl⟩:=h.sur n;exact reach (G.con p hp)
 refine⟨by rw[h.len];exact G.three,λ p d e=>?_,λ p d e=>?_,λ p d a e m=>?_,λ q a b r=>?_,λ p hp=>?_,?_⟩
 ·obtain⟨x,row,n,j,rfl,l,_⟩:=h.row e
  intro z;subst z;have:=l.length_eq;rw[aj]at this;exact G.ne _ _ j (og.mp this.symm)
 ·obtain⟨x,row,n,j,rfl,l,_⟩:=h.row e
  refine l.nodup_iff.mpr ?_;rw[BQ,md];exact Fd (λ{u v} I J z e=>z (h.inj (G.rng _ _ _ j I).1 (G.rng _ _ _ j J).1 e)) (G.nd _ _ j)
 ·obtain⟨x,row,n,j,rfl,l,_⟩:=h.row e
  obtain⟨y,M,rfl⟩:=iJ.mp (l.mem_iff.mp m);obtain⟨A,B⟩:=G.rng _ _ _ j M;exact⟨by rw[h.len];exact h.lt A,λ e=>B (h.inj A n e)⟩
 ·obtain⟨Q,O,N,s,rfl,rfl,rfl⟩:=h.r_of r
  exact h.r_to (G.tri _ _ _ s)
 ·rw[h.len]at hp
  have c:=G.three;exact(f 0 (by omega)).symm sym |>.trans (f p hp)
 ·have g:∀(V:Rows),V.map ip=(cq V.length).map λ x=>(V.getD x []).length:=λ V=>by
   refine CB (by simp) λ i h1 o=>?_;simp at h1 o;simp[av,h1]
  have j:(W.map ip).sum=(ns.map λ x=>(W.getD x []).length).sum:=by
   rw[g W,h.len];exact(h.perm.symm.map _).sum_nat
  have C:(ns.map λ x=>(W.getD x []).length)=L.map ip:=by
   refine CB (by simp[h.nlen]) λ i h1 o=>?_;simp at h1 o;obtain⟨d,H,l,_⟩:=h.to (ae o);have D:ns[i]=ns.getD i 0:=by simp[av,h1]
   have:=l.length_eq;rw[aj]at this;simp only[CC];rw[D,av,H];exact this
  rw[j,C,h.len];exact G.tot
end
def Ro(r r':List Nat):Prop:=∃ A B,r=A++B/\r'=B++A
def Ro.trans{r r' b:List Nat}:Ro r r'->Ro r' b->Ro r b:=by
 rintro⟨A,B,rfl,rfl⟩ ⟨C,D,h1,rfl⟩;rcases List.append_eq_append_iff.mp h1 with⟨a,rfl,rfl⟩ | ⟨c,rfl,rfl⟩
 ·exact⟨a,D++B,by simp,by simp⟩
 ·exact⟨A++C,c,by simp,by simp⟩
def Ro.perm{r r':List Nat}:Ro r r'->r.Perm r':=by
 rintro⟨A,B,rfl,rfl⟩;exact kh
def Ro.mem{r r':List Nat}(h:Ro r r')(x:Nat):x∈r↔x∈r':=h.perm.mem_iff
def Ro.nd{r r':List Nat}(h:Ro r r'):r.Nodup↔r'.Nodup:=h.perm.nodup_iff
def Ro.nx{r r':List Nat}(h:Ro r r')(a b:Nat):Nx r a b↔Nx r' a b:=by
 obtain⟨A,B,rfl,rfl⟩:=h;exact jR A B a b
def rot(row:List Nat)(M:Nat):List Nat:=row.drop (row.idxOf M)++row.take (row.idxOf M)
structure Nb(L:Rows):Prop where
 nd:∀(p:Nat)(row:List Nat),L[p]?=some row->row.Nodup
 rng:∀(p:Nat)(row:List Nat)(a:Nat),L[p]?=some row->a∈row->a<L.length/\a≠p
 sym:∀ a b,E L a b->E L b a
structure Wb(L:Rows):Prop extends Nb L where
 three:3<=L.length
 con:∀ p,p<L.length->Reach L 0 p
theorem Nb.e{L:Rows}(S:Nb L){p q:Nat}(h:E L p q):p<L.length/\q<L.length/\q≠p:=by
 obtain⟨row,e,m⟩:=h;exact⟨(ak.mp e).1,(S.rng p row q e m).1,(S.rng p row q e m).2⟩
def Nb.len{L:Rows}(S:Nb L){p:Nat}{row:List Nat}(h:L[p]?=some row):row.length<=L.length:=by
 have:=eO (S.nd p row h) (l₂:=cq L.length) λ x a=>jt.mpr (S.rng p row x h a).1;rwa[gv]at this
def Wb.of{L:Rows}(G:Good L):Wb L:=⟨⟨G.nd,G.rng,λ a b h=>G.sym h⟩,G.three,G.con⟩
def uD{W:Rows}(S:Nb W){x y:Nat}(h:E W x y):∃ z,R W y z x/\nxt W (x,y)=(y,z)/\E W y z:=by
 obtain⟨row,e,m⟩:=S.sym _ _ h;obtain⟨z,n⟩:=kRB m;exact⟨z,⟨row,e,n⟩,mN S.nd ⟨row,e,n⟩,⟨row,e,(kW n).1⟩⟩
def kGW{W:Rows}(S:Nb W){x y:Nat}(h:E W x y)(n:Nat):E W (it (nxt W) n (x,y)).1 (it (nxt W) n (x,y)).2:=by
 have:=(mM S.nd S.sym).it n (mem_steps.mpr h);exact mem_steps.mp this
def kTA{α:Type}[DecidableEq α](f:α->α)(x:α){k:Nat}(h:it f k x=x)(n:Nat):it f (k*n) x=x:=by
 induction n with
 | zero=>rfl
 | succ n ih=>rw[Nat.mul_succ,bA,h,ih]
def kNC{α:Type}[DecidableEq α](f:α->α)(x:α){k:Nat}(h:it f k x=x)(n:Nat):it f n x=it f (n % k) x:=by
 conv=>lhs;rw[<-Nat.mod_add_div n k]
 rw[bA,kTA f x h]
end Tri
local macro_rules | `(tactic| walk_at "sort_open gallop")=>`(tactic| delta $(Lean.mkIdent (Lean.mkPrivateNameCore `PySem.Builtin.List.W1All `PySem.Builtin.gallop)):ident)
namespace Srt
set_option autoImplicit false
open PySem PyProof.Rows
def vN:Bool->bq->Array bq->Nat->Nat->Nat->StateT eP Sem (Option Nat):=sortPriv% PySem.Builtin.gallop
def cP(left:Bool)(key:bq)(arr:Array bq)(base:Nat)(i:Nat):StateT eP Sem (Option Bool):=do
 let x <-elem' arr (base+i)
 if left then lt' x key else return (<-lt' key x).map (!·)
section
variable {M:yu} {A:gh} {E:ar->ay->Prop} {s:ay}
def kRD(left:Bool)(key:bq)(arr:Array bq)(base n b a:Nat):StateT eP Sem (Option Nat):=do
 let mut lo:=b
 let mut hi:=a
 for _ in [0:n] do
  if lo >= hi then break
  let m:=lo+(hi-lo) / 2
  let some more <-cP left key arr base m | return none
  if more then lo:=m+1 else hi:=m
 return some hi
variable {left:Bool} {key:bq} {arr:Array bq} {base n hint:Nat} {Q:Option Nat->eP->Prop} {st:eP}
def oH(b:Nat->Bool){lo hi:Nat}
  (B:∀ i,i<n->∀ Q:Option Bool->eP->Prop,Q (some (b i)) st->wpS M A E s (cP left key arr base i) Q st)
  (mono:∀ i j,i<=j->j<n->b j=true->b i=true) (p:lo<=hi) (u:hi<=n) (h1:∀ i,i<lo->b i=true) (D:∀ i,hi<=i->i<n->b i=false)
  (h:∀ k,k<=n->(∀ i,i<k->b i=true)->(∀ i,k<=i->i<n->b i=false)->Q (some k) st):wpS M A E s (kRD left key arr base n lo hi) Q st:=by
 unfold kRD
 refine cj (uq (jq (I:=λ x c a=>a=st/\∃ l r,c=(none,l,r)/\l<=r/\r<=n/\r-l<=n-x/\(∀ i,i<l->b i=true)/\∀ i,r<=i->i<n->b i=false)
  (Q:=λ c a=>a=st/\∃ l,c=(none,l,l)/\l<=n/\(∀ i,i<l->b i=true)/\∀ i,l<=i->i<n->b i=false) ?step ?fin ⟨rfl,lo,hi,rfl,p,u,by omega,h1,D⟩) ?post)
 case post =>
  rintro c a ⟨rfl,l,rfl,q,f,g⟩;exact di (h l q f g)
 case fin =>
  rintro c a ⟨rfl,l,r,rfl,y,o,d,f,g⟩;have:l=r:=by omega
  subst this;exact⟨rfl,l,rfl,o,f,g⟩
 case step =>
  rintro x c a _ G ⟨rfl,l,r,rfl,y,o,d,f,g⟩;dsimp only;by_cases m:l >= r
  ·rw[if_pos m]
   have:l=r:=by omega
   subst this;exact di ⟨rfl,l,rfl,o,f,g⟩
  ·rw[if_neg m]
   refine cj (B _ (by omega) _ ?_)
   cases e:b (l+(r-l) / 2)
   case true =>
    simp only[if_true];exact di ⟨rfl,_,r,rfl,by omega,o,by omega,λ i hi=>mono i _ (by omega) (by omega) e,g⟩
   case false =>
    simp only[eN,if_false];refine di ⟨rfl,l,_,rfl,by omega,by omega,by omega,f,λ i v C=>?_⟩
    cases z:b i with
    | false=>rfl
    | true=>rw[mono _ i v C z]at e;cases e
def kDA(b:Nat->Bool)
  (m:∀ i,i<n->∀ Q:Option Bool->eP->Prop,Q (some (b i)) st->wpS M A E s (cP left key arr base i) Q st)
  (mono:∀ i j,i<=j->j<n->b j=true->b i=true) (D:hint<n)
  (h:∀ k,k<=n->(∀ i,i<k->b i=true)->(∀ i,k<=i->i<n->b i=false)->Q (some k) st):wpS M A E s (vN left key arr base n hint) Q st:=by
 unfold vN
 walk_at "sort_open gallop"
 dsimp only
 have B:∀{i j:Nat},i<=j->j<n->b i=false->b j=false:=λ{i j} h1 H e=>by
  cases z:b j with
  | false=>rfl
  | true=>rw[mono i j h1 H z]at e;cases e
 refine cj (m hint D _ ?_)
 cases e:b hint
 case true =>
  simp only[if_true]
  refine cj (uq (jq (I:=λ x c a=>a=st/\∃ l o,c=(none,l,o)/\l<o/\x+1<=o/\hint+l<n/\b (hint+l)=true)
   (Q:=λ c a=>a=st/\∃ l o,c=(none,l,o)/\l<o/\hint+l<n/\b (hint+l)=true/\(n-hint<=o\/(hint+o<n/\b (hint+o)=false))) ?step ?fin ⟨rfl,0,1,rfl,by omega,by omega,by omega,e⟩) ?post)
  case fin =>
   rintro c a ⟨rfl,l,o,rfl,lo,q,g,f⟩;exact⟨rfl,l,o,rfl,lo,g,f,.inl (by omega)⟩
  case step =>
   rintro x c a _ G ⟨rfl,l,o,rfl,lo,q,g,f⟩;dsimp only;by_cases d:o >= n-hint
   ·rw[if_pos d]
    exact di ⟨rfl,l,o,rfl,lo,g,f,.inl d⟩
   ·rw[if_neg d]
    refine cj (m _ (by omega) _ ?_)
    cases z:b (hint+o)
    case true =>
     simp only[yy,eN,if_false];exact di ⟨rfl,o,_,rfl,by omega,by omega,by omega,z⟩
    case false =>
     simp only[Er,if_true];exact di ⟨rfl,l,o,rfl,lo,g,f,.inr ⟨by omega,z⟩⟩
  case post =>
   rintro c a ⟨rfl,l,o,rfl,lo,g,f,u⟩;refine oH (lo:=hint+l+1) (hi:=hint+min o (n-hint)) b m mono (by omega) (by omega) (λ i r=>mono i (hint+l) (by omega) g f) (λ i y v=>?_) h;rcases u with z | ⟨C,p⟩
   ·omega
   ·exact B (i:=hint+o) (by omega) v p
 case false =>
  simp only[eN,if_false]
  refine cj (uq (jq (I:=λ x c a=>a=st/\∃ l o,c=(none,l,o)/\l<o/\x+1<=o/\l<=hint/\b (hint-l)=false)
   (Q:=λ c a=>a=st/\∃ l o,c=(none,l,o)/\l<o/\l<=hint/\b (hint-l)=false/\(hint+1<=o\/(o<=hint/\b (hint-o)=true))) ?step ?fin ⟨rfl,0,1,rfl,by omega,by omega,by omega,e⟩) ?post)
  case fin =>
   rintro c a ⟨rfl,l,o,rfl,lo,q,g,f⟩;exact⟨rfl,l,o,rfl,lo,g,f,.inl (by omega)⟩
  case step =>
   rintro x c a _ G ⟨rfl,l,o,rfl,lo,q,g,f⟩;dsimp only;by_cases d:o >= hint+1
   ·rw[if_pos d]
    exact di ⟨rfl,l,o,rfl,lo,g,f,.inl d⟩
   ·rw[if_neg d]
    refine cj (m _ (by omega) _ ?_)
    cases z:b (hint-o)
    case false =>
     simp only[eN,if_false];exact di ⟨rfl,o,_,rfl,by omega,by omega,by omega,z⟩
    case true =>
     simp only[if_true];exact di ⟨rfl,l,o,rfl,lo,g,f,.inr ⟨by omega,z⟩⟩
  case post =>
   rintro c a ⟨rfl,l,o,rfl,lo,g,f,u⟩;refine oH (lo:=hint+1-min o (hint+1)) (hi:=hint-l) b m mono (by omega) (by omega) (λ i r=>?_) (λ i y v=>B (i:=hint-l) y v f) h;rcases u with z | ⟨C,p⟩
   ·omega
   ·exact mono i (hint-o) (by omega) (by omega) p
end
section
variable {α:Type}
structure Wk(lb:α->α->Bool):Prop where
 irr:∀ a,lb a a=false
 neg:∀ a b c,lb a c=true->lb a b=true\/lb b c=true
 tr:∀ a b c,lb a b=true->lb b c=true->lb a c=true
variable {lb:α->α->Bool}
def le(lb:α->α->Bool)(a b:α):Prop:=lb b a=false
def Wk.refl(W:Wk lb)(a:α):le lb a a:=W.irr a
def Wk.of_lt(W:Wk lb){a b:α}(h:lb a b=true):le lb a b:=by
 unfold le
 cases e:lb b a with
 | false=>rfl
 | true=>have:=W.tr _ _ _ h e;rw[W.irr]at this;cases this
def Wk.trans(W:Wk lb){a b c:α}(h:le lb a b)(k:le lb b c):le lb a c:=by
 unfold le at *
 cases e:lb c a with
 | false=>rfl
 | true =>
  rcases W.neg c b a e with z | z
  ·rw[k]at z;cases z
  ·rw[h]at z;cases z
def jO(lb:α->α->Bool)(l:List α):Prop:=l.Pairwise (le lb)
structure Mg(lb:α->α->Bool)(A B:List α)(out ra rb:List α):Prop where
 sa:jO lb (out++ra)
 sb:jO lb (out++rb)
 pm:(out++(ra++rb)).Perm (A++B)
def Mg.moveA{A B a c d b:List α}(h:Mg lb A B a (c++d) b)(i:∀ x∈c,∀ y∈b,le lb x y):Mg lb A B (a++c) d b:=by
 refine⟨by rw[dh];exact h.sa,?_,?_⟩
 ·have h1:=eE.mp h.sa
  have g:=eE.mp h.sb;have l:=eE.mp h1.2.1;rw[jO,dh];refine eE.mpr ⟨h1.1,eE.mpr ⟨l.1,g.2.1,i⟩,λ x f y j=>?_⟩;rcases ck.mp j with z | z
  ·exact h1.2.2 x f y (dw _ z)
  ·exact g.2.2 x f y z
 ·refine uj ?_ h.pm
  simp only[dh];exact AD _
def Mg.swap{A B a c b:List α}(h:Mg lb A B a c b):Mg lb B A a b c :=
 ⟨h.sb,h.sa,((kh).append_left a).trans (h.pm.trans kh)⟩
def Mg.moveB{A B a c b d:List α}(h:Mg lb A B a b (c++d))(f:∀ x∈c,∀ y∈b,le lb x y):Mg lb A B (a++c) b d:=(h.swap.moveA f).swap
def Res(lb:α->α->Bool)(A B r:List α):Prop:=jO lb r/\r.Perm (A++B)
def Mg.endA{A B a b:List α}(h:Mg lb A B a b []):Res lb A B (a++b++[]):=⟨by simpa using h.sa,by simpa using h.pm⟩
def Mg.endB{A B a b:List α}(h:Mg lb A B a [] b):Res lb A B (a++[]++b):=⟨by simpa using h.sb,by simpa using h.pm⟩
def Mg.last{A B a b:List α}{z:α}(h:Mg lb A B a [z] b)(hz:∀ y∈b,le lb y z):Res lb A B (a++b++[z]):=by
 refine⟨?_,?_⟩
 ·have h1:=eE.mp h.sa
  have f:=eE.mp h.sb;refine eE.mpr ⟨h.sb,oh _ _,λ x c y d=>?_⟩;have:y=z:=by simpa using d
  subst this;rcases ck.mp c with w | w
  ·exact h1.2.2 x w y (by simp)
  ·exact hz x w
 ·refine uj ?_ h.pm
  rw[dh];exact kh.append_left a
end
def mP:Array bq->Array bq->StateT eP Sem (Array bq):=sortPriv% PySem.Builtin.mergeLo
def xU:Nat->StateT eP Sem Unit:=sortPriv% PySem.Builtin.setMinGallop
abbrev wM(st:eP)(g:Nat):eP:=CU (kindOf st) (df st) (de st) g (ur st)
def setMinGallop'_eq(g:Nat):xU g=modify λ s=>wM s g:=rfl
end Srt
local macro_rules | `(tactic| walk_at "sort_open mergeLo")=>`(tactic| delta $(Lean.mkIdent (Lean.mkPrivateNameCore `PySem.Builtin.List.W1All `PySem.Builtin.mergeLo)):ident)
namespace Srt
set_option autoImplicit false
open PySem PyProof.Rows
section
variable {M:yu} {A:gh} {E:ar->ay->Prop} {s:ay} {lb:bq->bq->Bool} {D:bq->Prop} {kd:nj}
def vZ(M:yu)(A:gh)(E:ar->ay->Prop)(s:ay)(lb:bq->bq->Bool)(D:bq->Prop)(kd:nj):Prop :=
 ∀ x y,D x->D y->∀(st:eP)(Q:Option Bool->eP->Prop),kindOf st=kd->Q (some (lb x y)) st->wpS M A E s (lt' x y) Q st
def qI{arr:Array bq}{i:Nat}{p:bq}{Q:bq->eP->Prop}{st:eP}(h:arr[i]?=some p)(q:Q p st):wpS M A E s (elem' arr i) Q st:=by
 rw[elem'_eq,h];exact di q
def Sm(st a:eP):Prop:=kindOf a=kindOf st/\df a=df st/\de a=de st/\ur a=ur st
def Sm.refl(st:eP):Sm st st:=⟨rfl,rfl,rfl,rfl⟩
def Sm.gal{st a:eP}(h:Sm st a)(g:Nat):Sm st (wM a g):=h
def wO{x:String}{Q:Unit->eP->Prop}{st:eP}(q:Q () st):wpS M A E s (liftM (rule x):StateT eP Sem Unit) Q st:=GQ (vf ⟨rfl,q⟩)
def kDC(a:vZ M A E s lb D kd){left:Bool}{key x:bq}{arr:Array bq}{base i:Nat}{Q:Option Bool->eP->Prop}{st:eP}(c:kindOf st=kd)(f:arr[base+i]?=some x)(d:D key)(b:D x)
  (q:Q (some (if left then lb x key else !lb key x)) st):wpS M A E s (cP left key arr base i) Q st:=by
 unfold cP;refine cj (qI f ?_)
 cases left with
 | true =>
  simp only[if_true]at q ⊢;exact a _ _ b d st _ c q
 | false =>
  simp only[eN,if_false]at q ⊢;exact cj (a _ _ d b st _ c (di q))
def uS(W:Wk lb)(l:vZ M A E s lb D kd){left:Bool}{key:bq}{arr:Array bq}{base n b:Nat}{Q:Option Nat->eP->Prop}{st:eP}(r:kindOf st=kd)(v:D key)(m:∀ x∈arr.toList,D x)
  (y:base+n<=arr.size) (f:∀ i j (hi:i<=j) (d:j<n),le lb (arr[base+i]'(by omega)) (arr[base+j]'(by omega))) (p:b<n)
  (h:∀ k,k<=n->(∀ i (hi:i<k) (a:i<n),if left then lb (arr[base+i]'(by omega)) key=true else le lb (arr[base+i]'(by omega)) key) ->
   (∀ i (hi:k<=i) (a:i<n),if left then le lb key (arr[base+i]'(by omega)) else lb key (arr[base+i]'(by omega))=true)->Q (some k) st):wpS M A E s (vN left key arr base n b) Q st:=by
 have g:∀ i,i<n->arr[base+i]?=some (arr.getD (base+i) key):=λ i hi=>by
  rw[getElem?_pos arr (base+i) (by omega)]
  congr 1
  simp[GY,show base+i<arr.size by omega]
 have c:∀ i (hi:i<n),arr.getD (base+i) key=arr[base+i]'(by omega):=λ i hi=>by simp[GY,show base+i<arr.size by omega]
 refine kDA (λ i=>if left then lb (arr.getD (base+i) key) key else !lb key (arr.getD (base+i) key)) (λ i hi Q q=>kDC l r (g i hi) v (by rw[c i hi];exact m _ (by simp)) q) (λ i j hi d e=>?_) p (λ k o h1 u=>h k o (λ i hi a=>?_) (λ i hi a=>?_))
 ·have:=f i j hi d
  rw[c i (by omega)];rw[c j d]at e
  cases left with
  | true =>
   simp only[if_true]at e ⊢;rcases W.neg _ (arr[base+i]'(by omega)) _ e with z | z
   ·rw[show lb _ _=false from this]at z;cases z
   ·exact z
  | false =>
   simp only[eN,if_false,Do]at e ⊢;exact W.trans (lb:=lb) this (show le lb _ _ from e)
 ·have:=h1 i hi
  rw[c i a]at this
  cases left with
  | true=>simpa using this
  | false=>simp only[eN,if_false,Do]at this ⊢;exact this
 ·have:=u i hi a
  rw[c i a]at this
  cases left with
  | true=>simp only[if_true]at this ⊢;exact this
  | false=>simp only[eN,if_false,Bool.not_eq_false']at this ⊢;exact this
abbrev LS:=Option (Array bq)×Array bq×Nat×Nat×Nat×Nat×Nat
section
variable (a b:Array bq)
def pC(c:Array bq)(d h g k f:Nat):StateT eP Sem (ForInStep LS):=do
 let x <-elem' a d
 if(d+1+1 == a.size)=true then pure (.done (some (c.push x++b.extract h++a.extract (d+1)),c.push x,d+1,h,g,k,f))
 else if(decide (k<7) && decide (f<7))=true then pure (.done (none,c.push x,d+1,h,g,k,f)) else pure (.yield (none,c.push x,d+1,h,g,k,f))
def pB(d:Array bq)(f c g k ob:Nat):StateT eP Sem (ForInStep LS):=do
 let y <-elem' b c
 if(c+1 == b.size)=true then pure (.done (some (d.push y++a.extract f++b.extract (c+1)),d.push y,f,c+1,g,k,ob))
 else do
  let x <-elem' a f
  let r <-vN true x b (c+1) (b.size-(c+1)) 0
  match r with
  | some k1 =>
   if k1>0 then
    if(c+1+k1 == b.size)=true then pure (.done (some (d.push y++b.extract (c+1) (c+1+k1)++a.extract f++b.extract (c+1+k1)),d.push y++b.extract (c+1) (c+1+k1),f,c+1+k1,g,k,k1))
    else pC a b (d.push y++b.extract (c+1) (c+1+k1)) f (c+1+k1) g k k1
   else pC a b (d.push y) f (c+1) g k k1
  | x=>pure (.done (some (d.push y++a.extract f++b.extract (c+1)),d.push y,f,c+1,g,k,ob))
def pA(d:Array bq)(c f g h ob:Nat):StateT eP Sem (ForInStep LS):=do
 xU g
 let y <-elem' b f
 let r <-vN false y a c (a.size-c) 0
 match r with
 | some k =>
  if k>0 then
   if(c+k+1 == a.size)=true then pure (.done (some (d++a.extract c (c+k)++b.extract f++a.extract (c+k)),d++a.extract c (c+k),c+k,f,g,k,ob))
   else if(c+k == a.size)=true then pure (.done (some (d++a.extract c (c+k)++a.extract (c+k)++b.extract f),d++a.extract c (c+k),c+k,f,g,k,ob))
   else pB a b (d++a.extract c (c+k)) (c+k) f g k ob
  else pB a b d c f g k ob
 | x=>pure (.done (some (d++a.extract c++b.extract f),d,c,f,g,h,ob))
abbrev LS1:=Option (Array bq)×Array bq×Nat×Nat×Nat×Nat
def p1(mg:Nat)(c:LS1):StateT eP Sem (ForInStep LS1):=do
 let y <-elem' b c.2.2.2.1
 let x <-elem' a c.2.2.1
 let r <-lt' y x
 match r with
 | some bw =>
  if bw=true then do
   let y <-elem' b c.2.2.2.1
   if(c.2.2.2.1+1 == b.size)=true then pure (.done (some (c.2.1.push y++a.extract c.2.2.1++b.extract (c.2.2.2.1+1)),c.2.1.push y,c.2.2.1,c.2.2.2.1+1,0,c.2.2.2.2.2+1))
   else if c.2.2.2.2.2+1 >= mg then pure (.done (none,c.2.1.push y,c.2.2.1,c.2.2.2.1+1,0,c.2.2.2.2.2+1))
   else pure (.yield (none,c.2.1.push y,c.2.2.1,c.2.2.2.1+1,0,c.2.2.2.2.2+1))
  else do
   let x <-elem' a c.2.2.1
   if(c.2.2.1+1+1 == a.size)=true then pure (.done (some (c.2.1.push x++b.extract c.2.2.2.1++a.extract (c.2.2.1+1)),c.2.1.push x,c.2.2.1+1,c.2.2.2.1,c.2.2.2.2.1+1,0))
   else if c.2.2.2.2.1+1 >= mg then pure (.done (none,c.2.1.push x,c.2.2.1+1,c.2.2.2.1,c.2.2.2.2.1+1,0))
   else pure (.yield (none,c.2.1.push x,c.2.2.1+1,c.2.2.2.1,c.2.2.2.2.1+1,0))
 | x=>pure (.done (some (c.2.1++a.extract c.2.2.1++b.extract c.2.2.2.1),c.2.1,c.2.2.1,c.2.2.2.1,c.2.2.2.2.1,c.2.2.2.2.2))
abbrev LS0:=Option (Array bq)×Array bq×Nat×Nat×Nat
def p0(c:LS0):StateT eP Sem (ForInStep LS0):=do
 let d <-forIn [:a.size+b.size] ((none,c.2.1,c.2.2.1,c.2.2.2.1,0,0):LS1) λ x d=>p1 a b c.2.2.2.2 d
 match d.1 with
 | some r=>pure (.done (some r,d.2.1,d.2.2.1,d.2.2.2.1,c.2.2.2.2))
 | none=>do
  liftM (rule "list.sort.gallop")
  let f <-forIn [:a.size+b.size] ((none,d.2.1,d.2.2.1,d.2.2.2.1,c.2.2.2.2+1,d.2.2.2.2.1,d.2.2.2.2.2):LS) λ x f =>
   if f.2.2.2.2.1>1 then pA a b f.2.1 f.2.2.1 f.2.2.2.1 (f.2.2.2.2.1-1) f.2.2.2.2.2.1 f.2.2.2.2.2.2 else pA a b f.2.1 f.2.2.1 f.2.2.2.1 f.2.2.2.2.1 f.2.2.2.2.2.1 f.2.2.2.2.2.2
  match f.1 with
  | some r=>pure (.done (some r,f.2.1,f.2.2.1,f.2.2.2.1,f.2.2.2.2.1))
  | none=>do
   xU (f.2.2.2.2.1+1)
   pure (.yield (none,f.2.1,f.2.2.1,f.2.2.2.1,f.2.2.2.2.1+1))
def mergeLo'_parts:mP a b=(do
  liftM (rule "list.sort.merge-lo")
  let y <-elem' b 0
  if(1 == b.size)=true then pure (#[y]++a.extract 0++b.extract 1)
  else if(0+1 == a.size)=true then pure (#[y]++b.extract 1++a.extract 0)
  else do
   let st <-get
   let c <-forIn [:a.size+b.size] ((none,#[y],0,1,gallopOf st):LS0) λ x c=>p0 a b c
   match c.1 with
   | some r=>pure r
   | none=>unsupported "internal:list.sort.merge-bound"):=by
 unfold mP
 walk_at "sort_open mergeLo"
 dsimp only;refine congrArg _ (funext λ _=>?_);refine congrArg _ (funext λ y=>?_);refine congrArg _ ?_;refine congrArg _ ?_;refine congrArg _ (funext λ st=>?_);refine congr (congrArg _ (congrArg _ (funext λ x=>funext λ c=>?_))) (funext λ c=>by cases c.1<;>rfl);unfold p0;refine congr (congrArg _ (congrArg _ (funext λ x=>funext λ d=>?_))) (funext λ d=>?_)
 ·unfold p1
  refine congrArg _ (funext λ _=>?_);refine congrArg _ (funext λ _=>?_);refine congrArg _ (funext λ r=>?_);cases r<;>rfl
 ·cases d.1 with
  | some r=>rfl
  | none =>
   dsimp only;refine congrArg _ (funext λ _=>?_);refine congr (congrArg _ (congrArg _ (funext λ x=>funext λ f=>?_))) (funext λ f=>by cases f.1<;>rfl);have tail:∀(h:Array bq)(i j g k l:Nat),True:=λ _ _ _ _ _ _=>trivial;refine ite_congr rfl (λ _=>?_) (λ _=>?_)
   all_goals
    unfold pA;refine congrArg _ (funext λ _=>?_);refine congrArg _ (funext λ y=>?_);refine congrArg _ (funext λ r=>?_)
    cases r with
    | none=>rfl
    | some k =>
     dsimp only;refine ite_congr rfl (λ _=>ite_congr rfl (λ _=>rfl) (λ _=>ite_congr rfl (λ _=>rfl) (λ _=>?_))) (λ _=>?_)
     all_goals
      unfold pB;refine congrArg _ (funext λ y=>?_);refine ite_congr rfl (λ _=>rfl) (λ _=>?_);refine congrArg _ (funext λ x=>?_);refine congrArg _ (funext λ r=>?_);cases r<;>rfl
end
end
section
variable {α:Type}
def vC(a:Array α)(i:Nat):(a.extract i).toList=a.toList.drop i:=by
 rw[uu,qc];exact ki (by simp)
def xN(a:Array α)(i k:Nat):(a.extract i (i+k)).toList=(a.toList.drop i).take k:=by
 rw[uu,qc]
 congr 1
 omega
def drop_one{a:Array α}{i:Nat}(h:i<a.size):a.toList.drop i=[a[i]]++a.toList.drop (i+1):=by
 rw[Bc (by simpa using h)]
 rfl
def kEQ(l:List α)(i k:Nat):l.drop i=(l.drop i).take k++l.drop (i+k):=by
 conv=>lhs;rw[<-fk k (l.drop i)]
 rw[AE]
end
section
variable {M:yu} {A:gh} {E:ar->ay->Prop} {s:ay} {lb:bq->bq->Bool} {D:bq->Prop} {kd:nj} {a b:Array bq}
structure Hy(M:yu)(A:gh)(E:ar->ay->Prop)(s:ay)(lb:bq->bq->Bool)(D:bq->Prop)(kd:nj)(a b:Array bq):Prop where
 W:Wk lb
 L:vZ M A E s lb D kd
 da:∀ x∈a.toList,D x
 db:∀ x∈b.toList,D x
 sa:jO lb a.toList
 sb:jO lb b.toList
 last:∀(h:0<a.size),∀ y∈b.toList,le lb y a[a.size-1]
def MI(lb:bq->bq->Bool)(a b:Array bq)(c:Array bq)(d f:Nat):Prop :=
 Mg lb a.toList b.toList c.toList (a.toList.drop d) (b.toList.drop f)/\d+1<a.size/\f<b.size/\c.size=d+f
def Yd(lb:bq->bq->Bool)(a b:Array bq)(n:Nat){d:Type}(c:Option (Array bq)×Array bq×Nat×Nat×d):Prop:=c.1=none/\MI lb a b c.2.1 c.2.2.1 c.2.2.2.1/\n<=c.2.1.size
def Dn(lb:bq->bq->Bool)(a b:Array bq)(n:Nat){d:Type}(c:Option (Array bq)×Array bq×Nat×Nat×d):Prop:=(∃ r,c.1=some r/\Res lb a.toList b.toList r.toList)\/Yd lb a b n c
def RR(lb:bq->bq->Bool)(a b:Array bq)(n:Nat){d:Type}:ForInStep (Option (Array bq)×Array bq×Nat×Nat×d)->Prop
 | .done c=>Dn lb a b n c
 | .yield c=>Yd lb a b n c
def wL(W:Wk lb){a:Array bq}(h:jO lb a.toList){i j:Nat}(b:i<=j)(c:j<a.size):le lb (a[i]'(by omega)) a[j]:=by
 by_cases e:i=j
 ·subst e;exact W.refl _
 ·have:=oq.mp h i j (by simp;omega) (by simp;omega) (by omega)
  simpa using this
def yY{a:Array bq}{i:Nat}{x:bq}(h:x∈a.toList.drop i):∃ j,∃ hj:j<a.size,i<=j/\x=a[j]:=by
 obtain⟨k,b,e⟩:=eZ.mp h;rw[iN]at b;refine⟨i+k,by simp at b;omega,by omega,?_⟩;rw[<-e,Bm];simp
def kHC{c:Array bq}{f d:Nat}(h:Mg lb a.toList b.toList c.toList (a.toList.drop f) (b.toList.drop d))(e:d=b.size):Res lb a.toList b.toList (c++a.extract f++b.extract d).toList:=by
 rw[iE,iE,vC,vC];have z:b.toList.drop d=[]:=ml (by simp;omega);rw[z]at h ⊢;exact h.endA
def kVC{c:Array bq}{d f:Nat}(h:Mg lb a.toList b.toList c.toList (a.toList.drop d) (b.toList.drop f))(e:d=a.size):Res lb a.toList b.toList (c++a.extract d++b.extract f).toList:=by
 rw[iE,iE,vC,vC];have z:a.toList.drop d=[]:=ml (by simp;omega);rw[z]at h ⊢;exact h.endB
def cL(H:Hy M A E s lb D kd a b){d:Array bq}{c f:Nat}(h:Mg lb a.toList b.toList d.toList (a.toList.drop c) (b.toList.drop f))(e:c+1=a.size):Res lb a.toList b.toList (d++b.extract f++a.extract c).toList:=by
 rw[iE,iE,vC,vC]
 have z:a.toList.drop c=[a[a.size-1]'(by omega)]:=by
  rw[drop_one (show c<a.size by omega),ml (by simp;omega)];simp only[iP]
  congr 2
  omega
 rw[z]at h ⊢;exact h.last λ y g=>H.last (by omega) y (Aj g)
def kDJ(H:Hy M A E s lb D kd a b){f:Array bq}{g d:Nat}(p:g<a.size)(l:d<b.size)(h:Mg lb a.toList b.toList f.toList (a.toList.drop g) (b.toList.drop d))(c:le lb b[d] a[g]):Mg lb a.toList b.toList (f.push b[d]).toList (a.toList.drop g) (b.toList.drop (d+1)):=by
 rw[drop_one l]at h;rw[uw];refine h.moveB λ x m y n=>?_;have:x=b[d]:=by simpa using m
 subst this;obtain⟨j,i,o,rfl⟩:=yY n;exact H.W.trans c (wL H.W H.sa o i)
def kLE(H:Hy M A E s lb D kd a b){f:Array bq}{d g:Nat}(i:d<a.size)(h:Mg lb a.toList b.toList f.toList (a.toList.drop d) (b.toList.drop g))(c:∀ y∈b.toList.drop g,le lb a[d] y):Mg lb a.toList b.toList (f.push a[d]).toList (a.toList.drop (d+1)) (b.toList.drop g):=by
 rw[drop_one i]at h;rw[uw];refine h.moveA λ x j y l=>?_;have:x=a[d]:=by simpa using j
 subst this;exact c y l
def kVH(H:Hy M A E s lb D kd a b){d:Nat}{x:bq}(i:d<b.size)(c:le lb x b[d]):∀ y∈b.toList.drop d,le lb x y:=λ y g=>by
 obtain⟨j,f,h,rfl⟩:=yY g;exact H.W.trans c (wL H.W H.sb h f)
def kRH(H:Hy M A E s lb D kd a b){st:eP}(n:kindOf st=kd){d:Array bq}{f g u v mg:Nat}(h:MI lb a b d f g){Q:ForInStep LS1->eP->Prop}
  (q:∀ r,RR lb a b (d.size+1) r->Q r st):wpS M A E s (p1 a b mg (none,d,f,g,u,v)) Q st:=by
 obtain⟨m,h1,j,o⟩:=h;have l:f<a.size:=by omega
 unfold p1;dsimp only;refine cj (qI (getElem?_pos b g j) ?_);refine cj (qI (getElem?_pos a f l) ?_);refine cj (H.L _ _ (H.db _ (by simp)) (H.da _ (by simp)) st _ n ?_)
 cases e:lb b[g] a[f]
 case true =>
  simp only[if_true];refine cj (qI (getElem?_pos b g j) ?_);have i:=kDJ H l j m (H.W.of_lt e);by_cases c:g+1=b.size
  ·rw[if_pos (by simpa using c)]
   exact di (q _ (.inl ⟨_,rfl,kHC i c⟩))
  ·rw[if_neg (by simpa using c)]
   have y:Yd lb a b (d.size+1) (none,d.push b[g],f,g+1,(0,v+1)):=⟨rfl,⟨i,h1,by show g+1<b.size;omega,by show(d.push b[g]).size=f+(g+1);rw[iu];omega⟩,by show d.size+1<=(d.push b[g]).size;rw[iu];omega⟩
   split
   ·exact di (q _ (.inr y))
   ·exact di (q _ y)
 case false =>
  simp only[eN,if_false];refine cj (qI (getElem?_pos a f l) ?_);have i:=kLE H l m (kVH H j e);by_cases c:f+1+1=a.size
  ·rw[if_pos (by simpa using c)]
   exact di (q _ (.inl ⟨_,rfl,cL H i c⟩))
  ·rw[if_neg (by simpa using c)]
   have y:Yd lb a b (d.size+1) (none,d.push a[f],f+1,g,(u+1,0)):=⟨rfl,⟨i,by show f+1+1<a.size;omega,j,by show(d.push a[f]).size=f+1+g;rw[iu];omega⟩,by show d.size+1<=(d.push a[f]).size;rw[iu];omega⟩
   split
   ·exact di (q _ (.inr y))
   ·exact di (q _ y)
def wE{a:Array bq}{i k:Nat}{x:bq}(h:x∈(a.toList.drop i).take k):∃ j,∃ hj:i+j<a.size,j<k/\x=a[i+j]:=by
 obtain⟨j,hj,e⟩:=eZ.mp h;rw[cx,iN]at hj;refine⟨j,by simp at hj;omega,by omega,?_⟩;rw[<-e,AF,Bm];simp
def kQK{f:Array bq}{g d k:Nat}(h:Mg lb a.toList b.toList f.toList (a.toList.drop g) (b.toList.drop d))(c:∀ x∈(b.toList.drop d).take k,∀ y∈a.toList.drop g,le lb x y):Mg lb a.toList b.toList (f++b.extract d (d+k)).toList (a.toList.drop g) (b.toList.drop (d+k)):=by
 rw[iE,xN];rw[kEQ b.toList d k]at h;exact h.moveB c
def kQL{f:Array bq}{d g k:Nat}(h:Mg lb a.toList b.toList f.toList (a.toList.drop d) (b.toList.drop g))(c:∀ x∈(a.toList.drop d).take k,∀ y∈b.toList.drop g,le lb x y):Mg lb a.toList b.toList (f++a.extract d (d+k)).toList (a.toList.drop (d+k)) (b.toList.drop g):=by
 rw[iE,xN];rw[kEQ a.toList d k]at h;exact h.moveA c
def kKH(H:Hy M A E s lb D kd a b){st:eP}{f:Array bq}{d i g k l n:Nat}(h:MI lb a b f d i)(v:n<=f.size+1)(c:∀(x:d<a.size),∀ y∈b.toList.drop i,le lb a[d] y){Q:ForInStep LS->eP->Prop}
  (q:∀ r,RR lb a b n r->Q r st):wpS M A E s (pC a b f d i g k l) Q st:=by
 obtain⟨m,h1,p,u⟩:=h;have j:d<a.size:=by omega
 unfold pC;refine cj (qI (getElem?_pos a d j) ?_);have o:=kLE H j m (c j);by_cases e:d+1+1=a.size
 ·rw[if_pos (by simpa using e)]
  exact di (q _ (.inl ⟨_,rfl,cL H o e⟩))
 ·rw[if_neg (by simpa using e)]
  have y:Yd lb a b n (none,f.push a[d],d+1,i,(g,k,l)):=⟨rfl,⟨o,by show d+1+1<a.size;omega,p,by show(f.push a[d]).size=d+1+i;rw[iu];omega⟩,by show n<=(f.push a[d]).size;rw[iu];omega⟩
  split
  ·exact di (q _ (.inr y))
  ·exact di (q _ y)
def kKI(H:Hy M A E s lb D kd a b){st:eP}(Y:kindOf st=kd){f:Array bq}{l d g k ob n:Nat}(h:MI lb a b f l d)(hn:n<=f.size+1)(c:∀(p:l<a.size)(hb:d<b.size),le lb b[d] a[l]){Q:ForInStep LS->eP->Prop}
  (q:∀ r,RR lb a b n r->Q r st):wpS M A E s (pB a b f l d g k ob) Q st:=by
 obtain⟨m,h1,G,h3⟩:=h;have p:l<a.size:=by omega
 unfold pB;refine cj (qI (getElem?_pos b d G) ?_);have C:=kDJ H p G m (c p G);have sz:(f.push b[d]).size=l+(d+1):=by rw[iu];omega
 by_cases e:d+1=b.size
 ·rw[if_pos (by simpa using e)]
  exact di (q _ (.inl ⟨_,rfl,kHC C e⟩))
 ·rw[if_neg (by simpa using e)]
  refine cj (qI (getElem?_pos a l p) ?_);refine cj (uS H.W H.L Y (H.da _ (by simp)) H.db (by omega) (λ i j S I=>wL H.W H.sb (by omega) (by omega)) (by omega) λ o kn O N=>?_);simp only[if_true]at O N
  have rest:∀ y∈b.toList.drop (d+1+o),le lb a[l] y:=λ y u=>by
   obtain⟨j,I,ij,rfl⟩:=yY u;have:=N (j-(d+1)) (by omega) (by omega);simp only[show d+1+(j-(d+1))=j by omega]at this;exact this
  dsimp only;by_cases T:o>0
  ·rw[if_pos T]
   have J:=kQK (k:=o) C λ x Z y u=>by
    obtain⟨j,I,U,rfl⟩:=wE Z;obtain⟨i,S,X,rfl⟩:=yY u;exact H.W.trans (H.W.of_lt (O j U (by omega))) (wL H.W H.sa X S)
   have B:(f.push b[d]++b.extract (d+1) (d+1+o)).size=l+(d+1+o):=by
    rw[xt,sz,ka];omega
   by_cases v:d+1+o=b.size
   ·rw[if_pos (by simpa using v)]
    exact di (q _ (.inl ⟨_,rfl,kHC J v⟩))
   ·rw[if_neg (by simpa using v)]
    exact kKH H ⟨J,h1,by omega,B⟩ (by omega) (λ _=>rest) q
  ·rw[if_neg T]
   have:o=0:=by omega
   subst this;exact kKH H ⟨C,h1,by omega,sz⟩ (by omega) (λ _=>rest) q
def kRG(H:Hy M A E s lb D kd a b){st:eP}(l:kindOf st=kd){c:Array bq}{d f g X ob n:Nat}(h:MI lb a b c d f)(U:n<=c.size+1){Q:ForInStep LS->eP->Prop}
  (q:∀ r,RR lb a b n r->Q r (wM st g)):wpS M A E s (pA a b c d f g X ob) Q st:=by
 obtain⟨m,h1,I,h3⟩:=id h;have Z:d<a.size:=by omega
 unfold pA;rw[setMinGallop'_eq];refine cj (om ?_);refine cj (qI (getElem?_pos b f I) ?_);refine cj (uS (st:=wM st g) H.W H.L l (H.db _ (by simp)) H.da (by omega) (λ i j G N=>wL H.W H.sa (by omega) (by omega)) (by omega) λ k kn C u=>?_);simp only[eN,if_false]at C u;dsimp only;by_cases J:k>0
 ·rw[if_pos J]
  have o:=kQL (k:=k) m λ x Y y T=>by
   obtain⟨j,N,O,rfl⟩:=wE Y;obtain⟨i,G,S,rfl⟩:=yY T;exact H.W.trans (C j O (by omega)) (wL H.W H.sb S G)
  have B:(c++a.extract d (d+k)).size=d+k+f:=by
   rw[xt,ka];omega
  by_cases v:d+k+1=a.size
  ·rw[if_pos (by simpa using v)]
   exact di (q _ (.inl ⟨_,rfl,cL H o v⟩))
  ·rw[if_neg (by simpa using v)]
   by_cases p:d+k=a.size
   ·rw[if_pos (by simpa using p)]
    exact di (q _ (.inl ⟨_,rfl,kVC o p⟩))
   ·rw[if_neg (by simpa using p)]
    exact kKI (st:=wM st g) H l ⟨o,by omega,I,B⟩ (by omega) (λ _ _=>H.W.of_lt (u k (by omega) (by omega))) q
 ·rw[if_neg J]
  have:k=0:=by omega
  subst this;exact kKI (st:=wM st g) H l h U (λ _ _=>H.W.of_lt (u 0 (by omega) (by omega))) q
def Yd.mono{n d:Nat}{f:Type}{c:Option (Array bq)×Array bq×Nat×Nat×f}(h:Yd lb a b n c)(k:d<=n):Yd lb a b d c:=⟨h.1,h.2.1,je k h.2.2⟩
theorem Dn.mono{n d:Nat}{f:Type}{c:Option (Array bq)×Array bq×Nat×Nat×f}(h:Dn lb a b n c)(k:d<=n):Dn lb a b d c:=h.imp id λ z=>z.mono k
def kRI(H:Hy M A E s lb D kd a b){st:eP}(N:kindOf st=kd){l:Array bq}{L S g:Nat}(h:MI lb a b l L S){Q:ForInStep LS0->eP->Prop}
  (O:∀ r c st',Sm st st'->Res lb a.toList b.toList r.toList->Q (.done (some r,c)) st') (X:∀ c st',Sm st st'->Yd lb a b (l.size+1) c->Q (.yield c) st'):wpS M A E s (p0 a b (none,l,L,S,g)) Q st:=by
 unfold p0;dsimp only;have U:0<a.size+b.size:=by have:=h.2.2.1;omega
 refine cj (uq (jq (I:=λ x d st'=>st'=st/\Yd lb a b (l.size+x) d) (Q:=λ d st'=>st'=st/\Dn lb a b (l.size+1) d) ?step ?fin ⟨rfl,rfl,h,be _⟩) ?post)
 case fin =>
  rintro d st' ⟨rfl,y⟩;exact⟨rfl,.inr (y.mono (by omega))⟩
 case step =>
  rintro x ⟨r,o,i,j,u,v⟩ st' _ _ ⟨rfl,e,J,le⟩
  cases(show r=none from e)
  have le:l.size+x<=o.size:=le;refine kRH H N J λ r B=>?_
  cases r with
  | done c=>exact⟨rfl,Dn.mono B (by omega)⟩
  | yield c=>exact⟨rfl,Yd.mono B (by omega)⟩
 case post =>
  rintro⟨r,o,i,j,u,v⟩ st' ⟨rfl,C⟩
  cases r with
  | some r =>
   dsimp only;rcases C with⟨G,e,p⟩ | ⟨e,_⟩
   ·cases e
    exact di (O _ _ _ (Sm.refl _) p)
   ·cases e
  | none =>
   dsimp only
   have y:Yd lb a b (l.size+1) (none,o,i,j,(u,v)):=by
    rcases C with⟨G,e,p⟩ | y
    ·cases e
    ·exact y
   refine cj (wO ?_);refine cj (uq (jq (I:=λ x f m=>Sm st' m/\Yd lb a b (l.size+1) f) (Q:=λ f m=>Sm st' m/\Dn lb a b (l.size+1) f) ?step2 ?fin2 ⟨Sm.refl _,y⟩) ?post2)
   case fin2 =>
    rintro f m ⟨q,y⟩;exact⟨q,.inr y⟩
   case step2 =>
    rintro x ⟨r,o,i,j,T,u,v⟩ m _ _ ⟨q,e,J,le⟩
    cases(show r=none from e)
    have le:l.size+1<=o.size:=le;dsimp only
    split
    all_goals
     refine kRG (n:=l.size+1) H (q.1.trans N) J (by omega) λ r B=>?_
     cases r with
     | done c=>exact⟨q.gal _,B⟩
     | yield c=>exact⟨q.gal _,B⟩
   case post2 =>
    rintro⟨r,o,i,j,T,u,v⟩ m ⟨q,C⟩
    cases r with
    | some r =>
     dsimp only;rcases C with⟨G,e,p⟩ | ⟨e,_⟩
     ·cases e
      exact di (O _ _ _ q p)
     ·cases e
    | none =>
     dsimp only;rcases C with⟨G,e,p⟩ | y
     ·cases e
     ·rw[setMinGallop'_eq]
      exact cj (om (di (X _ _ (q.gal _) y)))
def kAF(H:Hy M A E s lb D kd a b){st:eP}(G:kindOf st=kd)(C:0<a.size)(v:0<b.size)(first:le lb b[0] a[0]){Q:Array bq->eP->Prop}
  (q:∀ r st',Sm st st'->Res lb a.toList b.toList r.toList->Q r st'):wpS M A E s (mP a b) Q st:=by
 rw[mergeLo'_parts];refine cj (wO ?_);refine cj (qI (getElem?_pos b 0 v) ?_);have J:Mg lb a.toList b.toList (#[]:Array bq).toList (a.toList.drop 0) (b.toList.drop 0):=⟨H.sa,H.sb,AD _⟩;have n:Mg lb a.toList b.toList (#[b[0]]:Array bq).toList (a.toList.drop 0) (b.toList.drop 1):=kDJ H C v J first;by_cases p:1=b.size
 ·rw[if_pos (by simpa using p)]
  exact di (q _ _ (Sm.refl _) (kHC n p))
 rw[if_neg (by simpa using p)];by_cases l:0+1=a.size
 ·rw[if_pos (by simpa using l)]
  exact di (q _ _ (Sm.refl _) (cL H n l))
 rw[if_neg (by simpa using l)];refine cj (zk ?_);refine cj (uq (jq (I:=λ x c st'=>Sm st st'/\Yd lb a b (1+x) c) (Q:=λ c st'=>Sm st st'/\∃ r,c.1=some r/\Res lb a.toList b.toList r.toList) ?step ?fin ⟨Sm.refl _,rfl,⟨n,by show 0+1<a.size;omega,by show 1<b.size;omega,rfl⟩,be _⟩) ?post)
 case post =>
  rintro⟨r,c⟩ st' ⟨f,N,e,h⟩;cases e
  exact di (q _ _ f h)
 case fin =>
  rintro⟨r,o,i,j,g⟩ st' ⟨f,e,⟨_,h1,B,u⟩,le⟩;have u:o.size=i+j:=u;have le:1+max 0 (a.size+b.size)<=o.size:=le;have h1:i+1<a.size:=h1;have B:j<b.size:=B;omega
 case step =>
  rintro x ⟨r,o,i,j,g⟩ st' _ _ ⟨f,e,L,le⟩
  cases(show r=none from e)
  have le:1+x<=o.size:=le;exact kRI H (f.1.trans G) L (λ r c m d h=>⟨⟨d.1.trans f.1,d.2.1.trans f.2.1,d.2.2.1.trans f.2.2.1,d.2.2.2.trans f.2.2.2⟩,r,rfl,h⟩) λ c m d y=>⟨⟨d.1.trans f.1,d.2.1.trans f.2.1,d.2.2.1.trans f.2.2.1,d.2.2.2.trans f.2.2.2⟩,y.mono (by omega)⟩
end
end Srt
local macro_rules | `(tactic| walk_at "sort_open mergeHi")=>`(tactic| delta $(Lean.mkIdent (Lean.mkPrivateNameCore `PySem.Builtin.List.W1All `PySem.Builtin.mergeHi)):ident)
namespace Srt
set_option autoImplicit false
open PySem PyProof.Rows
def mQ:Array bq->Array bq->StateT eP Sem (Array bq):=sortPriv% PySem.Builtin.mergeHi
abbrev KS:=Option (Array bq)×Nat×Nat×Array bq×Nat×Nat×Nat
abbrev KS1:=Option (Array bq)×Nat×Nat×Array bq×Nat×Nat
abbrev KS0:=Option (Array bq)×Nat×Nat×Array bq×Nat
section
variable (a b:Array bq)
def hDn(f d:Nat)(c:Array bq):Array bq:=a.extract 0 f++b.extract 0 d++c.reverse
def hFb(f d:Nat)(c:Array bq):Array bq:=b.extract 0 d++a.extract 0 f++c.reverse
def hC(d h:Nat)(c:Array bq)(g k f:Nat):StateT eP Sem (ForInStep KS):=do
 let x <-elem' a (d-1)
 if(d-1 == 0)=true then pure (.done (some (hDn a b (d-1) h (c.push x)),d-1,h,c.push x,g,k,f))
 else if(decide (k<7) && decide (f<7))=true then pure (.done (none,d-1,h,c.push x,g,k,f)) else pure (.yield (none,d-1,h,c.push x,g,k,f))
def hB(f d:Nat)(c:Array bq)(g k ob:Nat):StateT eP Sem (ForInStep KS):=do
 let y <-elem' b (d-1)
 if(d-1 == 1)=true then pure (.done (some (hFb a b f (d-1) (c.push y)),f,d-1,c.push y,g,k,ob))
 else do
  let x <-elem' a (f-1)
  let r <-vN true x b 0 (d-1) (d-1-1)
  match r with
  | some p =>
   if d-1-p>0 then
    if(p == 1)=true then pure (.done (some (hFb a b f p (c.push y++(b.extract p (d-1)).reverse)),f,p,c.push y++(b.extract p (d-1)).reverse,g,k,d-1-p))
    else if(p == 0)=true then pure (.done (some (hDn a b f p (c.push y++(b.extract p (d-1)).reverse)),f,p,c.push y++(b.extract p (d-1)).reverse,g,k,d-1-p))
    else hC a b f p (c.push y++(b.extract p (d-1)).reverse) g k (d-1-p)
   else hC a b f (d-1) (c.push y) g k (d-1-p)
  | x=>pure (.done (some (hDn a b f (d-1) (c.push y)),f,d-1,c.push y,g,k,ob))
def hA(d f:Nat)(c:Array bq)(g h ob:Nat):StateT eP Sem (ForInStep KS):=do
 xU g
 let y <-elem' b (f-1)
 let r <-vN false y a 0 d (d-1)
 match r with
 | some p =>
  if d-p>0 then
   if(p == 0)=true then pure (.done (some (hDn a b p f (c++(a.extract p d).reverse)),p,f,c++(a.extract p d).reverse,g,d-p,ob))
   else hB a b p f (c++(a.extract p d).reverse) g (d-p) ob
  else hB a b d f c g (d-p) ob
 | x=>pure (.done (some (hDn a b d f c),d,f,c,g,h,ob))
def h1(mg:Nat)(c:KS1):StateT eP Sem (ForInStep KS1):=do
 let y <-elem' b (c.2.2.1-1)
 let x <-elem' a (c.2.1-1)
 let r <-lt' y x
 match r with
 | some aw =>
  if aw=true then do
   let x <-elem' a (c.2.1-1)
   if(c.2.1-1 == 0)=true then pure (.done (some (hDn a b (c.2.1-1) c.2.2.1 (c.2.2.2.1.push x)),c.2.1-1,c.2.2.1,c.2.2.2.1.push x,c.2.2.2.2.1+1,0))
   else if c.2.2.2.2.1+1 >= mg then pure (.done (none,c.2.1-1,c.2.2.1,c.2.2.2.1.push x,c.2.2.2.2.1+1,0))
   else pure (.yield (none,c.2.1-1,c.2.2.1,c.2.2.2.1.push x,c.2.2.2.2.1+1,0))
  else do
   let y <-elem' b (c.2.2.1-1)
   if(c.2.2.1-1 == 1)=true then pure (.done (some (hFb a b c.2.1 (c.2.2.1-1) (c.2.2.2.1.push y)),c.2.1,c.2.2.1-1,c.2.2.2.1.push y,0,c.2.2.2.2.2+1))
   else if c.2.2.2.2.2+1 >= mg then pure (.done (none,c.2.1,c.2.2.1-1,c.2.2.2.1.push y,0,c.2.2.2.2.2+1))
   else pure (.yield (none,c.2.1,c.2.2.1-1,c.2.2.2.1.push y,0,c.2.2.2.2.2+1))
 | x=>pure (.done (some (hDn a b c.2.1 c.2.2.1 c.2.2.2.1),c.2.1,c.2.2.1,c.2.2.2.1,c.2.2.2.2.1,c.2.2.2.2.2))
def h0(c:KS0):StateT eP Sem (ForInStep KS0):=do
 let d <-forIn [:a.size+b.size] ((none,c.2.1,c.2.2.1,c.2.2.2.1,0,0):KS1) λ x d=>h1 a b c.2.2.2.2 d
 match d.1 with
 | some r=>pure (.done (some r,d.2.1,d.2.2.1,d.2.2.2.1,c.2.2.2.2))
 | none=>do
  liftM (rule "list.sort.gallop")
  let f <-forIn [:a.size+b.size] ((none,d.2.1,d.2.2.1,d.2.2.2.1,c.2.2.2.2+1,d.2.2.2.2.1,d.2.2.2.2.2):KS) λ x f =>
   if f.2.2.2.2.1>1 then hA a b f.2.1 f.2.2.1 f.2.2.2.1 (f.2.2.2.2.1-1) f.2.2.2.2.2.1 f.2.2.2.2.2.2 else hA a b f.2.1 f.2.2.1 f.2.2.2.1 f.2.2.2.2.1 f.2.2.2.2.2.1 f.2.2.2.2.2.2
  match f.1 with
  | some r=>pure (.done (some r,f.2.1,f.2.2.1,f.2.2.2.1,f.2.2.2.2.1))
  | none=>do
   xU (f.2.2.2.2.1+1)
   pure (.yield (none,f.2.1,f.2.2.1,f.2.2.2.1,f.2.2.2.2.1+1))
def mergeHi'_parts:mQ a b=(do
  liftM (rule "list.sort.merge-hi")
  let y <-elem' a (a.size-1)
  if(a.size-1 == 0)=true then pure (hDn a b (a.size-1) b.size #[y])
  else if(b.size == 1)=true then pure (hFb a b (a.size-1) b.size #[y])
  else do
   let st <-get
   let c <-forIn [:a.size+b.size] ((none,a.size-1,b.size,#[y],gallopOf st):KS0) λ x c=>h0 a b c
   match c.1 with
   | some r=>pure r
   | none=>unsupported "internal:list.sort.merge-bound"):=by
 unfold mQ
 walk_at "sort_open mergeHi"
 dsimp only;refine congrArg _ (funext λ _=>?_);refine congrArg _ (funext λ y=>?_);refine ite_congr rfl (λ _=>rfl) (λ _=>ite_congr rfl (λ _=>rfl) (λ _=>?_));refine congrArg _ (funext λ st=>?_);refine congr (congrArg _ (congrArg _ (funext λ x=>funext λ c=>?_))) (funext λ c=>by cases c.1<;>rfl);unfold h0;refine congr (congrArg _ (congrArg _ (funext λ x=>funext λ d=>?_))) (funext λ d=>?_)
 ·unfold h1
  refine congrArg _ (funext λ _=>?_);refine congrArg _ (funext λ _=>?_);refine congrArg _ (funext λ r=>?_);cases r<;>rfl
 ·cases d.1 with
  | some r=>rfl
  | none =>
   dsimp only;refine congrArg _ (funext λ _=>?_);refine congr (congrArg _ (congrArg _ (funext λ x=>funext λ f=>?_))) (funext λ f=>by cases f.1<;>rfl);refine ite_congr rfl (λ _=>?_) (λ _=>?_)
   all_goals
    unfold hA;refine congrArg _ (funext λ _=>?_);refine congrArg _ (funext λ y=>?_);refine congrArg _ (funext λ r=>?_)
    cases r with
    | none=>rfl
    | some k =>
     dsimp only;refine ite_congr rfl (λ _=>ite_congr rfl (λ _=>rfl) (λ _=>?_)) (λ _=>?_)
     all_goals
      unfold hB;refine congrArg _ (funext λ y=>?_);refine ite_congr rfl (λ _=>rfl) (λ _=>?_);refine congrArg _ (funext λ x=>?_);refine congrArg _ (funext λ r=>?_);cases r<;>rfl
end
section
variable {α:Type} {lb:α->α->Bool}
structure Mh(lb:α->α->Bool)(A B:List α)(w ra rb:List α):Prop where
 sa:jO lb (ra++w)
 sb:jO lb (rb++w)
 pm:(ra++(rb++w)).Perm (A++B)
def Mh.moveA{A B w c b f:List α}(h:Mh lb A B w (b++c) f)(i:∀ x∈f,∀ y∈c,le lb x y):Mh lb A B (c++w) b f:=by
 refine⟨by rw[<-dh];exact h.sa,?_,?_⟩
 ·have h1:=eE.mp h.sa
  have g:=eE.mp h.sb;have j:=eE.mp h1.1;refine eE.mpr ⟨g.1,eE.mpr ⟨j.2.1,h1.2.1,λ x a y d=>h1.2.2 x (dj _ a) y d⟩,λ x a y d=>?_⟩;rcases ck.mp d with z | z
  ·exact i x a y z
  ·exact g.2.2 x a y z
 ·refine uj ?_ h.pm
  rw[dh];refine xh b ?_;rw[<-dh,<-dh];exact wy w kh
def Mh.swap{A B w b a:List α}(h:Mh lb A B w b a):Mh lb B A w a b:=by
 refine⟨h.sb,h.sa,?_⟩;refine uj ?_ (h.pm.trans kh);rw[<-dh,<-dh];exact wy w kh
def Mh.moveB{A B w c a b:List α}(h:Mh lb A B w a (b++c))(d:∀ x∈a,∀ y∈c,le lb x y):Mh lb A B (c++w) a b:=(h.swap.moveA d).swap
def gP{a:Array α}{n:Nat}(h0:0<n)(h:n<=a.size):a.toList.take n=a.toList.take (n-1)++[a[n-1]'(by omega)]:=by
 obtain⟨m,rfl⟩ : ∃ m,n=m+1:=⟨n-1,by omega⟩;rw[List.take_succ_eq_append_getElem (by simp;omega)];simp
def cK(a:Array α)(n:Nat):(a.extract 0 n).toList=a.toList.take n:=by
 rw[uu,qc];simp
def kDG(a:Array α){p n:Nat}(h:p<=n):a.toList.take n=a.toList.take p++(a.extract p n).toList:=by
 rw[uu,qc,<-Es]
 conv=>lhs;rw[<-fk p (a.toList.take n)]
 rw[BR,kq h]
end
section
variable {M:yu} {A:gh} {E:ar->ay->Prop} {s:ay} {lb:bq->bq->Bool} {D:bq->Prop} {kd:nj} {a b:Array bq}
structure Hz(M:yu)(A:gh)(E:ar->ay->Prop)(s:ay)(lb:bq->bq->Bool)(D:bq->Prop)(kd:nj)(a b:Array bq):Prop where
 W:Wk lb
 L:vZ M A E s lb D kd
 da:∀ x∈a.toList,D x
 db:∀ x∈b.toList,D x
 sa:jO lb a.toList
 sb:jO lb b.toList
 first:∀(h:0<b.size),∀ y∈a.toList,le lb b[0] y
abbrev MM(lb:bq->bq->Bool)(a b:Array bq)(f d:Nat)(c:Array bq):Prop:=Mh lb a.toList b.toList c.toList.reverse (a.toList.take f) (b.toList.take d)
def MH(lb:bq->bq->Bool)(a b:Array bq)(f d:Nat)(c:Array bq):Prop:=MM lb a b f d c/\0<f/\f<=a.size/\1<d/\d<=b.size/\c.size+f+d=a.size+b.size
def Zd(lb:bq->bq->Bool)(a b:Array bq)(n:Nat){d:Type}(c:Option (Array bq)×Nat×Nat×Array bq×d):Prop:=c.1=none/\MH lb a b c.2.1 c.2.2.1 c.2.2.2.1/\n<=c.2.2.2.1.size
def En(lb:bq->bq->Bool)(a b:Array bq)(n:Nat){d:Type}(c:Option (Array bq)×Nat×Nat×Array bq×d):Prop:=(∃ r,c.1=some r/\Res lb a.toList b.toList r.toList)\/Zd lb a b n c
def TT(lb:bq->bq->Bool)(a b:Array bq)(n:Nat){d:Type}:ForInStep (Option (Array bq)×Nat×Nat×Array bq×d)->Prop
 | .done c=>En lb a b n c
 | .yield c=>Zd lb a b n c
def Zd.mono{n d:Nat}{f:Type}{c:Option (Array bq)×Nat×Nat×Array bq×f}(h:Zd lb a b n c)(k:d<=n):Zd lb a b d c:=⟨h.1,h.2.1,je k h.2.2⟩
theorem En.mono{n d:Nat}{f:Type}{c:Option (Array bq)×Nat×Nat×Array bq×f}(h:En lb a b n c)(k:d<=n):En lb a b d c:=h.imp id λ z=>z.mono k
def bV{a:Array bq}{n:Nat}{x:bq}(h:x∈a.toList.take n):∃ j,∃ hj:j<a.size,j<n/\x=a[j]:=by
 have:=wE (a:=a) (i:=0) (k:=n) (x:=x) (by simpa using h);obtain⟨j,hj,b,e⟩:=this;exact⟨j,by omega,b,by simpa using e⟩
def jM{a:Array bq}{p n:Nat}{x:bq}(h:x∈(a.extract p n).toList):∃ j,∃ hj:j<a.size,p<=j/\j<n/\x=a[j]:=by
 rw[uu,qc]at h;obtain⟨j,hj,b,e⟩:=wE h;exact⟨p+j,hj,by omega,by omega,e⟩
def kCF(f d:Nat)(c:Array bq):(hDn a b f d c).toList=a.toList.take f++(b.toList.take d++c.toList.reverse):=by
 unfold hDn;rw[iE,iE,cK,cK,ye,dh]
def kNM(f d:Nat)(c:Array bq):(hFb a b f d c).toList=b.toList.take d++(a.toList.take f++c.toList.reverse):=by
 unfold hFb;rw[iE,iE,cK,cK,ye,dh]
def tU{d f:Nat}{c:Array bq}(m:MM lb a b d f c)(e:d=0):Res lb a.toList b.toList (hDn a b d f c).toList:=by
 subst e;rw[kCF];exact⟨by simpa using m.sb,m.pm⟩
def kTH{f d:Nat}{c:Array bq}(m:MM lb a b f d c)(e:d=0):Res lb a.toList b.toList (hDn a b f d c).toList:=by
 subst e;rw[kCF];exact⟨by simpa using m.sa,m.pm⟩
def tT(H:Hz M A E s lb D kd a b){i f:Nat}{c:Array bq}(m:MM lb a b i f c)(e:f=1)(h:0<b.size):Res lb a.toList b.toList (hFb a b i f c).toList:=by
 subst e;rw[kNM];have t:b.toList.take 1=[b[0]]:=by rw[gP (by decide) h];simp
 have d:=m.sb;rw[t]at d ⊢;refine⟨?_,?_⟩
 ·refine eE.mpr ⟨oh _ _,m.sa,λ x j y l=>?_⟩
  have:x=b[0]:=by simpa using j
  subst this;rcases ck.mp l with z | z
  ·exact H.first h y (yf z)
  ·exact(eE.mp d).2.2 _ (by simp) y z
 ·have g:=m.pm
  rw[t]at g;refine uj ?_ g;rw[<-dh,<-dh];exact wy _ kh
def kLD(H:Hz M A E s lb D kd a b){f g:Nat}{d:Array bq}(m:MM lb a b f g d)(l:0<f)(h:f<=a.size)(c:∀ x∈b.toList.take g,le lb x (a[f-1]'(by omega))):MM lb a b (f-1) g (d.push (a[f-1]'(by omega))):=by
 have m:Mh lb a.toList b.toList d.toList.reverse (a.toList.take f) (b.toList.take g):=m;rw[gP l h]at m;show Mh lb _ _ (d.push _).toList.reverse _ _;rw[uw,yg];refine m.moveA λ x i y j=>?_;have:y=a[f-1]'(by omega):=by simpa using j
 rw[this];exact c x i
def kQR(H:Hz M A E s lb D kd a b){g f:Nat}{d:Array bq}(m:MM lb a b g f d)(l:0<f)(h:f<=b.size)(c:∀ x∈a.toList.take g,le lb x (b[f-1]'(by omega))):MM lb a b g (f-1) (d.push (b[f-1]'(by omega))):=by
 have m:Mh lb a.toList b.toList d.toList.reverse (a.toList.take g) (b.toList.take f):=m;rw[gP l h]at m;show Mh lb _ _ (d.push _).toList.reverse _ _;rw[uw,yg];refine m.moveB λ x i y j=>?_;have:y=b[f-1]'(by omega):=by simpa using j
 rw[this];exact c x i
def kVF{f g p:Nat}{d:Array bq}(m:MM lb a b f g d)(hp:p<=f)(c:∀ x∈b.toList.take g,∀ y∈(a.extract p f).toList,le lb x y):MM lb a b p g (d++(a.extract p f).reverse):=by
 have m:Mh lb a.toList b.toList d.toList.reverse (a.toList.take f) (b.toList.take g):=m;rw[kDG a hp]at m;show Mh lb _ _ (d++_).toList.reverse _ _;rw[iE,ye,yg,Cv];exact m.moveA c
def kVE{g f p:Nat}{d:Array bq}(m:MM lb a b g f d)(hp:p<=f)(c:∀ x∈a.toList.take g,∀ y∈(b.extract p f).toList,le lb x y):MM lb a b g p (d++(b.extract p f).reverse):=by
 have m:Mh lb a.toList b.toList d.toList.reverse (a.toList.take g) (b.toList.take f):=m;rw[kDG b hp]at m;show Mh lb _ _ (d++_).toList.reverse _ _;rw[iE,ye,yg,Cv];exact m.moveB c
def kIF(W:Wk lb){a:Array bq}(d:jO lb a.toList){n:Nat}{y:bq}(i:0<n)(g:n<=a.size)(c:le lb (a[n-1]'(by omega)) y):∀ x∈a.toList.take n,le lb x y:=λ x b=>by
 obtain⟨j,f,h,rfl⟩:=bV b;exact W.trans (wL W d (show j<=n-1 by omega) (by omega)) c
def kRK(H:Hz M A E s lb D kd a b){st:eP}(o:kindOf st=kd){d:Array bq}{f g u v mg:Nat}(h:MH lb a b f g d){Q:ForInStep KS1->eP->Prop}
  (q:∀ r,TT lb a b (d.size+1) r->Q r st):wpS M A E s (h1 a b mg (none,f,g,d,u,v)) Q st:=by
 obtain⟨m,l,j,p,n,sz⟩:=h;unfold h1;dsimp only;refine cj (qI (getElem?_pos b (g-1) (by omega)) ?_);refine cj (qI (getElem?_pos a (f-1) (by omega)) ?_);refine cj (H.L _ _ (H.db _ (by simp)) (H.da _ (by simp)) st _ o ?_)
 cases e:lb (b[g-1]'(by omega)) (a[f-1]'(by omega))
 case true =>
  simp only[if_true];refine cj (qI (getElem?_pos a (f-1) (by omega)) ?_);have i:=kLD H m l j (kIF H.W H.sb (by omega) n (H.W.of_lt e));by_cases c:f-1=0
  ·rw[if_pos (by simpa using c)]
   exact di (q _ (.inl ⟨_,rfl,tU i c⟩))
  ·rw[if_neg (by simpa using c)]
   have z:Zd lb a b (d.size+1) (none,f-1,g,d.push (a[f-1]'(by omega)),(u+1,0)):=⟨rfl,⟨i,by show 0<f-1;omega,by show f-1<=a.size;omega,p,n,by show(d.push _).size+(f-1)+g=_;rw[iu];omega⟩,by show d.size+1<=(d.push _).size;rw[iu];omega⟩
   split
   ·exact di (q _ (.inr z))
   ·exact di (q _ z)
 case false =>
  simp only[eN,if_false];refine cj (qI (getElem?_pos b (g-1) (by omega)) ?_);have i:=kQR H m (by omega) n (kIF H.W H.sa l j e);by_cases c:g-1=1
  ·rw[if_pos (by simpa using c)]
   exact di (q _ (.inl ⟨_,rfl,tT H i c (by omega)⟩))
  ·rw[if_neg (by simpa using c)]
   have z:Zd lb a b (d.size+1) (none,f,g-1,d.push (b[g-1]'(by omega)),(0,v+1)):=⟨rfl,⟨i,l,j,by show 1<g-1;omega,by show g-1<=b.size;omega,by show(d.push _).size+f+(g-1)=_;rw[iu];omega⟩,by show d.size+1<=(d.push _).size;rw[iu];omega⟩
   split
   ·exact di (q _ (.inr z))
   ·exact di (q _ z)
def kKJ(H:Hz M A E s lb D kd a b){st:eP}{d:Array bq}{f h g k i n:Nat}(m:MM lb a b f h d)(o:0<f)(l:f<=a.size)(p:1<h)(u:h<=b.size)(sz:d.size+f+h=a.size+b.size)(v:n<=d.size+1)
  (c:∀ x∈b.toList.take h,le lb x (a[f-1]'(by omega))) {Q:ForInStep KS->eP->Prop} (q:∀ r,TT lb a b n r->Q r st):wpS M A E s (hC a b f h d g k i) Q st:=by
 unfold hC;refine cj (qI (getElem?_pos a (f-1) (by omega)) ?_);have j:=kLD H m o l c;by_cases e:f-1=0
 ·rw[if_pos (by simpa using e)]
  exact di (q _ (.inl ⟨_,rfl,tU j e⟩))
 ·rw[if_neg (by simpa using e)]
  have z:Zd lb a b n (none,f-1,h,d.push (a[f-1]'(by omega)),(g,k,i)):=⟨rfl,⟨j,by show 0<f-1;omega,by show f-1<=a.size;omega,p,u,by show(d.push _).size+(f-1)+h=_;rw[iu];omega⟩,by show n<=(d.push _).size;rw[iu];omega⟩
  split
  ·exact di (q _ (.inr z))
  ·exact di (q _ z)
def kKK(H:Hz M A E s lb D kd a b){st:eP}(Y:kindOf st=kd){d:Array bq}{l f g k ob n:Nat}(h:MH lb a b l f d)(hn:n<=d.size+1)
  (c:∀(ha:l-1<a.size)(hb:f-1<b.size),le lb a[l-1] b[f-1]) {Q:ForInStep KS->eP->Prop} (q:∀ r,TT lb a b n r->Q r st):wpS M A E s (hB a b l f d g k ob) Q st:=by
 obtain⟨m,o,u,b1,b2,sz⟩:=h;unfold hB;refine cj (qI (getElem?_pos b (f-1) (by omega)) ?_);have J:=kQR H m (by omega) b2 (kIF H.W H.sa o u (c (by omega) (by omega)));have C:(d.push (b[f-1]'(by omega))).size+l+(f-1)=a.size+b.size:=by rw[iu];omega
 have gr:d.size+1=(d.push (b[f-1]'(by omega))).size:=by rw[iu]
 by_cases e:f-1=1
 ·rw[if_pos (by simpa using e)]
  exact di (q _ (.inl ⟨_,rfl,tT H J e (by omega)⟩))
 ·rw[if_neg (by simpa using e)]
  refine cj (qI (getElem?_pos a (l-1) (by omega)) ?_);refine cj (uS H.W H.L Y (H.da _ (by simp)) H.db (by omega) (λ i j hi O=>wL H.W H.sb (by omega) (by omega)) (by omega) λ p kn T S=>?_);simp only[if_true,CQ]at T S
  have rest:∀ x∈b.toList.take p,le lb x (a[l-1]'(by omega)):=λ x N=>by
   obtain⟨j,O,jp,rfl⟩:=bV N;exact H.W.of_lt (T j jp (by omega))
  dsimp only;by_cases U:f-1-p>0
  ·rw[if_pos U]
   have v:=kVE (p:=p) J (by omega) λ x N y X=>by
    obtain⟨j,O,Z,jn,rfl⟩:=jM X;exact kIF H.W H.sa o u (S j Z jn) x N
   have I:(d.push (b[f-1]'(by omega))++(b.extract p (f-1)).reverse).size+l+p=a.size+b.size:=by
    rw[xt,DQ,ka];omega
   by_cases G:p=1
   ·rw[if_pos (by simpa using G)]
    exact di (q _ (.inl ⟨_,rfl,tT H v G (by omega)⟩))
   ·rw[if_neg (by simpa using G)]
    by_cases B:p=0
    ·rw[if_pos (by simpa using B)]
     exact di (q _ (.inl ⟨_,rfl,kTH v B⟩))
    ·rw[if_neg (by simpa using B)]
     exact kKJ H v o u (by omega) (by omega) I (by omega) rest q
  ·rw[if_neg U]
   have e3:p=f-1:=by omega
   rw[e3]at rest;exact kKJ H J o u (by omega) (by omega) C (by omega) rest q
def kRJ(H:Hz M A E s lb D kd a b){st:eP}(l:kindOf st=kd){c:Array bq}{d f g X ob n:Nat}(h:MH lb a b d f c)(O:n<=c.size+1){Q:ForInStep KS->eP->Prop}
  (q:∀ r,TT lb a b n r->Q r (wM st g)):wpS M A E s (hA a b d f c g X ob) Q st:=by
 obtain⟨m,a1,a2,T,G,sz⟩:=id h;unfold hA;rw[setMinGallop'_eq];refine cj (om ?_);refine cj (qI (getElem?_pos b (f-1) (by omega)) ?_);refine cj (uS (st:=wM st g) H.W H.L l (H.db _ (by simp)) H.da (by omega) (λ i j hi J=>wL H.W H.sa (by omega) (by omega)) (by omega) λ p Z v C=>?_);simp only[eN,if_false,CQ]at v C;dsimp only;by_cases I:d-p>0
 ·rw[if_pos I]
  have B:=kVF (p:=p) m (by omega) λ x Y y N=>by
   obtain⟨j,J,S,U,rfl⟩:=jM N;exact kIF H.W H.sb (by omega) G (H.W.of_lt (C j S U)) x Y
  have u:(c++(a.extract p d).reverse).size+p+f=a.size+b.size:=by
   rw[xt,DQ,ka];omega
  by_cases o:p=0
  ·rw[if_pos (by simpa using o)]
   exact di (q _ (.inl ⟨_,rfl,tU B o⟩))
  ·rw[if_neg (by simpa using o)]
   exact kKK (st:=wM st g) H l ⟨B,by omega,by omega,T,G,u⟩ (by omega) (λ _ _=>v (p-1) (by omega) (by omega)) q
 ·rw[if_neg I]
  have e3:p=d:=by omega
  exact kKK (st:=wM st g) H l h O (λ _ _=>v (d-1) (by omega) (by omega)) q
def kRL(H:Hz M A E s lb D kd a b){st:eP}(L:kindOf st=kd){l:Array bq}{S N g:Nat}(h:MH lb a b S N l){Q:ForInStep KS0->eP->Prop}
  (O:∀ r c st',Sm st st'->Res lb a.toList b.toList r.toList->Q (.done (some r,c)) st') (X:∀ c st',Sm st st'->Zd lb a b (l.size+1) c->Q (.yield c) st'):wpS M A E s (h0 a b (none,S,N,l,g)) Q st:=by
 unfold h0;dsimp only;have U:0<a.size+b.size:=by have:=h.2.2.1;have:=h.2.1;omega
 refine cj (uq (jq (I:=λ x d st'=>st'=st/\Zd lb a b (l.size+x) d) (Q:=λ d st'=>st'=st/\En lb a b (l.size+1) d) ?step ?fin ⟨rfl,rfl,h,be _⟩) ?post)
 case fin =>
  rintro d st' ⟨rfl,y⟩;exact⟨rfl,.inr (y.mono (by omega))⟩
 case step =>
  rintro x ⟨r,i,j,o,u,v⟩ st' _ _ ⟨rfl,e,J,le⟩
  cases(show r=none from e)
  have le:l.size+x<=o.size:=le;refine kRK H L J λ r B=>?_
  cases r with
  | done c=>exact⟨rfl,En.mono B (by omega)⟩
  | yield c=>exact⟨rfl,Zd.mono B (by omega)⟩
 case post =>
  rintro⟨r,i,j,o,u,v⟩ st' ⟨rfl,C⟩
  cases r with
  | some r =>
   dsimp only;rcases C with⟨G,e,p⟩ | ⟨e,_⟩
   ·cases e
    exact di (O _ _ _ (Sm.refl _) p)
   ·cases e
  | none =>
   dsimp only
   have y:Zd lb a b (l.size+1) (none,i,j,o,(u,v)):=by
    rcases C with⟨G,e,p⟩ | y
    ·cases e
    ·exact y
   refine cj (wO ?_);refine cj (uq (jq (I:=λ x f m=>Sm st' m/\Zd lb a b (l.size+1) f) (Q:=λ f m=>Sm st' m/\En lb a b (l.size+1) f) ?step2 ?fin2 ⟨Sm.refl _,y⟩) ?post2)
   case fin2 =>
    rintro f m ⟨q,y⟩;exact⟨q,.inr y⟩
   case step2 =>
    rintro x ⟨r,i,j,o,T,u,v⟩ m _ _ ⟨q,e,J,le⟩
    cases(show r=none from e)
    have le:l.size+1<=o.size:=le;dsimp only
    split
    all_goals
     refine kRJ (n:=l.size+1) H (q.1.trans L) J (by omega) λ r B=>?_
     cases r with
     | done c=>exact⟨q.gal _,B⟩
     | yield c=>exact⟨q.gal _,B⟩
   case post2 =>
    rintro⟨r,i,j,o,T,u,v⟩ m ⟨q,C⟩
    cases r with
    | some r =>
     dsimp only;rcases C with⟨G,e,p⟩ | ⟨e,_⟩
     ·cases e
      exact di (O _ _ _ q p)
     ·cases e
    | none =>
     dsimp only;rcases C with⟨G,e,p⟩ | y
     ·cases e
     ·rw[setMinGallop'_eq]
      exact cj (om (di (X _ _ (q.gal _) y)))
def kAG(H:Hz M A E s lb D kd a b){st:eP}(G:kindOf st=kd)(C:0<a.size)(v:0<b.size)(last:le lb (b[b.size-1]'(by omega)) (a[a.size-1]'(by omega))){Q:Array bq->eP->Prop}
  (q:∀ r st',Sm st st'->Res lb a.toList b.toList r.toList->Q r st'):wpS M A E s (mQ a b) Q st:=by
 rw[mergeHi'_parts];refine cj (wO ?_);refine cj (qI (getElem?_pos a (a.size-1) (by omega)) ?_);have J:a.toList.take a.size=a.toList:=ki (by simp);have B:b.toList.take b.size=b.toList:=ki (by simp)
 have L:MM lb a b a.size b.size #[]:=by
  show Mh lb _ _ (#[]:Array bq).toList.reverse _ _;rw[J,B];exact⟨by simpa using H.sa,by simpa using H.sb,by simp⟩
 have n:MM lb a b (a.size-1) b.size #[a[a.size-1]'(by omega)]:=kLD H L C (be _) (kIF H.W H.sb v (be _) last);by_cases p:a.size-1=0
 ·rw[if_pos (by simpa using p)]
  exact di (q _ _ (Sm.refl _) (tU n p))
 rw[if_neg (by simpa using p)];by_cases l:b.size=1
 ·rw[if_pos (by simpa using l)]
  exact di (q _ _ (Sm.refl _) (tT H n l v))
 rw[if_neg (by simpa using l)];refine cj (zk ?_);refine cj (uq (jq (I:=λ x c st'=>Sm st st'/\Zd lb a b (1+x) c) (Q:=λ c st'=>Sm st st'/\∃ r,c.1=some r/\Res lb a.toList b.toList r.toList) ?step ?fin ⟨Sm.refl _,rfl,⟨n,by show 0<a.size-1;omega,by show a.size-1<=a.size;omega,by show 1<b.size;omega,be _,by show 1+(a.size-1)+b.size=_;omega⟩,be _⟩) ?post)
 case post =>
  rintro⟨r,c⟩ st' ⟨f,S,e,h⟩;cases e
  exact di (q _ _ f h)
 case fin =>
  rintro⟨r,i,j,o,g⟩ st' ⟨f,e,⟨_,h1,U,O,T,u⟩,le⟩;have u:o.size+i+j=a.size+b.size:=u;have le:1+max 0 (a.size+b.size)<=o.size:=le;omega
 case step =>
  rintro x ⟨r,i,j,o,g⟩ st' _ _ ⟨f,e,N,le⟩
  cases(show r=none from e)
  have le:1+x<=o.size:=le;exact kRL H (f.1.trans G) N (λ r c m d h=>⟨⟨d.1.trans f.1,d.2.1.trans f.2.1,d.2.2.1.trans f.2.2.1,d.2.2.2.trans f.2.2.2⟩,r,rfl,h⟩) λ c m d y=>⟨⟨d.1.trans f.1,d.2.1.trans f.2.1,d.2.2.1.trans f.2.2.1,d.2.2.2.trans f.2.2.2⟩,y.mono (by omega)⟩
end
section
variable {α:Type} {lb:α->α->Bool}
def kIP(l:List α)(i:Nat)(x:α)(h:i<l.length):l.set i x=l.take i++x::l.drop (i+1):=by
 rw[List.set_eq_take_append_cons_drop,if_pos h]
theorem wr:∀(xs:List α)(k:Nat)(arr:Array α)(lo:Nat),lo+k+xs.length<=arr.size->((xs.zipIdx k).foldl (λ a (p:α×Nat)=>a.setIfInBounds (lo+p.2) p.1) arr).toList=arr.toList.take (lo+k)++(xs++arr.toList.drop (lo+k+xs.length))
 | [],k,arr,lo,h=>by simp
 | x::xs,k,arr,lo,h=>by
  rw[iC]at h;rw[ym,vh];have c:=wr xs (k+1) (arr.setIfInBounds (lo+k) x) lo (by rw[Bp];omega);rw[c,BS,kIP _ _ _ (by simp;omega)];have e:(arr.toList.take (lo+k)).length=lo+k:=by simp;omega
  have d:(arr.toList.take (lo+k)++x::arr.toList.drop (lo+k+1)).take (lo+(k+1))=arr.toList.take (lo+k)++[x]:=by
   rw[List.take_append,e,show lo+(k+1)-(lo+k)=1 by omega,ki (by rw[e];omega)]
   rfl
  have b:(arr.toList.take (lo+k)++x::arr.toList.drop (lo+k+1)).drop (lo+(k+1)+xs.length)=arr.toList.drop (lo+k+(x::xs).length):=by
   rw[AU,e,ml (by rw[e];omega),qi,show lo+(k+1)+xs.length-(lo+k)=xs.length+1 by omega,List.drop_succ_cons,AE,iC]
   congr 1
   omega
  rw[d,b];simp
def kJN(W:Wk lb){b c f a g:List α}(n:jO lb (b++c))(o:jO lb (f++a))(h1:∀ x∈b,∀ y∈f++a,le lb x y)(m:∀ x∈c,∀ y∈a,le lb x y)(r:Res lb c f g) :
  jO lb (b++(g++a))/\(b++(g++a)).Perm ((b++c)++(f++a)):=by
 have j:=eE.mp n;have i:=eE.mp o;have mem:∀ z∈g,z∈c\/z∈f:=λ z l=>ck.mp ((r.2.mem_iff).mp l);refine⟨eE.mpr ⟨j.1,eE.mpr ⟨r.1,i.2.1,λ x d y h=>?_⟩,λ x d y h=>?_⟩,?_⟩
 ·rcases mem x d with z | z
  ·exact m x z y h
  ·exact i.2.2 x z y h
 ·rcases ck.mp h with z | z
  ·rcases mem y z with w | w
   ·exact j.2.2 x d y w
   ·exact h1 x d y (dw _ w)
  ·exact h1 x d y (dj _ z)
 ·rw[dh]
  refine xh b ?_;rw[<-dh];exact r.2.append_right a
end
end Srt
local macro_rules | `(tactic| walk_at "sort_open mergeAt")=>`(tactic| delta $(Lean.mkIdent (Lean.mkPrivateNameCore `PySem.Builtin.List.W1All `PySem.Builtin.mergeAt)):ident)
namespace Srt
set_option autoImplicit false
open PySem PyProof.Rows
section
variable {M:yu} {A:gh} {E:ar->ay->Prop} {s:ay} {lb:bq->bq->Bool} {D:bq->Prop} {kd:nj} {arr:Array bq}
def kOM{st a:eP}{Q:PUnit->eP->Prop}(h:Q ⟨⟩ a):wpS M A E s (set a:StateT eP Sem PUnit) Q st:=by
 unfold wpS;rw[StateT.run_set];exact bp ⟨rfl,h⟩
def vB{i m j:Nat}(h1:i<=m)(a:m<=j):(arr.extract i j).toList=(arr.extract i m).toList++(arr.extract m j).toList:=by
 rw[<-iE,Array.extract_append_extract,kq h1,Nat.max_eq_right a]
def kDL(W:Wk lb){lo n:Nat}(h:jO lb (arr.extract lo (lo+n)).toList)(b:lo+n<=arr.size)(i j:Nat)(hi:i<=j)(a:j<n):le lb (arr[lo+i]'(by omega)) (arr[lo+j]'(by omega)):=by
 have:=wL W h hi (show j<(arr.extract lo (lo+n)).size by rw[ka];omega);simpa using this
def Joined(lb:bq->bq->Bool)(arr a:Array bq)(lo n:Nat):Prop:=∃ m:List bq,a.toList=arr.toList.take lo++(m++arr.toList.drop (lo+n))/\jO lb m/\m.Perm (arr.extract lo (lo+n)).toList
def vT{lo n:Nat}(h:lo+n<=arr.size):arr.toList=arr.toList.take lo++((arr.extract lo (lo+n)).toList++arr.toList.drop (lo+n)):=by
 rw[xN,<-AE,fk,fk]
def kAH(W:Wk lb)(hL:vZ M A E s lb D kd){st:eP}(J:kindOf st=kd)(hf:ur st=none)(dd:∀ x∈(df st).toList,D x){i b d f pa pb:Nat}(hi:(de st)[i]?=some (b,d,pa))(H:(de st)[i+1]?=some (b+d,f,pb))
  (a3:0<d) (a7:0<f) (hn:b+d+f<=(df st).size) (Y:jO lb ((df st).extract b (b+d)).toList) (sy:jO lb ((df st).extract (b+d) (b+d+f)).toList) {Q:Bool->eP->Prop}
  (q:∀ st',kindOf st'=kd->ur st'=none->de st'=((de st).setIfInBounds i (b,d+f,pa)).eraseIdxIfInBounds (i+1)->Joined lb (df st) (df st') b (d+f)->Q true st'):wpS M A E s (mergeAt' i) Q st:=by
 unfold mergeAt'
 walk_at "sort_open mergeAt"
 dsimp only;refine cj (zk ?_);rw[hi,H];dsimp only;refine cj (kOM ?_);generalize hP:((de st).setIfInBounds i (b,d+f,pa)).eraseIdxIfInBounds (i+1)=Z at *;have dx:∀{j:Nat}(h:j<(df st).size),D (df st)[j]:=λ h=>dd _ (by simp);have z1:b+d<(df st).size:=by omega
 have z2:b+d-1<(df st).size:=by omega
 have z3:b+d<=(df st).size:=by omega
 refine cj (qI (arr:=df st) (getElem?_pos (df st) (b+d) z1) ?_);refine cj (uS (arr:=df st) (st:=setPending st Z) W hL J (dx z1) dd z3 (kDL (arr:=df st) W Y z3) a3 λ k kn g1 g2=>?_);simp only[eN,if_false]at g1 g2;dsimp only;have O:=vB (arr:=df st) (i:=b) (m:=b+k) (j:=b+d) (by omega) (by omega);have L:=vB (arr:=df st) (i:=b) (m:=b+d) (j:=b+d+f) (by omega) (by omega);have iy:=kDL W sy (by omega);have ix:=kDL W Y (by omega);have same:∀{X:List bq},X=((df st).extract b (b+(d+f))).toList->jO lb X->Joined lb (df st) (df st) b (d+f):=λ{X} e h=>⟨X,by rw[e];exact vT (by omega),h,by rw[e]⟩
 have low:∀ x∈((df st).extract b (b+k)).toList,∀ y∈((df st).extract (b+d) (b+d+f)).toList,le lb x y:=λ x G y g=>by
  obtain⟨j,H,S,N,rfl⟩:=jM G;obtain⟨j',a8,a5,a6,rfl⟩:=jM g;have n:=g1 (j-b) (by omega) (by omega);have e2:=iy 0 (j'-(b+d)) (by omega) (by omega);simp only[show b+(j-b)=j by omega,show b+d+(j'-(b+d))=j' by omega,Dq]at n e2;exact W.trans n e2
 by_cases e:d-k=0
 ·rw[if_pos (by simpa using e)]
  have ek:b+k=b+d:=by omega
  rw[ek]at low;exact di (q _ J hf rfl (same (by rw[<-xc];exact L.symm) (eE.mpr ⟨Y,sy,low⟩)))
 rw[if_neg (by simpa using e)];have eL:b+k+(d-k)-1=b+d-1:=by omega
 rw[eL];refine cj (qI (arr:=df st) (getElem?_pos (df st) (b+d-1) z2) ?_);refine cj (uS (arr:=df st) (st:=setPending st Z) W hL J (dx z2) dd hn iy (by omega) λ p pn f1 f2=>?_);simp only[if_true]at f1 f2;dsimp only
 have l:∀ x∈((df st).extract b (b+d)).toList,le lb x ((df st)[b+d-1]'(by omega)):=λ x G=>by
  obtain⟨j,H,S,N,rfl⟩:=jM G;have n:=ix (j-b) (d-1) (by omega) (by omega);simp only[show b+(j-b)=j by omega,show b+(d-1)=b+d-1 by omega]at n;exact n
 have high:∀ y∈((df st).extract (b+d+p) (b+d+f)).toList,le lb ((df st)[b+d-1]'(by omega)) y:=λ y g=>by
  obtain⟨j,H,S,N,rfl⟩:=jM g;have n:=f2 (j-(b+d)) (by omega) (by omega);simp only[show b+d+(j-(b+d))=j by omega]at n;exact n
 by_cases e0:p=0
 ·rw[if_pos (by simpa using e0)]
  rw[e0,Dq]at high;exact di (q _ J hf rfl (same (by rw[<-xc];exact L.symm) (eE.mpr ⟨Y,sy,λ x G y g=>W.trans (l x G) (high y g)⟩)))
 rw[if_neg (by simpa using e0)];have I:=vB (arr:=df st) (i:=b+d) (m:=b+d+p) (j:=b+d+f) (by omega) (by omega);have B:=Y;rw[O]at B;have C:=sy;rw[I]at C
 have mx:∀{u v:Nat},∀ x∈((df st).extract u v).toList,D x:=λ x G=>by
  obtain⟨j,H,_,_,rfl⟩:=jM G;exact dx H
 have a4:((df st).extract (b+k) (b+d)).size=d-k:=by rw[ka];omega
 have a2:((df st).extract (b+d) (b+d+p)).size=p:=by rw[ka];omega
 have x0:∀(h:0<((df st).extract (b+k) (b+d)).size),((df st).extract (b+k) (b+d))[0]=(df st)[b+k]'(by omega):=λ h=>by simp
 have xl:∀(h:0<((df st).extract (b+k) (b+d)).size),((df st).extract (b+k) (b+d))[((df st).extract (b+k) (b+d)).size-1]'(by omega)=(df st)[b+d-1]'(by omega):=λ h=>by
  rw[Array.getElem_extract]
  congr 1
  omega
 have y0:∀(h:0<((df st).extract (b+d) (b+d+p)).size),((df st).extract (b+d) (b+d+p))[0]=(df st)[b+d]'(by omega):=λ h=>by simp
 have below:∀ y∈((df st).extract (b+d) (b+d+p)).toList,le lb y ((df st)[b+d-1]'(by omega)):=λ y g=>by
  obtain⟨j,H,S,N,rfl⟩:=jM g;have n:=f1 (j-(b+d)) (by omega) (by omega);simp only[show b+d+(j-(b+d))=j by omega]at n;exact W.of_lt n
 have o:∀ y∈((df st).extract (b+k) (b+d)).toList,le lb ((df st)[b+d]'(by omega)) y:=λ y g=>by
  obtain⟨j,H,S,N,rfl⟩:=jM g;have n:=g2 (j-b) (by omega) (by omega);simp only[show b+(j-b)=j by omega]at n;exact W.of_lt n
 have T:∀(r:Array bq)(st':eP),Sm (setPending st Z) st'->Res lb ((df st).extract (b+k) (b+d)).toList ((df st).extract (b+d) (b+d+p)).toList r.toList ->
   wpS M A E s (do modify λ s=>setArr s (r.toList.zipIdx.foldl (λ a (p,j)=>a.setIfInBounds (b+k+j) p) (df s));let __do_lift <-get;pure (ur __do_lift).isNone) Q st':=λ r st' sm U=>by
  refine cj (om (cj (zk ?_)));have ef:ur st'=none:=sm.2.2.2.trans hf;have ea:df st'=df st:=sm.2.1;refine di ?_;show Q (ur st').isNone _;rw[ef];refine q _ (sm.1.trans J) ef sm.2.2.1 ?_;show Joined lb (df st) (r.toList.zipIdx.foldl (λ a (p:bq×Nat)=>a.setIfInBounds (b+k+p.2) p.1) (df st')) b (d+f);rw[ea];obtain⟨S,N⟩:=kJN W B C (by rw[<-I];exact low) (λ x G y g=>W.trans (l x (by rw[O];exact dj _ G)) (high y g)) U;rw[<-O,<-I,<-L]at N;refine⟨_,?_,S,by rw[<-xc];exact N⟩
  have len:r.toList.length=d-k+p:=by
   have:=U.2.length_eq;rw[bj]at this;simp only[iD,a4,a2]at this;simpa using this
  rw[wr r.toList 0 (df st) (b+k) (by rw[len];omega),len];have t1:(df st).toList.take (b+k+0)=(df st).toList.take b++((df st).extract b (b+k)).toList:=kDG (df st) (by omega)
  have t2:(df st).toList.drop (b+k+0+(d-k+p))=((df st).extract (b+d+p) (b+d+f)).toList++(df st).toList.drop (b+(d+f)):=by
   rw[show b+k+0+(d-k+p)=b+d+p by omega,show b+d+f=b+d+p+(f-p) by omega,xN,show b+(d+f)=b+d+p+(f-p) by omega];exact kEQ _ _ _
  rw[t1,t2];simp only[dh]
 have a1:(df st)[b+k]'(by omega)∈((df st).extract (b+k) (b+d)).toList:=by
  rw[<-x0 (by omega),uk];exact Bk _
 have a0:((df st).extract (b+d) (b+d+p))[((df st).extract (b+d) (b+d+p)).size-1]'(by omega)∈((df st).extract (b+d) (b+d+p)).toList:=by
  rw[uk];exact Bk _
 by_cases c:d-k<=p
 ·rw[if_pos c]
  refine cj ?_;exact kAF (st:=setPending st Z) ⟨W,hL,mx,mx,(eE.mp B).2.1,(eE.mp C).1,λ h y g=>by rw[xl h];exact below y g⟩ J (by omega) (by omega) (by rw[x0 (by omega),y0 (by omega)];exact o _ a1) T
 ·rw[if_neg c]
  refine cj ?_;exact kAG (st:=setPending st Z) ⟨W,hL,mx,mx,(eE.mp B).2.1,(eE.mp C).1,λ h y g=>by rw[y0 h];exact o y g⟩ J (by omega) (by omega) (by rw[xl (by omega)];exact below _ a0) T
end
def sM{α:Type}{R:α->α->Prop}:∀{l:List α},l.length<=1->l.Pairwise R
 | [],_=>Bj
 | [_],_=>oh _ _
set_option autoImplicit false
open PySem PyProof.Rows
section
variable {α:Type}
def kLC(arr:Array α){Q R:List α}{y x:α}(h:arr.toList=Q++y::x::R):(arr.swapIfInBounds (Q.length+1) Q.length).toList=Q++x::y::R:=by
 have sz:arr.size=Q.length+(R.length+2):=by
  have:=congrArg ip h;simpa using this
 have g:∀ k,arr[k]?=(Q++y::x::R)[k]?:=λ k=>by rw[<-h,mo]
 refine Dr λ k=>?_;have e:=getElem?_swapIB (xs:=arr) (i:=Q.length+1) (j:=Q.length) (by omega) (by omega) k;rw[show(arr.swapIfInBounds (Q.length+1) Q.length).toList[k]?=(arr.swapIfInBounds (Q.length+1) Q.length)[k]? by simp,e,g,g,g];rcases iV k Q.length with c | c
 ·rw[if_neg (by omega),if_neg (by omega),bf c,bf c]
 ·obtain⟨j,rfl⟩ : ∃ j,k=Q.length+j:=⟨k-Q.length,by omega⟩
  rw[bz (by omega),bz (by omega),bz (by omega),bz (by omega)];rw[show Q.length+j-Q.length=j by omega,show Q.length+1-Q.length=1 by omega,Ds]
  match j with
  | 0=>simp
  | 1=>simp
  | j+2 =>
   rw[if_neg (by omega),if_neg (by omega)];simp
theorem fR:∀(b a T:List α)(x:α)(arr:Array α),arr.toList=a++(b++x::T)->(bubble arr (a.length+b.length) b.length).toList=a++(x::(b++T))
 | [],a,T,x,arr,h=>h
 | y::b,a,T,x,arr,h=>by
  have c:=fR b (a++[y]) T x arr (by rw[h];simp);rw[iC,bubble_succ];rw[bj,fj,show a.length+1+b.length=a.length+(b.length+1) by omega]at c;have e:=kLC (bubble arr (a.length+(b.length+1)) b.length) (Q:=a) (y:=y) (x:=x) (R:=b++T) (by rw[c];simp);rw[show a.length+(b.length+1)-b.length=a.length+1 by omega,show a.length+1-1=a.length by omega];rw[e];simp
end
section
variable {M:yu} {A:gh} {E:ar->ay->Prop} {s:ay} {lb:bq->bq->Bool} {D:bq->Prop} {kd:nj}
def bF(c:vZ M A E s lb D kd){st:eP}(f:kindOf st=kd){i j:Nat}{x y:bq}(b:(df st)[i]?=some x)(d:(df st)[j]?=some y)(g:D x)(a:D y){Q:Option Bool->eP->Prop}(q:Q (some (lb x y)) st):wpS M A E s (ltAt' i j) Q st:=by
 rw[ltAt'_eq];refine cj (zk ?_);exact cj (qI b (cj (qI d (c _ _ g a st _ f q))))
def Sa(st a:eP):Prop:=kindOf a=kindOf st/\de a=de st/\ur a=ur st
def kPZ(W:Wk lb){b c:List bq}{x:bq}(h:jO lb (b++c))(h1:∀ y∈b,le lb y x)(f:∀ y∈c,le lb x y):jO lb (b++x::c):=by
 have a:=eE.mp h;refine eE.mpr ⟨a.1,BU.mpr ⟨f,a.2.1⟩,λ y d z g=>?_⟩;rcases eK.mp g with rfl | w
 ·exact h1 y d
 ·exact a.2.2 y d z w
def kDB(W:Wk lb)(Z:vZ M A E s lb D kd){st:eP}(S:kindOf st=kd)(N:∀ x∈(df st).toList,D x){lo n ok:Nat}(U:ok<=n)(hn:lo+n<=(df st).size)(hs:jO lb ((df st).extract lo (lo+ok)).toList){Q:Bool->eP->Prop}
  (q:∀ st',Sa st st'->Joined lb (df st) (df st') lo n->Q true st'):wpS M A E s (binarySort' lo n ok) Q st:=by
 rw[binarySort'_eq];refine cj (uq (jq (I:=λ k c st'=>c=(none,())/\Sa st st'/\Joined lb (df st) (df st') lo (min k n)) (Q:=λ c st'=>c=(none,())/\Sa st st'/\Joined lb (df st) (df st') lo n) ?step ?fin ?init) ?post)
 case post =>
  rintro c st' ⟨rfl,p,j⟩;exact di (q st' p j)
 case fin =>
  rintro c st' ⟨rfl,p,j⟩;refine⟨rfl,p,?_⟩;rwa[show min (max (max ok 1) n) n=n by omega]at j
 case init =>
  refine⟨rfl,⟨rfl,rfl,rfl⟩,_,vT (by omega),?_,AD _⟩;by_cases o:ok=0
  ·have:((df st).extract lo (lo+min (max ok 1) n)).toList.length<=1:=by
    rw[iD,ka];omega
   generalize((df st).extract lo (lo+min (max ok 1) n)).toList=l at *;exact sM this
  ·rwa[show min (max ok 1) n=ok by omega]
 case step =>
  rintro k c st' _ a0 ⟨rfl,p,m,e,O,B⟩;rw[show min k n=k by omega]at e B;have lm:m.length=k:=by rw[B.length_eq,iD,ka];omega
  have lp:((df st).toList.take lo).length=lo:=by simp;omega
  have L:lo+k<(df st).size:=by omega
  rw[drop_one L]at e
  have Y:(df st')[lo+k]?=some ((df st)[lo+k]):=by
   rw[<-mo,e,bz (by omega),lp,bz (by omega),lm,show lo+k-lo-k=0 by omega]
   rfl
  have am:∀ j (h:j<m.length),(df st')[lo+j]?=some m[j]:=λ j h=>by
   rw[<-mo,e,bz (by omega),lp,bf (by omega),show lo+j-lo=j by omega];exact ae h
  have T:D (df st)[lo+k]:=N _ (by simp)
  have dm:∀ j (h:j<m.length),D m[j]:=λ j h=>by
   obtain⟨i,f,_,_,ei⟩:=jM (B.mem_iff.mp (iO h));rw[ei];exact N _ (by simp)
  have mono:∀ i j (h:i<=j) (J:j<m.length),le lb (m[i]'(by omega)) m[j]:=λ i j h J=>by
   by_cases z:i=j
   ·subst z;exact W.refl _
   ·exact oq.mp O i j (by omega) J (by omega)
  refine cj (uq (jq (I:=λ x c a=>a=st'/\∃ l r,c=(none,l,r)/\l<=r/\r<=k/\r-l<=k-x/\(∀ i (h:i<m.length),i<l->le lb m[i] (df st)[lo+k])/\(∀ i (h:i<m.length),r<=i->le lb (df st)[lo+k] m[i]))
   (Q:=λ c a=>a=st'/\∃ l r,c=(none,l,r)/\l<=k/\(∀ i (h:i<m.length),i<l->le lb m[i] (df st)[lo+k])/\(∀ i (h:i<m.length),l<=i->le lb (df st)[lo+k] m[i])) ?istep ?ifin ?iinit) ?ipost)
  case iinit=>exact⟨rfl,0,k,rfl,by omega,by omega,by omega,λ i _ f=>by omega,λ i h1 h2=>by omega⟩
  case ifin =>
   rintro c a ⟨rfl,l,r,rfl,lr,G,d,g,u⟩;have:l=r:=by omega
   subst this;exact⟨rfl,l,l,rfl,G,g,u⟩
  case istep =>
   rintro x c a _ _ ⟨rfl,l,r,rfl,lr,G,d,g,u⟩;dsimp only;by_cases v:l >= r
   ·rw[if_pos v]
    have:l=r:=by omega
    subst this;exact di ⟨rfl,l,l,rfl,G,g,u⟩
   ·rw[if_neg v]
    have H:(l+r) / 2<m.length:=by omega
    refine cj (bF Z (p.1.trans S) Y (am _ H) T (dm _ H) ?_)
    cases z:lb (df st)[lo+k] m[(l+r) / 2]
    case true =>
     simp only[if_true];exact di ⟨rfl,l,_,rfl,by omega,by omega,by omega,g,λ i h f=>W.trans (W.of_lt z) (mono _ i f h)⟩
    case false =>
     simp only[eN,if_false];exact di ⟨rfl,_,r,rfl,by omega,by omega,by omega,λ i h f=>W.trans (mono i _ (by omega) H) z,u⟩
  case ipost =>
   rintro c a ⟨rfl,l,r,rfl,lk,g,u⟩;show wpS _ _ _ _ (do moveDown' (lo+k) (lo+l);pure (jd (none,()))) _ _;rw[moveDown'_eq];refine cj (om (di ⟨rfl,p,?_⟩));rw[show min (k+1) n=k+1 by omega];show Joined lb (df st) (bubble (df a) (lo+k) (lo+k-(lo+l))) lo (k+1)
   have b:=fR (m.drop l) ((df st).toList.take lo++m.take l) ((df st).toList.drop (lo+k+1)) ((df st)[lo+k]) (df a) (by
    rw[e]
    conv=>lhs;rw[<-fk l m]
    simp only[dh,List.singleton_append])
   have l1:((df st).toList.take lo++m.take l).length+(m.drop l).length=lo+k:=by
    rw[bj,lp,cx,iN];omega
   have X:(m.drop l).length=lo+k-(lo+l):=by rw[iN];omega
   rw[l1,X]at b;refine⟨m.take l++(df st)[lo+k]::m.drop l,?_,kPZ W (by rw[fk];exact O) (λ y C=>?_) (λ y C=>?_),?_⟩
   ·rw[b,<-xc]
    simp only[dh,kj]
   ·obtain⟨i,f,rfl⟩:=eZ.mp C
    rw[cx]at f;rw[AF];exact g i (by omega) (by omega)
   ·obtain⟨i,f,rfl⟩:=eZ.mp C
    rw[iN]at f;rw[Bm];exact u _ (by omega) (by omega)
   ·refine uj CD ?_
    rw[fk,vB (i:=lo) (m:=lo+k) (j:=lo+(k+1)) (by omega) (by omega)]
    have:((df st).extract (lo+k) (lo+(k+1))).toList=[(df st)[lo+k]]:=by
     rw[<-xc,xN,drop_one L]
     rfl
    rw[this];exact(kh (l₁:=[(df st)[lo+k]]) (l₂:=m)).trans (B.append_right _)
end
section
variable {α:Type}
def kCB(arr:Array α){P m T:List α}{i j:Nat}(h:arr.toList=P++(m++T))(hi:i=P.length)(b:j=P.length+m.length):(mirror arr i j ((j-i) / 2)).toList=P++(m.reverse++T):=by
 subst hi b
 have sz:arr.size=P.length+(m.length+T.length):=by
  have:=congrArg ip h;simpa using this
 have g:∀ k,arr[k]?=(P++(m++T))[k]?:=λ k=>by rw[<-h,mo]
 refine Dr λ k=>?_;rw[mo,getElem?_mirror_all (by omega),g,g];rcases iV k P.length with c | c
 ·rw[if_neg (by omega),bf c,bf c]
 ·rcases iV k (P.length+m.length) with a | a
  ·rw[if_pos ⟨c,a⟩,bz (by omega),bz c,bf (by omega),bf (by rw[Aw];omega),List.getElem?_reverse (by omega)]
   congr 1
   omega
  ·rw[if_neg (by omega),bz c,bz c,bz (by omega),bz (by rw[Aw];omega),Aw]
end
section
variable {α:Type} {lb:α->α->Bool}
def Fal(lb:α->α->Bool)(l:List α):Prop:=l.Pairwise λ a b=>le lb b a
def Fal.rev{l:List α}(h:Fal lb l):jO lb l.reverse:=AK.mpr h
def Fal.tail{u t:List α}(h:Fal lb (u++t))(e:jO lb t):Fal lb (u++t.reverse):=by
 have a:=eE.mp h;refine eE.mpr ⟨a.1,AK.mpr e,λ x b y c=>a.2.2 x b y (yn.mp c)⟩
end
section
variable {M:yu} {A:gh} {E:ar->ay->Prop} {s:ay} {lb:bq->bq->Bool} {D:bq->Prop} {kd:nj}
structure Rn(arr0 arr:Array bq)(lo n:Nat)(m:List bq):Prop where
 eq:arr.toList=arr0.toList.take lo++(m++arr0.toList.drop (lo+n))
 pm:m.Perm (arr0.extract lo (lo+n)).toList
 hn:lo+n<=arr0.size
variable {arr0 arr:Array bq} {lo n:Nat} {m:List bq}
def Rn.len(h:Rn arr0 arr lo n m):m.length=n:=by
 have:=h.hn;rw[h.pm.length_eq,iD,ka];omega
def Rn.joined(h:Rn arr0 arr lo n m)(a:jO lb m):Joined lb arr0 arr lo n:=⟨m,h.eq,a,h.pm⟩
def Rn.start(h:lo+n<=arr0.size):Rn arr0 arr0 lo n (arr0.extract lo (lo+n)).toList:=⟨vT h,AD _,h⟩
def Rn.lp(h:Rn arr0 arr lo n m):(arr0.toList.take lo).length=lo:=by have:=h.hn;simp;omega
def Rn.at(h:Rn arr0 arr lo n m){j:Nat}(a:j<m.length):arr[lo+j]?=some m[j]:=by
 rw[<-mo,h.eq,bz (by rw[h.lp];omega),h.lp,bf (by omega),show lo+j-lo=j by omega];exact ae a
def Rn.next(h:Rn arr0 arr lo n m)(a:lo+n<arr0.size):arr[lo+n]?=some arr0[lo+n]:=by
 rw[<-mo,h.eq,bz (by rw[h.lp];omega),h.lp,bz (by rw[h.len];omega),h.len,drop_one a,show lo+n-lo-n=0 by omega]
 rfl
def Rn.more(h:Rn arr0 arr lo n m)(a:lo+n<arr0.size):Rn arr0 arr lo (n+1) (m++[arr0[lo+n]]):=by
 refine⟨?_,?_,by omega⟩
 ·rw[h.eq,drop_one a,dh]
  rfl
 ·rw[vB (i:=lo) (m:=lo+n) (j:=lo+(n+1)) (by omega) (by omega)]
  have:(arr0.extract (lo+n) (lo+(n+1))).toList=[arr0[lo+n]]:=by
   rw[<-xc,xN,drop_one a]
   rfl
  rw[this];exact h.pm.append_right _
def Rn.dom(h:Rn arr0 arr lo n m)(c:∀ x∈arr0.toList,D x):∀ x∈m,D x:=λ x b=>by
 obtain⟨i,d,_,_,a⟩:=jM (h.pm.mem_iff.mp b);rw[a];exact c _ (by simp)
def Rn.turn{u v t:List bq}(h:Rn arr0 arr lo n (u++(v++t))){i j:Nat}(hi:i=lo+u.length)(a:j=lo+u.length+v.length):Rn arr0 (mirror arr i j ((j-i) / 2)) lo n (u++(v.reverse++t)):=by
 have lp:=h.lp;refine⟨?_,uj (xh u (wy t (List.reverse_perm v))) h.pm,h.hn⟩;have e:=kCB arr (P:=arr0.toList.take lo++u) (m:=v) (T:=t++arr0.toList.drop (lo+n)) (i:=i) (j:=j) (by rw[h.eq];simp only[dh]) (by rw[bj,lp];exact hi) (by rw[bj,lp];exact a);rw[e];simp only[dh]
def kGU(W:Wk lb){m:List bq}{x:bq}(a:jO lb m)(h:m.length-1<m.length)(c:le lb m[m.length-1] x):jO lb (m++[x]):=by
 refine eE.mpr ⟨a,oh _ _,λ y b z f=>?_⟩;have:z=x:=by simpa using f
 subst this;obtain⟨i,d,rfl⟩:=eZ.mp b;by_cases e:i=m.length-1
 ·subst e;exact c
 ·exact W.trans (oq.mp a i (m.length-1) d h (by omega)) c
abbrev AS:=Option (Option Nat)×Nat
def kEV(lo a b:Nat):StateT eP Sem AS :=
 forIn [a:b] ((none,a):AS) λ _ c=>do
  let r <-ltAt' (lo+c.2) (lo+c.2-1)
  match r with
  | some smaller=>if smaller=true then pure (xx (none,c.2)) else pure (jd (none,c.2+1))
  | _=>pure (xx (some none,c.2))
def kAI(W:Wk lb)(u:vZ M A E s lb D kd){st:eP}(p:kindOf st=kd)(o:∀ x∈arr0.toList,D x){a:Nat}(B:lo+a<=arr0.size)(H:1<=n)(v:n<=a)(h:Rn arr0 (df st) lo n m)(y:jO lb m){Q:AS->eP->Prop}
  (q:∀ k m',n<=k->k<=a->Rn arr0 (df st) lo k m'->jO lb m'->(k=a\/∃(h1:lo+k<arr0.size)(G:m'.length-1<m'.length),lb arr0[lo+k] m'[m'.length-1]=true)->Q (none,k) st):wpS M A E s (kEV lo n a) Q st:=by
 unfold kEV;refine jq (I:=λ x c f=>f=st/\c=(none,x)/\∃ m',Rn arr0 (df st) lo x m'/\jO lb m') ?step ?fin ⟨rfl,rfl,m,h,y⟩
 case fin =>
  rintro c f ⟨rfl,rfl,m',b,d⟩;rw[show max n a=a by omega]at b ⊢;exact q a m' v (be _) b d (.inl rfl)
 case step =>
  rintro x c f i r ⟨rfl,rfl,m',b,d⟩;dsimp only;have C:=b.len;have j:lo+x<arr0.size:=by omega
  have g:m'.length-1<m'.length:=by omega
  have l:=b.at g;rw[show lo+(m'.length-1)=lo+x-1 by omega]at l;refine cj (bF u p (b.next j) l (o _ (by simp)) (b.dom o _ (iO g)) ?_)
  cases e:lb arr0[lo+x] m'[m'.length-1]
  case true =>
   simp only[if_true];exact di (q x m' i (by omega) b d (.inr ⟨j,g,e⟩))
  case false =>
   simp only[eN,if_false];exact di ⟨rfl,rfl,_,b.more j,kGU W d g e⟩
end
section
variable {M:yu} {A:gh} {E:ar->ay->Prop} {s:ay} {lb:bq->bq->Bool} {D:bq->Prop} {kd:nj}
variable {arr0 arr:Array bq} {lo n:Nat} {m:List bq}
abbrev DS:=Option (Option Nat)×Nat×Nat
def kCQ(lo n a:Nat):StateT eP Sem DS :=
 forIn [n:a] ((none,n,0):DS) λ _ c=>do
  let r <-ltAt' (lo+c.2.1) (lo+c.2.1-1)
  match r with
  | some smaller =>
   if smaller=true then
    if c.2.2>0 then do
     reverseSlice' (lo+c.2.1-(c.2.2+1)) (lo+c.2.1)
     pure (jd (none,c.2.1+1,0))
    else pure (jd (none,c.2.1+1,0))
   else do
    let r <-ltAt' (lo+c.2.1-1) (lo+c.2.1)
    match r with
    | some larger=>if larger=true then pure (xx (none,c.2.1,c.2.2)) else pure (jd (none,c.2.1+1,c.2.2+1))
    | _=>pure (xx (some none,c.2.1,c.2.2))
  | _=>pure (xx (some none,c.2.1,c.2.2))
structure Fl(lb:bq->bq->Bool)(arr0 arr:Array bq)(lo n neq:Nat)(u t:List bq)(z:bq):Prop where
 rn:Rn arr0 arr lo n (u++(t++[z]))
 fal:Fal lb (u++(t++[z]))
 srt:jO lb (t++[z])
 len:t.length=neq
def Fl.last{a:Nat}{u t:List bq}{z:bq}(h:Fl lb arr0 arr lo n a u t z)(b:0<n):arr[lo+n-1]?=some z:=by
 have l:=h.rn.len;rw[bj,bj,fj]at l;have:=h.rn.at (j:=n-1) (by rw[bj,bj,fj];omega);rw[show lo+(n-1)=lo+n-1 by omega]at this;rw[this,<-ae,bz (by omega),bz (by omega),show n-1-u.length-t.length=0 by omega]
 rfl
def Fl.low(W:Wk lb){a:Nat}{u t:List bq}{z x:bq}(h:Fl lb arr0 arr lo n a u t z)(c:le lb x z):∀ y∈u++(t++[z]),le lb x y:=λ y b=>by
 have f:=h.fal;rw[Fal,<-dh]at f;rw[<-dh]at b;rcases ck.mp b with w | w
 ·exact W.trans c ((eE.mp f).2.2 y w z (by simp))
 ·have:y=z:=by simpa using w
  rw[this];exact c
def cJ{l:List bq}{x:bq}(h:Fal lb l)(c:∀ y∈l,le lb x y):Fal lb (l++[x]):=by
 refine eE.mpr ⟨h,oh _ _,λ y a w b=>?_⟩;have:w=x:=by simpa using b
 rw[this];exact c y a
def Fl.turned{a:Nat}{u t:List bq}{z:bq}(h:Fl lb arr0 arr lo n a u t z):Rn arr0 (mirror arr (lo+n-(a+1)) (lo+n) ((lo+n-(lo+n-(a+1))) / 2)) lo n (u++(t++[z]).reverse)/\Fal lb (u++(t++[z]).reverse):=by
 have l:=h.rn.len;have b:=h.len;rw[bj,bj,fj]at l;refine⟨?_,h.fal.tail h.srt⟩;have:=Rn.turn (u:=u) (v:=t++[z]) (t:=[]) (by simpa using h.rn) (i:=lo+n-(a+1)) (j:=lo+n) (by omega) (by rw[bj,fj];omega);simpa using this
def kIC(W:Wk lb)(l:vZ M A E s lb D kd){st:eP}(i:kindOf st=kd)(m:∀ x∈arr0.toList,D x){a:Nat}(J:lo+a<=arr0.size)(L:1<=n)(G:n<=a){u:List bq}{z:bq}(h:Fl lb arr0 (df st) lo n 0 u [] z){Q:DS->eP->Prop}
  (q:∀ k neq st' u t z,Sa st st'->n<=k->k<=a->Fl lb arr0 (df st') lo k neq u t z->Q (none,k,neq) st'):wpS M A E s (kCQ lo n a) Q st:=by
 unfold kCQ;refine jq (I:=λ x c st'=>Sa st st'/\∃ neq u t z,c=(none,x,neq)/\Fl lb arr0 (df st') lo x neq u t z) ?step ?fin ⟨⟨rfl,rfl,rfl⟩,0,u,[],z,rfl,h⟩
 case fin =>
  rintro c st' ⟨b,neq,u,t,z,rfl,f⟩;rw[show max n a=a by omega]at f ⊢;exact q _ _ _ _ _ _ b G (be _) f
 case step =>
  rintro x c st' g B ⟨b,neq,u,t,z,rfl,f⟩;dsimp only;have d:lo+x<arr0.size:=by omega
  have o:D z:=f.rn.dom m z (by simp);have j:D arr0[lo+x]:=m _ (by simp);refine cj (bF l (b.1.trans i) (f.rn.next d) (f.last (by omega)) j o ?_)
  cases e:lb arr0[lo+x] z
  case true =>
   simp only[if_true];have p:=f.low W (W.of_lt e);by_cases r:neq>0
   ·rw[if_pos r,AV]
    obtain⟨H,C⟩:=f.turned;refine cj (om (di ⟨b,0,_,[],_,rfl,⟨H.more d,cJ C λ y v=>p y ?_,oh _ _,rfl⟩⟩));rcases ck.mp v with w | w
    ·exact dw _ w
    ·exact dj _ (yn.mp w)
   ·rw[if_neg r]
    exact di ⟨b,0,_,[],_,rfl,⟨f.rn.more d,cJ f.fal p,oh _ _,rfl⟩⟩
  case false =>
   simp only[eN,if_false];refine cj (bF l (b.1.trans i) (f.last (by omega)) (f.rn.next d) o j ?_)
   cases e2:lb z arr0[lo+x]
   case true =>
    simp only[if_true];exact di (q _ _ _ _ _ _ b g (by omega) f)
   case false =>
    simp only[eN,if_false];refine di ⟨b,neq+1,u,t++[z],arr0[lo+x],rfl,⟨by have:=f.rn.more d;simpa using this,by have:=cJ f.fal (f.low W e2);simpa using this,?_,by rw[bj,f.len];rfl⟩⟩;refine kGU W f.srt (by rw[bj,fj];omega) ?_;have:(t++[z])[(t++[z]).length-1]'(by rw[bj,fj];omega)=z:=by simp
    rw[this];exact e
end
def oP(lo n a:Nat):StateT eP Sem (Option Nat):=do
 reverseSlice' lo (lo+n)
 let c <-kEV lo n a
 match c.1 with
 | some r=>pure r
 | none=>pure (some c.2)
def fJ(lo n a:Nat):StateT eP Sem (Option Nat):=do
 liftM (rule "list.sort.descending-run")
 let c <-kCQ lo (n+1) a
 match c.1 with
 | some r=>pure r
 | none =>
  if c.2.2>0 then do
   reverseSlice' (lo+c.2.1-(c.2.2+1)) (lo+c.2.1)
   oP lo c.2.1 a
  else oP lo c.2.1 a
def nJ(lo a:Nat):countRun' lo a=(do
  let c <-kEV lo 1 a
  match c.1 with
  | some r=>pure r
  | none =>
   if(c.2 == a)=true then pure (some c.2)
   else if c.2>1 then do
    let r <-ltAt' lo (lo+c.2-1)
    match r with
    | some rose =>
     if rose=true then pure (some c.2)
     else do
      reverseSlice' lo (lo+c.2)
      fJ lo c.2 a
    | _=>pure none
   else fJ lo c.2 a):=by
 rw[countRun'_eq];dsimp only;unfold kEV;refine congr (congrArg _ (congrArg _ (funext λ x=>funext λ c=>congrArg _ (funext λ r=>by cases r<;>rfl)))) (funext λ c=>?_);have part:∀ n:Nat,fJ lo n a=fJ lo n a:=λ _=>rfl
 cases c.1 with
 | some r=>rfl
 | none =>
  dsimp only;refine ite_congr rfl (λ _=>rfl) (λ _=>ite_congr rfl (λ _=>congrArg _ (funext λ r=>?_)) (λ _=>?_))
  ·cases r with
   | none=>rfl
   | some rose =>
    dsimp only;refine ite_congr rfl (λ _=>rfl) (λ _=>congrArg _ (funext λ _=>?_));unfold fJ kCQ;refine congrArg _ (funext λ _=>congr (congrArg _ (congrArg _ (funext λ x=>funext λ d=>congrArg _ (funext λ r=>?_)))) (funext λ d=>?_))
    ·cases r with
     | none=>rfl
     | some b=>exact ite_congr rfl (λ _=>rfl) (λ _=>congrArg _ (funext λ r=>by cases r<;>rfl))
    ·cases d.1 with
     | some r=>rfl
     | none =>
      unfold oP kEV;refine ite_congr rfl (λ _=>congrArg _ (funext λ _=>?_)) (λ _=>?_)
      all_goals exact congrArg _ (funext λ _=>congr (congrArg _ (congrArg _ (funext λ x=>funext λ c=>congrArg _ (funext λ r=>by cases r<;>rfl)))) (funext λ c=>by cases c.1<;>rfl))
  ·unfold fJ kCQ
   refine congrArg _ (funext λ _=>congr (congrArg _ (congrArg _ (funext λ x=>funext λ d=>congrArg _ (funext λ r=>?_)))) (funext λ d=>?_))
   ·cases r with
    | none=>rfl
    | some b=>exact ite_congr rfl (λ _=>rfl) (λ _=>congrArg _ (funext λ r=>by cases r<;>rfl))
   ·cases d.1 with
    | some r=>rfl
    | none =>
     unfold oP kEV;refine ite_congr rfl (λ _=>congrArg _ (funext λ _=>?_)) (λ _=>?_)
     all_goals exact congrArg _ (funext λ _=>congr (congrArg _ (congrArg _ (funext λ x=>funext λ c=>congrArg _ (funext λ r=>by cases r<;>rfl)))) (funext λ c=>by cases c.1<;>rfl))
section
variable {M:yu} {A:gh} {E:ar->ay->Prop} {s:ay} {lb:bq->bq->Bool} {D:bq->Prop} {kd:nj}
variable {arr0 arr:Array bq} {lo n:Nat} {m:List bq}
def oE(W:Wk lb)(d:vZ M A E s lb D kd){st:eP}(f:kindOf st=kd)(p:∀ x∈arr0.toList,D x){a:Nat}(c:lo+a<=arr0.size)(g:1<=n)(r:n<=a)(h:Rn arr0 (df st) lo n m)(l:Fal lb m){Q:Option Nat->eP->Prop}
  (q:∀ k st',Sa st st'->1<=k->k<=a->Joined lb arr0 (df st') lo k->Q (some k) st'):wpS M A E s (oP lo n a) Q st:=by
 unfold oP;rw[AV];refine cj (om ?_);have t:=Rn.turn (u:=[]) (v:=m) (t:=[]) (by simpa using h) (i:=lo) (j:=lo+n) (by simp) (by rw[h.len];simp);simp only[qi,iP]at t;refine cj (kAI (st:=setArr st (mirror (df st) lo (lo+n) ((lo+n-lo) / 2))) W d f p c g r t l.rev λ k C B o y b _=>?_);exact di (q k _ ⟨rfl,rfl,rfl⟩ (by omega) o (y.joined b))
def oG(W:Wk lb)(j:vZ M A E s lb D kd){st:eP}(g:kindOf st=kd)(l:∀ x∈arr0.toList,D x){a:Nat}(i:lo+a<=arr0.size)(L:1<=n)(J:n<a)(h:Rn arr0 (df st) lo n m)(H:Fal lb m)(hz:lo+n<arr0.size)(G:∀ y∈m,le lb arr0[lo+n] y){Q:Option Nat->eP->Prop}
  (q:∀ k st',Sa st st'->1<=k->k<=a->Joined lb arr0 (df st') lo k->Q (some k) st'):wpS M A E s (fJ lo n a) Q st:=by
 unfold fJ;refine cj (wO ?_);refine cj (kIC W j g l i (by omega) (by omega) (u:=m) (z:=arr0[lo+n]) ⟨h.more hz,cJ H G,oh _ _,rfl⟩ λ k c st' u t z d I r f=>?_);dsimp only;have p:∀ k b,Sa st' b->1<=k->k<=a->Joined lb arr0 (df b) lo k->Q (some k) b:=λ k b o=>q k b ⟨o.1.trans d.1,o.2.1.trans d.2.1,o.2.2.trans d.2.2⟩;by_cases v:c>0
 ·rw[if_pos v,AV]
  obtain⟨B,C⟩:=f.turned;refine cj (om ?_);exact oE (st:=setArr st' (mirror (df st') (lo+k-(c+1)) (lo+k) ((lo+k-(lo+k-(c+1))) / 2))) W j (d.1.trans g) l i (by omega) r B C p
 ·rw[if_neg v]
  exact oE W j (d.1.trans g) l i (by omega) r f.rn f.fal p
def rN(W:Wk lb)(f:vZ M A E s lb D kd){st:eP}(d:kindOf st=kd)(b:∀ x∈(df st).toList,D x){a:Nat}(B:lo+a<=(df st).size)(Z:1<=a){Q:Option Nat->eP->Prop}
  (q:∀ k st',Sa st st'->1<=k->k<=a->Joined lb (df st) (df st') lo k->Q (some k) st'):wpS M A E s (countRun' lo a) Q st:=by
 rw[nJ];have J:=Rn.start (arr0:=df st) (lo:=lo) (n:=1) (by omega)
 have T:jO lb ((df st).extract lo (lo+1)).toList:=by
  have:=J.len;generalize((df st).extract lo (lo+1)).toList=l at *;exact sM (Fw this)
 refine cj (kAI W f d b B (by omega) Z J T λ k m o S r h c=>?_);dsimp only;have U:=r.len;by_cases e:k=a
 ·rw[if_pos (by simpa using e)]
  exact di (q k st ⟨rfl,rfl,rfl⟩ o S (r.joined h))
 ·rw[if_neg (by simpa using e)]
  obtain⟨N,hl,lt⟩ : ∃(h1:lo+k<(df st).size)(h2:m.length-1<m.length),lb (df st)[lo+k] m[m.length-1]=true:=by
   rcases c with c | c
   ·exact absurd c e
   ·exact c
  by_cases g:k>1
  ·rw[if_pos g]
   have I:=r.at (j:=0) (by omega);have L:=r.at hl;rw[Dq]at I;rw[show lo+(m.length-1)=lo+k-1 by omega]at L;refine cj (bF f d I L (r.dom b _ (iO _)) (r.dom b _ (iO _)) ?_)
   cases e2:lb (m[0]'(by omega)) m[m.length-1]
   case true =>
    simp only[if_true];exact di (q k st ⟨rfl,rfl,rfl⟩ o S (r.joined h))
   case false =>
    simp only[eN,if_false];rw[AV];refine cj (om ?_);have t:=Rn.turn (u:=[]) (v:=m) (t:=[]) (by simpa using r) (i:=lo) (j:=lo+k) (by simp) (by rw[U];simp);simp only[qi,iP]at t;refine oG (st:=setArr st (mirror (df st) lo (lo+k) ((lo+k-lo) / 2))) W f d b B o (by omega) t (show List.Pairwise _ _ from AK.mpr h) N (λ y p=>?_) λ H st' G=>q H st' G;obtain⟨i,O,rfl⟩:=eZ.mp (yn.mp p)
    have X:le lb (m[0]'(by omega)) m[i]:=by
     by_cases z:0=i
     ·subst z;exact W.refl _
     ·exact oq.mp h 0 i (by omega) O (by omega)
    exact W.trans (W.of_lt lt) (W.trans e2 X)
  ·rw[if_neg g]
   have C:k=1:=by omega
   subst C
   exact oG W f d b B (by omega) (by omega) r (sM (by omega)) N (λ y p=>by
    obtain⟨i,O,rfl⟩:=eZ.mp p;have Y:i=m.length-1:=by omega
    simp only[Y];exact W.of_lt lt) λ H st' G=>q H st' G
end
abbrev Pn:=Nat×Nat×Nat
def Tiles:List Pn->Nat->Nat->Prop
 | [],a,b=>a=b
 | x::r,a,b=>x.1=a/\0<x.2.1/\Tiles r (a+x.2.1) b
theorem Tiles.le:∀{l:List Pn}{a b:Nat},Tiles l a b->a<=b
 | [],a,b,h=>by rw[show a=b from h];exact be _
 | x::r,a,b,h=>by have:=Tiles.le h.2.2;omega
theorem Tiles.app:∀{l r:List Pn}{a b:Nat},Tiles (l++r) a b↔∃ c,Tiles l a c/\Tiles r c b
 | [],r,a,b=>⟨λ h=>⟨a,rfl,h⟩,λ⟨c,h1,d⟩=>by rw[show a=c from h1];exact d⟩
 | x::l,r,a,b=>by
  constructor
  ·rintro⟨h1,d,g⟩
   obtain⟨c,f,i⟩:=Tiles.app.mp g;exact⟨c,⟨h1,d,f⟩,i⟩
  ·rintro⟨c,⟨h1,d,g⟩,f⟩
   exact⟨h1,d,Tiles.app.mpr ⟨c,g,f⟩⟩
def Tiles.join{l r:List Pn}{a b s n i d p q:Nat}(h:Tiles (l++(s,n,p)::(i,d,q)::r) a b):i=s+n/\0<n/\0<d/\s+n+d<=b/\Tiles l a s/\Tiles r (s+n+d) b/\Tiles (l++(s,n+d,p)::r) a b:=by
 obtain⟨c,h1,m,o,j,g,f⟩:=Tiles.app.mp h;have m:s=c:=m;have j:i=c+n:=j;have o:0<n:=o;have g:0<d:=g;have f:Tiles r (c+n+d) b:=f;subst m;refine⟨j,o,g,f.le,h1,f,Tiles.app.mpr ⟨s,h1,rfl,by show 0<n+d;omega,?_⟩⟩;show Tiles r (s+(n+d)) b;rw[<-xc];exact f
def kDX{P:Array Pn}{l r:List Pn}{x y z:Pn}(h:P.toList=l++x::y::r):((P.setIfInBounds l.length z).eraseIdxIfInBounds (l.length+1)).toList=l++z::r:=by
 have sz:P.size=l.length+(r.length+2):=by
  have:=congrArg ip h;simpa using this
 unfold Array.eraseIdxIfInBounds;rw[dif_pos (by rw[Bp];omega),Array.toList_eraseIdx,BS,h];rw[List.set_append_right _ _ (be _),Ds,zw (by omega),show l.length+1-l.length=1 by omega]
 rfl
section
variable {lb:bq->bq->Bool} {arr arr':Array bq} {lo n:Nat}
def Joined.low(h:Joined lb arr arr' lo n)(b:lo+n<=arr.size){a k:Nat}(c:a+k<=lo):(arr'.extract a (a+k)).toList=(arr.extract a (a+k)).toList:=by
 obtain⟨m,e,_,d⟩:=h;have lp:(arr.toList.take lo).length=lo:=by simp;omega
 rw[xN,xN,e,List.drop_append_of_le_length (by omega),wo (by rw[iN];omega),Es,BR,kq (by omega)]
def Joined.high(h:Joined lb arr arr' lo n)(d:lo+n<=arr.size){a k:Nat}(c:lo+n<=a):(arr'.extract a (a+k)).toList=(arr.extract a (a+k)).toList:=by
 obtain⟨m,e,_,b⟩:=h
 have l:m.length=n:=by
  rw[b.length_eq,xN,cx,iN,iD];omega
 have lp:(arr.toList.take lo).length=lo:=by simp;omega
 rw[xN,xN,e,AU,lp,ml (by omega),qi,AU,ml (by omega),qi,AE]
 congr 2
 omega
def Joined.here(h:Joined lb arr arr' lo n)(c:lo+n<=arr.size):jO lb (arr'.extract lo (lo+n)).toList:=by
 obtain⟨m,e,a,b⟩:=h
 have l:m.length=n:=by
  rw[b.length_eq,xN,cx,iN,iD];omega
 have lp:(arr.toList.take lo).length=lo:=by simp;omega
 rw[xN,e,AU,lp,ml (by omega),qi,Ds,Cw,wo (by omega),ki (by omega)];exact a
def Joined.perm(h:Joined lb arr arr' lo n)(a:lo+n<=arr.size):arr'.toList.Perm arr.toList:=by
 obtain⟨m,e,c,b⟩:=h;rw[e];exact(xh _ (b.append_right _)).trans (List.Perm.of_eq (vT a).symm)
end
section
variable {M:yu} {A:gh} {E:ar->ay->Prop} {s:ay} {lb:bq->bq->Bool} {D:bq->Prop} {kd:nj}
structure SI(lb:bq->bq->Bool)(kd:nj)(a0:Array bq)(st:eP)(lo:Nat):Prop where
 kind:kindOf st=kd
 failed:ur st=none
 perm:(df st).toList.Perm a0.toList
 tiles:Tiles (de st).toList 0 lo
 top:lo<=a0.size
 runs:∀ x∈(de st).toList,jO lb ((df st).extract x.1 (x.1+x.2.1)).toList
theorem SI.size{a:Array bq}{st:eP}{lo:Nat}(h:SI lb kd a st lo):(df st).size=a.size:=by simpa using h.perm.length_eq
theorem Tiles.in:∀{l:List Pn}{a b:Nat},Tiles l a b->∀ x∈l,a<=x.1/\x.1+x.2.1<=b
 | y::l,a,b,h,x,hx=>by
  rcases eK.mp hx with rfl | z
  ·have:=h.2.2.le
   have:=h.1;omega
  ·have:=Tiles.in h.2.2 x z
   omega
def aP(W:Wk lb)(J:vZ M A E s lb D kd){d:Array bq}(S:∀ x∈d.toList,D x){st:eP}{lo:Nat}(h:SI lb kd d st lo){i:Nat}(hi:i+1<(de st).size){Q:Bool->eP->Prop}
  (q:∀ st',SI lb kd d st' lo->(de st').size+1=(de st).size->(∀ a k,lo<=a->((df st').extract a (a+k)).toList=((df st).extract a (a+k)).toList)->Q true st'):wpS M A E s (mergeAt' i) Q st:=by
 have o:(de st).toList=(de st).toList.take i++(de st)[i]::(de st)[i+1]::(de st).toList.drop (i+2):=by
  conv=>lhs;rw[<-fk i (de st).toList]
  rw[drop_one (show i<(de st).size by omega),drop_one hi]
  rfl
 have L:((de st).toList.take i).length=i:=by simp;omega
 have N:=getElem?_pos (de st) i (by omega);have G:=getElem?_pos (de st) (i+1) hi;have r1:=h.runs _ (by simp:(de st)[i]∈(de st).toList);have O:=h.runs _ (by simp:(de st)[i+1]∈(de st).toList);have v:=h.tiles;have m:=h.runs;rw[o]at v m;generalize B:(de st)[i]=x at *;generalize hy:(de st)[i+1]=y at *;obtain⟨f,j,u⟩:=x;obtain⟨sb,g,pb⟩:=y;obtain⟨Y,n,p,le,I,tr,T⟩:=v.join;subst Y;have top:=h.top;have sz:=h.size;refine kAH W J h.kind h.failed (λ x B=>S x (h.perm.mem_iff.mp B)) N G n p (by omega) r1 O λ st' k' Z C c=>?_;have b:f+(j+g)<=(df st).size:=by omega
 have l:(de st').toList=(de st).toList.take i++(f,j+g,u)::(de st).toList.drop (i+2):=by
  have:=kDX (z:=(f,j+g,u)) o;rw[L]at this;rw[C,this]
 refine q st' ⟨k',Z,(c.perm b).trans h.perm,by rw[l];exact T,top,λ z r=>?_⟩ ?_ (λ a k X=>c.high b (by omega))
 ·rw[l]at r
  rcases ck.mp r with w | w
  ·have:=I.in z w
   rw[c.low b (by omega)];exact m z (dw _ w)
  ·rcases eK.mp w with rfl | w
   ·exact c.here b
   ·have:=tr.in z w
    rw[c.high b (by omega)];exact m z (dj _ (eD _ (eD _ w)))
 ·have U:=congrArg ip l
  have H:=congrArg ip o;simp only[iD,bj,iC]at U H;omega
end
def Tiles.snoc{l:List Pn}{a b:Nat}{x:Pn}(h:Tiles l a b)(e:x.1=b)(n:0<x.2.1):Tiles (l++[x]) a (b+x.2.1) :=
 Tiles.app.mpr ⟨b,h,e,n,rfl⟩
theorem Tiles.repl:∀{l:List Pn}{a b:Nat}(k:Nat)(f:Pn->Pn),(∀ x,(f x).1=x.1/\(f x).2.1=x.2.1)->Tiles l a b->Tiles (l.modify k f) a b
 | [],a,b,k,f,hf,h=>by simpa using h
 | x::r,a,b,0,f,hf,h=>by
  obtain⟨h1,c,d⟩:=h;have:=hf x;rw[List.modify_zero_cons];exact⟨this.1.trans h1,by rw[this.2];exact c,by rw[this.2];exact d⟩
 | x::r,a,b,k+1,f,hf,h=>by
  obtain⟨h1,c,d⟩:=h;rw[List.modify_succ_cons];exact⟨h1,c,Tiles.repl k f hf d⟩
def kPQ{l:List Pn}{k:Nat}{f:Pn->Pn}{x:Pn}(h:x∈l.modify k f):∃ y∈l,x=y\/x=f y:=by
 obtain⟨i,a,rfl⟩:=eZ.mp h;rw[List.getElem_modify];have b:i<l.length:=by simpa using a
 split
 ·exact⟨l[i],iO _,.inr rfl⟩
 ·exact⟨l[i],iO _,.inl rfl⟩
def Tiles.one:∀{l:List Pn}{a b:Nat},Tiles l a b->a<b->l.length<=1->∃ p,l=[(a,b-a,p)]
 | [],a,b,h,c,_=>by have:a=b:=h;omega
 | [(s,n,p)],a,b,h,c,_=>by
  obtain⟨h1,f,d⟩:=h;have h1:s=a:=h1;have d:a+n=b:=d;refine⟨p,?_⟩;rw[h1,show n=b-a by omega]
 | _::_::_,a,b,h,c,z=>by simp at z
section
variable {M:yu} {A:gh} {E:ar->ay->Prop} {s:ay} {lb:bq->bq->Bool} {D:bq->Prop} {kd:nj}
def SI.len{c:Array bq}{st:eP}{lo:Nat}(h:SI lb kd c st lo):(de st).size<=lo:=by
 have:∀(l:List Pn)(a b:Nat),Tiles l a b->a+l.length<=b:=by
  intro l
  induction l with
  | nil=>intro a b h;rw[show a=b from h];simp
  | cons x r ih =>
   intro a b h;have:=ih _ _ h.2.2;have:=h.2.1;rw[iC];omega
 have:=this _ _ _ h.tiles;simpa using this
theorem SI.push{b:Array bq}{st:eP}{lo n:Nat}(h:SI lb kd b st lo)(f:0<n)(c:lo+n<=b.size)(d:jO lb ((df st).extract lo (lo+n)).toList) :
  SI lb kd b (setPending st ((de st).push (lo,n,0))) (lo+n):=by
 refine⟨h.kind,h.failed,h.perm,?_,c,?_⟩
 ·show Tiles ((de st).push (lo,n,0)).toList 0 (lo+n)
  rw[uw];exact h.tiles.snoc rfl f
 ·intro x a
  have a:x∈((de st).push (lo,n,0)).toList:=a;rw[uw]at a;rcases ck.mp a with z | z
  ·exact h.runs x z
  ·have:x=(lo,n,0):=by simpa using z
   rw[this];exact d
def SI.mod{b:Array bq}{st:eP}{lo:Nat}(h:SI lb kd b st lo)(k c:Nat):SI lb kd b (setPending st ((de st).modify k λ(x:Pn)=>(x.1,x.2.1,c))) lo:=by
 refine⟨h.kind,h.failed,h.perm,?_,h.top,?_⟩
 ·show Tiles ((de st).modify k _).toList 0 lo
  rw[DF];exact Tiles.repl k _ (λ x=>⟨rfl,rfl⟩) h.tiles
 ·intro x a
  have a:x∈((de st).modify k λ(x:Pn)=>(x.1,x.2.1,c)).toList:=a;rw[DF]at a;obtain⟨y,d,e⟩:=kPQ a;have r:=h.runs y d;rcases e with rfl | rfl
  ·exact r
  ·exact r
def SI.tail{c:Array bq}{st a:eP}{lo n:Nat}(h:SI lb kd c st lo)(b:Sa st a)(f:lo+n<=c.size)(j:Joined lb (df st) (df a) lo n):SI lb kd c a lo:=by
 have sz:=h.size;refine⟨b.1.trans h.kind,b.2.2.trans h.failed,(j.perm (by omega)).trans h.perm,by rw[b.2.1];exact h.tiles,h.top,λ x d=>?_⟩;rw[b.2.1]at d;have:=h.tiles.in x d;rw[j.low (by omega) (by omega)];exact h.runs x d
def kAE(W:Wk lb)(N:vZ M A E s lb D kd){st:eP}(hk:kindOf st=kd)(hf:ur st=none)(hp:de st = #[])(dd:∀ x∈(df st).toList,D x){Q:Unit->eP->Prop}
  (h:∀ st',(df st').toList.Perm (df st).toList->ur st'=none->jO lb (df st').toList->Q () st'):wpS M A E s sortRuns' Q st:=by
 rw[sortRuns'_eq];refine cj (zk ?_);dsimp only;generalize a5:(df st).size=size;generalize a6:minRun' size size 0=mr
 refine cj (uq (jq
  (I:=λ x c st'=>∃ lo,c=(none,lo)/\SI lb kd (df st) st' lo/\(x<=lo\/lo=size))
  (Q:=λ c st'=>c=(none,size)/\SI lb kd (df st) st' size) ?step ?fin ⟨0,rfl,⟨hk,hf,AD _,by rw[hp];rfl,iA _,by rw[hp];simp⟩,.inl (be _)⟩) ?post)
 case fin =>
  rintro c st' ⟨lo,rfl,d,v⟩
  have:lo=size:=by
   rcases v with v | v
   ·have:=d.top;omega
   ·exact v
  subst this;exact⟨rfl,d⟩
 case step =>
  rintro x c st' _ v ⟨lo,rfl,d,a4⟩;dsimp only;have top:=d.top;have a7:=d.size;by_cases O:lo >= size
  ·rw[if_pos O]
   have:lo=size:=by omega
   subst this;exact di ⟨rfl,d⟩
  rw[if_neg O];have a0:∀{o:eP},SI lb kd (df st) o lo->∀ x∈(df o).toList,D x:=λ h x v=>dd x (h.perm.mem_iff.mp v);refine cj (rN W N d.kind (a0 d) (by omega) (by omega) λ m o G m1 m2 j2=>?_);dsimp only;have j:=d.tail G (by omega) j2;have u:=j2.here (by omega);have T:=j.size;have bin:∀ n,n=min (size-lo) mr->m<mr->m<=n/\0<n/\lo+n<=size:=λ n e h=>by omega
  by_cases q:m<mr
  ·rw[if_pos q]
   refine cj (wO ?_);generalize hn:min (size-lo) mr=n;obtain⟨mn,Y,a3⟩:=bin n hn.symm q;refine cj (kDB W N j.kind (a0 j) mn (by omega) u λ a2 Z j3=>?_);simp only[yy,eN,if_false];have U:=j.tail Z (by omega) j3;have X:=j3.here (by omega);clear u j j2 G j3 Z T m1 m2 mn q hn bin;clear m o;refine cj (zk ?_)
   cases S:(de a2).back? with
   | none =>
    dsimp only;exact cj (om (di ⟨lo+n,rfl,U.push Y (by omega) X,by omega⟩))
   | some z =>
    obtain⟨J,C,z1⟩:=z;dsimp only;generalize power' size (2*J+C) (2*J+C+C+n) size=L
    refine cj (uq (jq (I:=λ _ c st'=>c=(none,())/\SI lb kd (df st) st' lo/\jO lb ((df st').extract lo (lo+n)).toList)
     (Q:=λ c st'=>c=(none,())/\SI lb kd (df st) st' lo/\jO lb ((df st').extract lo (lo+n)).toList) ?_ (λ _ _ hh=>hh) ⟨rfl,U,X⟩) ?_)
    ·rintro y c a _ hy ⟨rfl,g,f⟩
     refine cj (zk ?_);by_cases h1:(de a).size>1
     ·rw[if_pos h1,getElem?_pos (de a) ((de a).size-2) (by omega)]
      generalize(de a)[(de a).size-2]'(by omega)=zz;obtain⟨y1,y2,y3⟩:=zz;dsimp only;by_cases H:y3<=L
      ·rw[if_pos H]
       exact di ⟨rfl,g,f⟩
      ·rw[if_neg H]
       refine cj (aP W N dd g (by omega) λ a1 l h5 e5=>?_);simp only[yy,eN,if_false];exact di ⟨rfl,l,by rw[e5 _ _ (be _)];exact f⟩
     ·rw[if_neg h1]
      exact di ⟨rfl,g,f⟩
    ·rintro c a ⟨rfl,g,f⟩
     dsimp only;refine cj (om ?_);have l:=g.mod ((de a).size-1) L;exact cj (om (di ⟨lo+n,rfl,l.push Y (by omega) f,by omega⟩))
  ·rw[if_neg q]
   have a3:lo+m<=size:=by omega
   have Y:0<m:=by omega
   clear bin q m2 m1 j2 T G;refine cj (zk ?_)
   cases S:(de o).back? with
   | none =>
    dsimp only;exact cj (om (di ⟨lo+m,rfl,j.push Y (by omega) u,by omega⟩))
   | some z =>
    obtain⟨J,C,z1⟩:=z;dsimp only;generalize power' size (2*J+C) (2*J+C+C+m) size=L
    refine cj (uq (jq (I:=λ _ c st'=>c=(none,())/\SI lb kd (df st) st' lo/\jO lb ((df st').extract lo (lo+m)).toList)
     (Q:=λ c st'=>c=(none,())/\SI lb kd (df st) st' lo/\jO lb ((df st').extract lo (lo+m)).toList) ?_ (λ _ _ hh=>hh) ⟨rfl,j,u⟩) ?_)
    ·rintro y c a _ hy ⟨rfl,g,f⟩
     refine cj (zk ?_);by_cases h1:(de a).size>1
     ·rw[if_pos h1,getElem?_pos (de a) ((de a).size-2) (by omega)]
      generalize(de a)[(de a).size-2]'(by omega)=zz;obtain⟨y1,y2,y3⟩:=zz;dsimp only;by_cases H:y3<=L
      ·rw[if_pos H]
       exact di ⟨rfl,g,f⟩
      ·rw[if_neg H]
       refine cj (aP W N dd g (by omega) λ a1 l h5 e5=>?_);simp only[yy,eN,if_false];exact di ⟨rfl,l,by rw[e5 _ _ (be _)];exact f⟩
     ·rw[if_neg h1]
      exact di ⟨rfl,g,f⟩
    ·rintro c a ⟨rfl,g,f⟩
     dsimp only;refine cj (om ?_);have l:=g.mod ((de a).size-1) L;exact cj (om (di ⟨lo+m,rfl,l.push Y (by omega) f,by omega⟩))
 case post =>
  rintro c st' ⟨rfl,d⟩;dsimp only
  have B:∀ st',SI lb kd (df st) st' size->(de st').size<=1->Q () st':=λ st' d hl=>by
   refine h st' d.perm d.failed ?_;by_cases z:0<size
   ·obtain⟨p,e⟩:=d.tiles.one z (by simpa using hl)
    have r:=d.runs (0,size-0,p) (by rw[e];simp);have r:jO lb ((df st').extract 0 (0+(size-0))).toList:=r;have e1:=d.size;rw[show 0+(size-0)=(df st').size by omega,Array.extract_size]at r;exact r
   ·have:(df st').toList=[]:=og.mp (by rw[iD];have:=d.size;omega)
    rw[this];exact Bj
  refine cj (uq (jq (I:=λ x c st'=>c=(none,())/\SI lb kd (df st) st' size/\(de st').size+x<=max (size+1) (1+x))
   (Q:=λ c st'=>c=(none,())/\SI lb kd (df st) st' size/\(de st').size<=1) ?_ ?_ ⟨rfl,d,by have:=d.len;omega⟩) ?_)
  ·rintro x c st' _ v ⟨rfl,d,S⟩
   refine cj (zk ?_);by_cases h1:(de st').size<=1
   ·rw[if_pos h1]
    exact di ⟨rfl,d,h1⟩
   rw[if_neg h1];have hg:∀ b:Bool,(if b=true then(de st').size-2-1 else(de st').size-2)+1<(de st').size:=λ b=>by split<;>omega
   replace hg:=hg (Option.any (λ x=>decide (x<((de st')[(de st').size-2+1]?.elim 0 λ x=>x.snd.fst))) (if(de st').size-2>0 then GZ (λ x=>x.snd.fst) (de st')[(de st').size-2-1]? else none))
   generalize(if(if(de st').size-2>0 then GZ (λ x=>x.snd.fst) (de st')[(de st').size-2-1]? else none).any _=true then(de st').size-2-1 else(de st').size-2)=i at hg ⊢;refine cj (aP W N dd d hg λ o j H _=>?_);simp only[yy,eN,if_false];exact di ⟨rfl,j,by omega⟩
  ·rintro c st' ⟨rfl,d,S⟩
   exact⟨rfl,d,by omega⟩
  ·rintro c st' ⟨rfl,d,S⟩
   exact di (B _ d S)
end
open PySem PySem.W PyProof.Rows
def lexLt:List Int->List Int->Bool
 | [],[]=>false
 | [],_::_=>true
 | _::_,[]=>false
 | a::x,b::y=>if a=b then lexLt x y else decide (a<b)
theorem lex_irr:∀ x,lexLt x x=false
 | []=>rfl
 | a::x=>by rw[lexLt,if_pos rfl];exact lex_irr x
theorem lex_tr:∀ x y z,lexLt x y=true->lexLt y z=true->lexLt x z=true
 | [],[],_,h,_=>nomatch h
 | [],_::_,[],_,h=>nomatch h
 | [],_::_,_::_,_,_=>rfl
 | _::_,[],_,h,_=>nomatch h
 | _::_,_::_,[],_,h=>nomatch h
 | a::x,b::y,c::z,h,k=>by
  rw[lexLt]at *;by_cases e:a=b
  ·subst e
   rw[if_pos rfl]at h;by_cases d:a=c
   ·subst d
    rw[if_pos rfl]at k ⊢;exact lex_tr x y z h k
   ·rw[if_neg d]at k ⊢
    exact k
  ·rw[if_neg e]at h
   by_cases d:b=c
   ·subst d
    rw[if_neg e];exact h
   ·rw[if_neg d]at k
    have h:=of_decide_eq_true h;have k:=of_decide_eq_true k;rw[if_neg (by omega)];exact decide_eq_true (by omega)
theorem lex_neg:∀ x y z,lexLt x z=true->lexLt x y=true\/lexLt y z=true
 | [],[],z,h=>.inr h
 | [],_::_,z,h=>.inl rfl
 | _::_,_,[],h=>nomatch h
 | _::_,[],_::_,h=>.inr rfl
 | a::x,b::y,c::z,h=>by
  rw[lexLt]at *;by_cases e:a=c
  ·subst e
   rw[if_pos rfl]at h;by_cases d:a=b
   ·subst d
    rw[if_pos rfl,lexLt,if_pos rfl];exact lex_neg x y z h
   ·rw[if_neg d,lexLt,if_neg (λ q=>d q.symm)]
    by_cases l:a<b
    ·exact .inl (decide_eq_true l)
    ·exact .inr (decide_eq_true (by omega))
  ·rw[if_neg e]at h
   have h:=of_decide_eq_true h;by_cases d:a=b
   ·subst d
    rw[lexLt,if_neg e];exact .inr (decide_eq_true h)
   ·rw[if_neg d]
    by_cases l:a<b
    ·exact .inl (decide_eq_true l)
    ·rw[lexLt,if_neg (by omega)]
     exact .inr (decide_eq_true (by omega))
theorem lex_tot:∀ x y,lexLt x y=false->lexLt y x=false->x=y
 | [],[],_,_=>rfl
 | [],_::_,h,_=>nomatch h
 | _::_,[],_,h=>nomatch h
 | a::x,b::y,h,k=>by
  rw[lexLt]at *;by_cases e:a=b
  ·subst e
   rw[if_pos rfl]at h k;rw[lex_tot x y h k]
  ·rw[if_neg e]at h
   rw[if_neg (λ q=>e q.symm)]at k;have h:=of_decide_eq_false h;have k:=of_decide_eq_false k;omega
def keyOf(h:iK):ar->List Int
 | .ref a=>match h.get? a with
  | some o=>match o.data with
   | .seq xs _=>xs.toList.map numOf
   | _=>[]
  | none=>[]
 | _=>[]
def lbT(h:iK)(x y:bq):Bool:=lexLt (keyOf h x.1) (keyOf h y.1)
def kSR(h:iK):Wk (lbT h):=⟨λ a=>lex_irr _,λ a b c=>lex_neg _ _ _,λ a b c=>lex_tr _ _ _⟩
def lbI(x y:bq):Bool:=decide (numOf x.1<numOf y.1)
def kSS:Wk lbI:=⟨λ a=>by unfold lbI;simp,λ a b c h=>by
  unfold lbI at *;have:=of_decide_eq_true h;by_cases l:numOf a.1<numOf b.1
  ·exact .inl (decide_eq_true l)
  ·exact .inr (decide_eq_true (by omega)),λ a b c h k=>by
  unfold lbI at *;have:=of_decide_eq_true h;have:=of_decide_eq_true k;exact decide_eq_true (by omega)⟩
def TupI(h:iK)(v:ar):Prop:=∃ a o b n,v=.ref a/\h.get? a=some o/\o.cls=.type "tuple"/\o.data=.seq b n/\(∀ u∈b.toList,∃ k t,u=.int k t)/\0<b.size
def TupI.kept{h h':iK}{v:ar}(x:TupI h v)(k:∀ a o,o.cls=.type "tuple"->h.get? a=some o->h'.get? a=some o):TupI h' v/\keyOf h' v=keyOf h v:=by
 obtain⟨a,o,d,n,rfl,c,b,g,f,i⟩:=x;refine⟨⟨a,o,d,n,rfl,k _ _ b c,b,g,f,i⟩,?_⟩;unfold keyOf;simp only[c,k _ _ b c]
def TupI.key{h:iK}{a:au}{o:Obj}{xs:Array ar}{n:Nat}(c:h.get? a=some o)(b:o.data=.seq xs n):keyOf h (.ref a)=xs.toList.map numOf:=by
 unfold keyOf;simp only[c,b]
section
variable {prog:eY} {w:iG} {A:gh} {E:ar->ay->Prop} {s:ay}
theorem kCD{Q:Bool->ay->Prop}:∀(xs ys:List ar)(i:Nat),(∀ u∈xs,∃ k t,u=ug k t)->(∀ u∈ys,∃ k t,u=ug k t)->Q (lexLt (xs.map numOf) (ys.map numOf)) s->KatLex prog w A true (decide (xs.length<ys.length)) Q (xs.zip ys) i s
 | [],[],i,_,_,h=>by exact h
 | [],_::_,i,_,_,h=>by exact h
 | _::_,[],i,_,_,h=>by exact h
 | x::xs,y::ys,i,hx,hy,h=>by
  obtain⟨a,t,rfl⟩:=hx x (fc ..);obtain⟨b,u,rfl⟩:=hy y (fc ..);rw[BV,show decide ((ug a t::xs).length<(ug b u::ys).length)=decide (xs.length<ys.length) by simp];refine kat_cons (EB ?_);have h:Q (if a=b then lexLt (xs.map numOf) (ys.map numOf) else decide (a<b)) s:=h;by_cases e:a=b
  ·rw[if_pos e]at h
   rw[beq_iff_eq.mpr e];exact kat_yes (kCD xs ys (i+1) (λ u c=>hx u (eD _ c)) (λ u c=>hy u (eD _ c)) h)
  ·rw[if_neg e]at h
   rw[beq_eq_false_iff_ne.mpr e];refine kat_no ?_;rw[Bool.true_and]
   cases i == 0 with
   | true=>exact oneLt_int h
   | false=>exact kat_one _ _ (GT h)
def kJH:vZ (model prog w) A E s (lbT s.heap) (λ x=>TupI s.heap x.1) (tuples' true):=by
 intro x y B p st Q r q;obtain⟨a,I,c,n,h,f,D,j,o,J⟩:=B;obtain⟨b,H,d,m,i,g,C,l,v,G⟩:=p;rw[lt'_eq];refine cj (zk ?_);rw[r]
 have q:Q (some (lexLt (c.toList.map numOf) (d.toList.map numOf))) st:=by
  have:lbT s.heap x y=lexLt (c.toList.map numOf) (d.toList.map numOf):=by
   unfold lbT;rw[h,i,TupI.key f j,TupI.key g l]
  rw[<-this];exact q
 rw[h,i];refine cj (GQ (yz (kat_lt f j g l ?_)))
 have:=kCD (prog:=prog) (w:=w) (A:=A) (s:=s) (Q:=λ b u=>u=s/\wpS (model prog w) A E s (match(Except.ok b:Except ar Bool) with
  | .ok b=>pure (some b)
  | .error e=>do
   modify (λ s=>CU (kindOf s) (df s) (de s) (gallopOf s) (some e))
   pure none) Q st) c.toList d.toList 0 o v ⟨rfl,di q⟩
 simpa using this
def kJI:vZ (model prog w) A E s lbI (λ x=>∃ k t,x.1=.int k t) oneType':=by
 intro x y f g st Q h q;obtain⟨a,t,c⟩:=f;obtain⟨b,u,d⟩:=g;rw[lt'_eq];refine cj (zk ?_);rw[h,c,d];unfold lbI at q;rw[c,d]at q;exact cj (GQ (yz (kat_lt_int ⟨rfl,di q⟩)))
end
end Srt
namespace Fc
open Cyc Tri Rnd
section
variable {α:Type} {le:α->α->Bool}
theorem uK(c:∀ a b,le a b=true->le b a=true->a=b):∀{l m:List α},l.Perm m->l.Pairwise (λ a b=>le a b=true)->m.Pairwise (λ a b=>le a b=true)->l=m
 | [],m,p,_,_=>(List.nil_perm.mp p).symm
 | a::l,m,p,hl,hm=>by
  match m,p,hm with
  | [],p,_=>exact absurd p.length_eq (by simp)
  | b::m,p,hm =>
   have f:=BU.mp hl;have d:=BU.mp hm
   have e:a=b:=by
    rcases eK.mp (p.mem_iff.mp (fc ..)) with z | z
    ·exact z
    ·rcases eK.mp (p.mem_iff.mpr (fc ..)) with y | y
     ·exact y.symm
     ·exact c a b (f.1 b y) (d.1 a z)
   subst e;rw[uK c (List.Perm.cons_inv p) f.2 d.2]
def kFW(g:∀ a b c,le a b=true->le b c=true->le a c=true)(f:∀ a b,(le a b || le b a)=true)(d:∀ a b,le a b=true->le b a=true->a=b){l m:List α}(p:l.Perm m)(h:l.Pairwise (λ a b=>le a b=true)):l=m.mergeSort le :=
 uK d (p.trans (Ax m le).symm) h (List.pairwise_mergeSort g f m)
end
def leP(a b:Nat×Nat):Bool:=decide (a.1<b.1\/a.1=b.1/\a.2<=b.2)
def bZ{a b:Nat×Nat}:leP a b=true↔a.1<b.1\/a.1=b.1/\a.2<=b.2:=decide_eq_true_iff
def sortP(T:List (Nat×Nat)):List (Nat×Nat):=T.mergeSort leP
def sortP_is{l m:List (Nat×Nat)}(p:l.Perm m)(h:l.Pairwise (λ a b=>leP a b=true)):l=sortP m :=
 kFW (λ a b c h k=>by rw[bZ]at *;omega) (λ a b=>by
  rw[Ci,bZ,bZ];omega) (λ a b h k=>by
  rw[bZ]at h k;exact wb (by omega) (by omega)) p h
def sortP_perm(T:List (Nat×Nat)):(sortP T).Perm T:=Ax T leP
def zl(l:List Nat):List Int:=l.map λ n:Nat=>(n:Int)
theorem zl_inj:∀{a b:List Nat},zl a=zl b->a=b
 | [],[],_=>rfl
 | [],_::_,h=>nomatch h
 | _::_,[],h=>nomatch h
 | a::l,b::m,h=>by
  unfold zl at h;rw[gm,gm]at h;injection h with h1 h2
  rw[zl_inj (a:=l) (b:=m) h2,show a=b by omega]
def leL(a b:List Nat):Bool:=!Srt.lexLt (zl b) (zl a)
def leL_iff{a b:List Nat}:leL a b=true↔Srt.lexLt (zl b) (zl a)=false:=by
 unfold leL
 cases Srt.lexLt (zl b) (zl a)<;>simp
def sortL(T:List (List Nat)):List (List Nat):=T.mergeSort leL
def kSQ(a b c:List Nat)(h:leL a b=true)(k:leL b c=true):leL a c=true:=by
 rw[leL_iff]at *
 cases e:Srt.lexLt (zl c) (zl a) with
 | false=>rfl
 | true =>
  rcases Srt.lex_neg _ (zl b) _ e with z | z
  ·rw[k]at z;cases z
  ·rw[h]at z;cases z
def kPT(a b:List Nat):(leL a b || leL b a)=true:=by
 rw[Ci,leL_iff,leL_iff]
 cases e:Srt.lexLt (zl b) (zl a) with
 | false=>exact .inl rfl
 | true =>
  right
  cases f:Srt.lexLt (zl a) (zl b) with
  | false=>rfl
  | true =>
   have:=Srt.lex_tr _ _ _ e f;rw[Srt.lex_irr]at this;cases this
def kMZ(a b:List Nat)(h:leL a b=true)(k:leL b a=true):a=b:=by
 rw[leL_iff]at h k;exact zl_inj (Srt.lex_tot _ _ k h)
def sortL_is{l m:List (List Nat)}(p:l.Perm m)(h:l.Pairwise (λ a b=>leL a b=true)):l=sortL m:=kFW kSQ kPT kMZ p h
def vF(T:List (List Nat)):(sortL T).Perm T:=Ax T leL
def leP_leL(a b:Nat×Nat):leL [a.1,a.2] [b.1,b.2]=leP a b:=by
 rw[iQ,leL_iff,bZ];show Srt.lexLt [(b.1:Int),(b.2:Int)] [(a.1:Int),(a.2:Int)]=false↔_;unfold Srt.lexLt;by_cases e:(b.1:Int)=a.1
 ·rw[if_pos e]
  unfold Srt.lexLt;by_cases f:(b.2:Int)=a.2
  ·rw[if_pos f]
   exact⟨λ _=>by omega,λ _=>rfl⟩
  ·rw[if_neg f]
   rw[decide_eq_false_iff_not];omega
 ·rw[if_neg e]
  rw[decide_eq_false_iff_not];omega
open Classical in
noncomputable def per(W:Rows)(t:Nat×Nat):Nat:=if h:∃ k,0<k/\it (nxt W) k t=t/\∀ j,0<j->j<k->it (nxt W) j t≠t then we h else 0
def per_is{W:Rows}{t:Nat×Nat}{k:Nat}(h0:0<k)(h1:it (nxt W) k t=t)(f:∀ j,0<j->j<k->it (nxt W) j t≠t):per W t=k:=by
 have d:∃ k,0<k/\it (nxt W) k t=t/\∀ j,0<j->j<k->it (nxt W) j t≠t:=⟨k,h0,h1,f⟩;unfold per;rw[dif_pos d];obtain⟨a,b,c⟩:=qh d;generalize we d=m at *;rcases xj m k with l | l | l
 ·exact absurd b (f m a l)
 ·exact l
 ·exact absurd h1 (c k h0 l)
noncomputable def rnd(W:Rows)(t:Nat×Nat):List (Nat×Nat):=(cq (per W t)).map λ i=>it (nxt W) i t
noncomputable def fstep(W:Rows)(st:List (List Nat)×List (Nat×Nat))(t:Nat×Nat):List (List Nat)×List (Nat×Nat) :=
 if t∈st.2 then st else(st.1++[(rnd W t).map (·.1)],st.2++rnd W t)
noncomputable def fgo(W:Rows)(S:List (Nat×Nat)):List (List Nat)×List (Nat×Nat):=S.foldl (fstep W) ([],[])
def fgo_snoc(W:Rows)(S:List (Nat×Nat))(t:Nat×Nat):fgo W (S++[t])=fstep W (fgo W S) t:=by
 unfold fgo;rw[Du]
 rfl
def stepsS(W:Rows):List (Nat×Nat):=sortP (kS W)
def tiesS(W:Rows):List (Nat×Nat):=(stepsS W).filter λ t=>decide (t.1<t.2)
noncomputable def uP(W:Rows):List (List Nat):=(fgo W (stepsS W)).1
noncomputable def facesS(W:Rows):List (List Nat):=sortL (uP W)
def mem_stepsS{W:Rows}{t:Nat×Nat}:t∈stepsS W↔E W t.1 t.2:=by
 unfold stepsS;rw[(sortP_perm _).mem_iff];exact mem_steps
section
variable {W:Rows} (S:Nb W)
def tL(S:Nb W):Rnd.Perm (nxt W) (kS W):=mM S.nd S.sym
def sR(S:Nb W){t:Nat×Nat}(h:t∈kS W):0<per W t/\per W t<=(kS W).length/\it (nxt W) (per W t) t=t/\∀ j,0<j->j<per W t->it (nxt W) j t≠t:=by
 obtain⟨k,h1,c,a,b⟩:=(tL S).comes h;have e:=per_is h1 a b;rw[e];exact⟨h1,c,a,b⟩
def kIU(S:Nb W){t:Nat×Nat}(h:t∈kS W):(rnd W t).Nodup:=(tL S).round_nodup h (sR S h).2.2.2
def rnd_len(W:Rows)(t:Nat×Nat):(rnd W t).length=per W t:=by unfold rnd;simp
def rnd_sub(S:Nb W){t u:Nat×Nat}(h:t∈kS W)(a:u∈rnd W t):u∈kS W:=by
 unfold rnd at a;obtain⟨i,_,rfl⟩:=iJ.mp a;exact(tL S).it i h
def bW(S:Nb W){t u:Nat×Nat}(h:t∈kS W):u∈rnd W t↔∃ j,it (nxt W) j t=u:=by
 obtain⟨p0,_,back,_⟩:=sR S h;unfold rnd;rw[iJ];constructor
 ·rintro⟨i,_,e⟩
  exact⟨i,e⟩
 ·rintro⟨j,e⟩
  refine⟨j % per W t,jt.mpr (Nat.mod_lt _ p0),?_⟩;rw[<-kNC _ _ back];exact e
def rnd_self(S:Nb W){t:Nat×Nat}(h:t∈kS W):t∈rnd W t:=(bW S h).mpr ⟨0,rfl⟩
def kBI(S:Nb W){t u:Nat×Nat}(h:t∈kS W)(a:u∈rnd W t):nxt W u∈rnd W t:=by
 obtain⟨j,rfl⟩:=(bW S h).mp a;exact(bW S h).mpr ⟨j+1,rfl⟩
structure FI(W:Rows)(T:List (Nat×Nat))(st:List (List Nat)×List (Nat×Nat)):Prop where
 reps:∃ R:List (Nat×Nat),(∀ r∈R,r∈T)/\st.1=R.map (λ r=>(rnd W r).map (·.1))/\st.2=R.flatMap (rnd W)
 nd:st.2.Nodup
 sub:∀ t∈st.2,t∈kS W
 cl:∀ t∈st.2,nxt W t∈st.2
 cov:∀ t∈T,t∈st.2
def FI.start(W:Rows):FI W [] ([],[]):=⟨⟨[],by simp,rfl,rfl⟩,yk,by simp,by simp,by simp⟩
theorem FI.it{T:List (Nat×Nat)}{st:List (List Nat)×List (Nat×Nat)}(h:FI W T st){t:Nat×Nat}(a:t∈st.2)(j:Nat):it (nxt W) j t∈st.2:=by
 induction j with
 | zero=>exact a
 | succ j ih=>exact h.cl _ ih
def FI.step(S:Nb W){T:List (Nat×Nat)}{st:List (List Nat)×List (Nat×Nat)}(h:FI W T st){t:Nat×Nat}(f:t∈kS W):FI W (T++[t]) (fstep W st t):=by
 unfold fstep;obtain⟨R,l,m,r3⟩:=h.reps
 split
 ·rename_i c
  refine⟨⟨R,λ r g=>dw _ (l r g),m,r3⟩,h.nd,h.sub,h.cl,λ u d=>?_⟩;rcases ck.mp d with z | z
  ·exact h.cov u z
  ·rw[bu.mp z]
   exact c
 ·rename_i c
  have i:∀ a∈st.2,∀ b∈rnd W t,a≠b:=λ a o b n e=>by
   subst e;obtain⟨j,rfl⟩:=(bW S f).mp n;obtain⟨p0,_,back,_⟩:=sR S f
   have:Rnd.it (nxt W) (per W t*(j+1)-j) (Rnd.it (nxt W) j t)=t:=by
    have le:j<=per W t*(j+1):=je (Ae j) (Nat.le_mul_of_pos_left _ p0);rw[<-bA,tz le,kNC _ _ back,Nat.mul_mod_right]
    rfl
   rw[<-this]at c;exact c (h.it o _)
  refine⟨⟨R++[t],λ r g=>?_,by rw[cy,m];rfl,by rw[kb,r3,qw]⟩,?_,λ u d=>?_,λ u d=>?_,λ u d=>?_⟩
  ·rcases ck.mp g with z | z
   ·exact dw _ (l r z)
   ·exact dj _ z
  ·exact dc.mpr ⟨h.nd,kIU S f,i⟩
  ·rcases ck.mp d with z | z
   ·exact h.sub u z
   ·exact rnd_sub S f z
  ·rcases ck.mp d with z | z
   ·exact dw _ (h.cl u z)
   ·exact dj _ (kBI S f z)
  ·rcases ck.mp d with z | z
   ·exact dw _ (h.cov u z)
   ·rw[bu.mp z]
    exact dj _ (rnd_self S f)
def fgo_ok(S:Nb W):∀(T:List (Nat×Nat)),(∀ t∈T,t∈kS W)->FI W T (fgo W T):=by
 intro T
 have:∀(n:Nat),n<=T.length->(∀ t∈T,t∈kS W)->FI W (T.take n) (fgo W (T.take n)):=λ n=>by
  induction n with
  | zero=>intro _ _;rw[yo];exact FI.start W
  | succ n ih =>
   intro b a;have h:=ih (by omega) a;have e:T.take (n+1)=T.take n++[T[n]]:=by rw[iL,ae (by omega)];rfl
   rw[e,fgo_snoc];exact h.step S (a _ (iO _))
 intro a;have:=this T.length (be _) a;rwa[gn]at this
def FI.len{T:List (Nat×Nat)}{st:List (List Nat)×List (Nat×Nat)}(h:FI W T st):st.2.length<=(kS W).length:=eO h.nd h.sub
end
end Fc
namespace Srt
set_option autoImplicit false
open PySem PySem.W PyProof.Rows
def kOJ(lb:bq->bq->Bool)(l:List ar):Prop:=l.Pairwise λ u v=>le lb (u,u) (v,v)
def kSI{lb:bq->bq->Bool}{c:List ar}{l:List bq}(p:l.Perm (c.zip c))(f:jO lb l):(l.map (·.2)).Perm c/\kOJ lb (l.map (·.2)):=by
 have same:∀ x∈l,x=(x.2,x.2):=λ x d=>by
  have:=(mem_zip_self (p.mem_iff.mp d)).1;obtain⟨a,b⟩:=x;have:a=b:=this;rw[this]
 refine⟨?_,?_⟩
 ·have:=p.map (λ x:bq=>x.2)
  rwa[show(c.zip c).map (λ x:bq=>x.2)=c from AW (be _)]at this
 ·refine md.mpr (f.imp_of_mem λ{x y} d g h=>?_)
  rw[<-same x d,<-same y g];exact h
section
variable {prog:eY} {w:iG} {A:gh} {E:ar->ay->Prop} {s:ay}
def kLP{lb:bq->bq->Bool}{D:bq->Prop}{kd:nj}(W:Wk lb){a:au}{c:List ar}{n:Nat}{P:ui->ay->Prop}(r:s.heap.get? a=some (seqObj "list" c.toArray n))(hz:c.length<=sizeLine)
  (I:2<=c.length->∀(i:iK),(∀ b o,o.cls≠.type "list"->s.heap.get? b=some o->i.get? b=some o)->∀ Q:nj->ay->Prop,Q kd {s with heap:=i}->dq (model prog w) A (keyKind' c.toArray) Q E {s with heap:=i})
  (O:∀(i:iK),(∀ b o,o.cls≠.type "list"->s.heap.get? b=some o->i.get? b=some o)->vZ (model prog w) A E {s with heap:=i} lb D kd) (U:∀ v∈c,D (v,v))
  (h:∀ out:List ar,out.Perm c->kOJ lb out->P (.done (.ret .none)) {s with heap:=sortedHeap s.heap a c out.toArray}) :
  dq (model prog w) A (zi.«list.sort» ⟨[.ref a],[]⟩) P E s:=by
 rw[list_sort_plain];have ha:a<s.heap.objs.size:=cf r;refine ai (Dv r rfl (ai (Bq r rfl ?_ (by simpa using hz) (iA _))));obtain⟨H,p⟩ : ∃ H,(s.heap.update a (so λ _=>#[])).get? a=some (seqObj "list" #[] H):=⟨_,Aq r (λ _=>#[])⟩;refine ai (EN p rfl (ai (Ct (ai (DK (km ?_) (iA _))) (by simpa using hz))));generalize B:((s.heap.update a (so λ _=>#[])).push (seqObj "tuple" c.toArray 0)).push (seqObj "list" #[] 0)=G
 have f:G.get? a=some (seqObj "list" #[] H):=by
  rw[<-B];exact ao _ (ao _ p)
 have L:∀ b o,o.cls≠.type "list"->s.heap.get? b=some o->G.get? b=some o:=λ b o S e=>by
  have Z:b≠a:=λ q=>by
   subst q;rw[r]at e;exact S (by cases e;rfl)
  rw[<-B];refine ao _ (ao _ ?_);rw[yr _ _ _ _ Z];exact e
 have heap:∀ out:List ar,sortedHeap s.heap a c out.toArray=G.update a (so λ _=>out.toArray):=λ out=>by rw[<-B];rfl
 have eS:∀ X Y:Sem ui,X=Y->dq (model prog w) A X P E {s with heap:=G}->dq (model prog w) A Y P E {s with heap:=G}:=λ X Y e h=>e ▸ h
 have l:∀ d:eP,ur d=none->(df d).toList.Perm (c.zip c)->jO lb (df d).toList ->
   P (.done (.ret .none)) {s with heap:=G.update a (so λ _=>(df d).map (·.2))}:=λ d _ g J=>by
  have:=kSI g J;have q:=h _ this.1 this.2;rw[heap]at q;rw[show(df d).map (·.2)=((df d).toList.map (·.2)).toArray by rw[<-Array.toList_map]];exact q
 have m:∀{d:eP},(df d).toList.Perm (c.zip c)->((df d).map (·.2)).size<=sizeLine+1:=λ{d} g=>by
  have:=g.length_eq;rw[Array.size_map];simp at this;omega
 dsimp only;by_cases j:c.toArray.size<2
 ·rw[if_pos j,if_pos j]
  refine ai (bp ?_);rw[StateT.run_pure];refine ai (bp ?_)
  have g:(df (CU general' (c.toArray.zip c.toArray) #[] 7 none)).toList.Perm (c.zip c):=by
   show(c.toArray.zip c.toArray).toList.Perm _;simp
  refine ai (EN f rfl (ai (Bq f rfl ?_ (iA _) (m g))));dsimp only;simp only[bne_self_eq_false,eN,if_false];refine bp (l (CU general' (c.toArray.zip c.toArray) #[] 7 none) rfl g ?_)
  have:(c.zip c).length<=1:=by
   simp at j ⊢;omega
  show jO lb (c.toArray.zip c.toArray).toList;rw[show(c.toArray.zip c.toArray).toList=c.zip c by simp];exact sM this
 ·rw[if_neg j,if_neg j]
  refine ai (I (by simp at j;omega) G L _ ?_)
  refine ai (vd (kAE (s:={s with heap:=G}) W (O G L) (st:=CU kd (c.toArray.zip c.toArray) #[] 7 none) rfl rfl rfl (λ x y=>?_)
   (Q:=λ _ d=>(df d).toList.Perm (c.zip c)/\ur d=none/\jO lb (df d).toList) λ d T a2 a3=>⟨?_,a2,a3⟩) ?_ λ _ _ e=>e)
  ·have y:x∈(c.toArray.zip c.toArray).toList:=y
   rw[show(c.toArray.zip c.toArray).toList=c.zip c by simp]at y;obtain⟨C,N⟩:=mem_zip_self y;obtain⟨u,v⟩:=x;have C:u=v:=C;subst C;exact U u N
  ·refine T.trans ?_
   show(c.toArray.zip c.toArray).toList.Perm _;simp
  ·rintro⟨⟨⟩,d⟩ s' ⟨rfl,g,M,J⟩
   refine ai (EN f rfl (ai (Bq f rfl ?_ (iA _) (m g))));dsimp only;rw[M];simp only[bne_self_eq_false,eN,if_false];exact bp (l d M g J)
def kES{l:au}{o:Obj}{a:List ar}{n:Nat}{Q:List ar->ay->Prop}(j:s.heap.get? l=some o)(r:o.cls=.type "list"\/o.cls=.type "tuple")(y:o.data=.seq a.toArray n)(hz:a.length<=sizeLine)
  (h:∀ h1:iK,h1.objs.size=s.heap.objs.size+1->(∀ b u,s.heap.get? b=some u->h1.get? b=some u)->Q a {s with heap:=h1}):dq (model prog w) A (collect (.ref l)) Q E s:=by
 unfold collect;refine ai (wpAny_runValue (EW entry_proto_collect' ?_));show dq _ _ (newList [] >>= λ x=>again (.builtin "list.__iadd__" ⟨[x,.ref l],[]⟩)) _ _ s;refine ai (DK (bp ⟨Code.quiet_builtin _ (by decide +kernel),EW entry_list_iadd' ?_⟩) (iA _));generalize g:s.heap.push (seqObj "list" #[] 0)=G;have q:G.objs.size=s.heap.objs.size+1:=by rw[<-g,size_push']
 have f:∀ b u,s.heap.get? b=some u->G.get? b=some u:=λ b u e=>by rw[<-g];exact ao _ e
 have i:G.get? s.heap.objs.size=some (seqObj "list" #[] 0):=by rw[<-g];exact cg _ rfl
 show dq _ _ (BD (.ref s.heap.objs.size) (.ref l) (.ref s.heap.objs.size)) _ _ {s with heap:=G}
 unfold BD
 have c:dq (model prog w) A (load s.heap.objs.size >>= λ o=>match o.data with
   | .seq xs _=>pure xs.toList
   | _=>unsupported "internal:collect") Q E {s with heap:=G.update s.heap.objs.size (so (·++a.toArray))}:=by
  refine ai (wpAny_load (Aq i _) ?_);show dq _ _ (pure ((#[]:Array ar)++a.toArray).toList) Q E _;rw[show((#[]:Array ar)++a.toArray).toList=a by simp];refine bp (h _ (by rw[Heap.size_update,q]) λ b u e=>?_);rw[yr _ _ _ _ (dr (cf e))];exact f b u e
 have m:∃ T:String,o.cls=.type T/\(T = "list"\/T = "tuple"):=by
  rcases r with e | e
  ·exact⟨_,e,.inl rfl⟩
  ·exact⟨_,e,.inr rfl⟩
 obtain⟨T,v,d⟩:=m;refine ai (AA (T:=T) ⟨o,f l o j,v⟩ ?_)
 have p:(BG T == BG "list" || BG T == BG "tuple")=true:=by
  rcases d with rfl | rfl<;>rfl
 rw[if_pos (by rw[Bool.or_assoc,p,Bool.or_true])];refine ai (Dv (f l o j) y (ai (Dv (xs:=#[]) (n:=0) i rfl ?_)));rw[if_neg (by simp)];refine ai (Bq (xs:=#[]) (n:=0) i rfl ?_ (iA _) (by show(#[]++a.toArray).size<=sizeLine+1;rw[xt];simp;omega));exact bp c
def gZ{lb:bq->bq->Bool}{D:bq->Prop}{kd:nj}(W:Wk lb){l:au}{o:Obj}{f:List ar}{n:Nat}{Q:ar->ay->Prop}(O:s.heap.get? l=some o)(M:o.cls=.type "list"\/o.cls=.type "tuple")(T:o.data=.seq f.toArray n)(hz:f.length<=sizeLine)
  (p:2<=f.length->∀(r:gh)(x:ar->ay->Prop)(d:iK),(∀ b o,o.cls≠.type "list"->s.heap.get? b=some o->d.get? b=some o)->∀ Q:nj->ay->Prop,Q kd {s with heap:=d}->dq (model prog w) r (keyKind' f.toArray) Q x {s with heap:=d})
  (L:∀(r:gh)(x:ar->ay->Prop)(d:iK),(∀ b o,o.cls≠.type "list"->s.heap.get? b=some o->d.get? b=some o)->vZ (model prog w) r x {s with heap:=d} lb D kd) (N:∀ v∈f,D (v,v))
  (h:∀(a:List ar)(k:Nat)(h':iK),a.Perm f->kOJ lb a->(∀ b u,s.heap.get? b=some u->h'.get? b=some u)->h'.get? (s.heap.objs.size+1)=some (seqObj "list" a.toArray k)->Q (.ref (s.heap.objs.size+1)) {s with heap:=h'}) :
  dq (model prog w) A (call (.builtin "sorted") [.ref l]) Q E s:=by
 refine Calls.call_function_entry kind_sorted plain_sorted entry_sorted (args_sorted1 _) ?_;unfold zi.«sorted»;refine ai (m:=checkCount "sorted" 1 1 _) (bp (ai (kES O M T hz λ h1 g H=>?_)));refine ai (DK ?_ (by simpa using hz));generalize B:h1.push (seqObj "list" f.toArray 0)=G
 have i:G.get? (s.heap.objs.size+1)=some (seqObj "list" f.toArray 0):=by
  rw[<-B,<-g];exact cg _ rfl
 have j:∀ b u,s.heap.get? b=some u->G.get? b=some u:=λ b u e=>by
  rw[<-B];exact ao _ (H b u e)
 show dq _ _ _ _ _ {s with heap:=G}
 rw[g];refine ai (km (ky slot_list_sort ⟨_,i,rfl⟩ entry_list_sort (kLP (s:={s with heap:=G}) W i hz (λ S d y Q q=>p S _ _ d (λ b o c e=>y b o c (j b o e)) Q q) (λ d y=>L _ _ d λ b o c e=>y b o c (j b o e)) N λ a U I=>⟨_,rfl,?_⟩) (args_list_sort _)))
 have X:s.heap.objs.size+1<G.objs.size:=cf i;have J:(G.update (s.heap.objs.size+1) (so λ _=>#[])).get? (s.heap.objs.size+1)=some (seqObj "list" #[] (if(#[]:Array ar).size == f.toArray.size then 0 else 1)):=Aq i (λ _=>#[]);refine bp ⟨_,rfl,h a _ _ U I (λ b u e=>?_) (Aq (ao _ (ao _ J)) (λ _=>a.toArray))⟩;have C:b≠s.heap.objs.size+1:=dr (xm (cf e));unfold sortedHeap;rw[yr _ _ _ _ C];refine ao _ (ao _ ?_);rw[yr _ _ _ _ C];exact j b u e
def sorted_tups{l:au}{o:Obj}{j:List ar}{n:Nat}{Q:ar->ay->Prop}(ho:s.heap.get? l=some o)(S:o.cls=.type "list"\/o.cls=.type "tuple")(hd:o.data=.seq j.toArray n)(hz:j.length<=sizeLine)
  (J:∀ v∈j,TupI s.heap v)
  (h:∀(g:List ar)(k:Nat)(h':iK),g.Perm j->kOJ (lbT s.heap) g->(∀ b u,s.heap.get? b=some u->h'.get? b=some u)->h'.get? (s.heap.objs.size+1)=some (seqObj "list" g.toArray k)->Q (.ref (s.heap.objs.size+1)) {s with heap:=h'}) :
  dq (model prog w) A (call (.builtin "sorted") [.ref l]) Q E s:=by
 have r:∀{d:iK},(∀ b o,o.cls≠.type "list"->s.heap.get? b=some o->d.get? b=some o)->∀ b o,o.cls=.type "tuple"->s.heap.get? b=some o->d.get? b=some o:=λ p b o c e=>p b o (by rw[c];intro q;injection q with q;exact absurd q (by decide)) e
 refine gZ (D:=λ x=>TupI s.heap x.1) (kd:=tuples' true) (kSR s.heap) ho S hd hz (λ h2 X E' d p Q q=>?_) (λ X E' d p=>?_) (λ v f=>J v f) h
 ·have t6:∀ v∈j,TupI d v:=λ v f=>((J v f).kept (r p)).1
  have:∀ i:List ar,(∀ v∈i,TupI d v)->∃ fs,KatTups d i fs/\fs.length=i.length/\∀ v∈fs,∃ k t,v=ug k t:=λ i=>by
   induction i with
   | nil=>intro _;exact⟨[],.nil,rfl,by simp⟩
   | cons u i ih =>
    intro G;obtain⟨fs,B,I,C⟩:=ih λ v f=>G v (eD _ f);obtain⟨a,o,H,m,rfl,U,N,Y,Z,O⟩:=G u (fc ..);refine⟨H[0]::fs,.cons U N Y (getElem?_pos H 0 O) B,by simp[I],λ v f=>?_⟩;rcases eK.mp f with rfl | z
    ·exact Z _ (by simp)
    ·exact C v z
  obtain⟨fs,B,I,C⟩:=this j t6;refine kat_kind (T:=.type "int") B (by omega) (λ v f=>?_) rfl q;obtain⟨k,t,rfl⟩:=C v f;exact Fe rfl
 ·intro x y hx L st Q M q
  have a:=hx.kept (r p);have b:=L.kept (r p);refine kJH (s:={s with heap:=d}) x y a.1 b.1 st Q M ?_
  show Q (some (lexLt (keyOf d x.1) (keyOf d y.1))) st;rw[a.2,b.2];exact q
def sorted_nums{l:au}{o:Obj}{c:List ar}{n:Nat}{Q:ar->ay->Prop}(r:s.heap.get? l=some o)(j:o.cls=.type "list"\/o.cls=.type "tuple")(y:o.data=.seq c.toArray n)(hz:c.length<=sizeLine)
  (f:∀ v∈c,∃ k t,v=ug k t)
  (h:∀(a:List ar)(k:Nat)(h':iK),a.Perm c->kOJ lbI a->(∀ b u,s.heap.get? b=some u->h'.get? b=some u)->h'.get? (s.heap.objs.size+1)=some (seqObj "list" a.toArray k)->Q (.ref (s.heap.objs.size+1)) {s with heap:=h'}) :
  dq (model prog w) A (call (.builtin "sorted") [.ref l]) Q E s:=by
 refine gZ (D:=λ x=>∃ k t,x.1=.int k t) (kd:=oneType') kSS r j y hz (λ m p B i g Q q=>?_) (λ p B i g=>kJI) (λ v d=>f v d) h;refine kas_kind (T:=.type "int") m (λ v d=>?_) rfl rfl q;obtain⟨k,t,rfl⟩:=f v d;exact Fe rfl
end
def perm_back{α β:Type}{f:α->β}:∀{d c:List β},d.Perm c->∀{l:List α},c=l.map f->∃ m:List α,m.Perm l/\d=m.map f:=by
 intro d c h
 induction h with
 | nil =>
  intro l e
  match l,e with
  | [],_=>exact⟨[],.refl _,rfl⟩
 | cons x _ ih =>
  intro l e
  match l,e with
  | y::l,e =>
   rw[gm]at e;injection e with e1 e2
   obtain⟨m,a,b⟩:=ih e2;exact⟨y::m,a.cons y,by rw[gm,b,e1]⟩
 | swap x y l0 =>
  intro l e
  match l,e with
  | a::b::l,e =>
   rw[gm,gm]at e;injection e with e1 e2
   injection e2 with e2 e3
   exact⟨b::a::l,.swap _ _ _,by rw[gm,gm,e1,e2,e3]⟩
 | trans _ _ ih1 ih2 =>
  intro l e;obtain⟨m,a,b⟩:=ih2 e;obtain⟨i,j,g⟩:=ih1 b;exact⟨i,j.trans a,g⟩
end Srt
namespace L2
open PySem PySem.Spec PyProof.Rows
section
variable {X:Cx}
theorem cV:∀{b:List (au×List Int)}{a:List ar},Vals (b.map λ q=>V.ref q.1) a->a=b.map λ q=>jr q.1
 | [],_,.nil=>rfl
 | p::b,_,.cons r t=>by
  rw[cV t,show _=jr p.1 from r]
  rfl
theorem pH:∀(a:List (au×List Int)),Vals (a.map λ q=>V.ref q.1) (a.map λ q=>jr q.1)
 | []=>.nil
 | p::a=>.cons rfl (pH a)
def kQM(H:Hp)(a:List (au×List Int)):Prop:=∀ q∈a,H q.1=some (.tup (q.2.map V.int))/\q.2≠[]
def rP{b:List (au×Obj)}{m:St}{H:Hp}{s:ay}(I:Inv X b m H s){a:au}{c:List Int}(h:H a=some (.tup (c.map V.int)))(h0:c≠[]):Srt.TupI s.heap (.ref a)/\Srt.keyOf s.heap (.ref a)=c:=by
 obtain⟨l,d,⟨o,f,p,n,i⟩,r⟩:=I.tuple (SqT.of (K:=X.K) h);have g:=gL d;have q:=d.length;refine⟨⟨a,o,_,n,rfl,f,p,i,λ u j=>g.all u (by simpa using j),?_⟩,?_⟩
 ·rw[aj]at q
  have:0<c.length:=vt.mpr h0;simp;omega
 ·rw[Srt.TupI.key f i]
  exact g.nums
inductive fP(K:bb)(xs:List V)(H:Hp)(Q:VK):Prop
 | mk:∀(p:au)(ps:List (au×List Int)),(xs=[.ref p])->((SqL K H p (ps.map λ q=>V.ref q.1)\/SqT K H p (ps.map λ q=>V.ref q.1)))->(kQM H ps)->(∀(l:au)(ps':List (au×List Int)),H l=none->ps'.Perm ps->ps'.Pairwise (λ a b=>Srt.lexLt b.2 a.2=false)->Q (.ref l) (upd H l (.lst (ps'.map λ q=>V.ref q.1))))->fP K xs H Q
def bC:zH X (.builtin "sorted") (fP X.K):=by
 intro L s σ H xs us Q I r h;obtain⟨p,D,rfl,l,g,q⟩:=h;obtain⟨u,rfl,N⟩:=vU r;cases N
 have obj:∃(o:Obj)(n:Nat),s.heap.get? p=some o/\(o.cls=.type "list"\/o.cls=.type "tuple")/\o.data=.seq (D.map λ q=>jr q.1).toArray n/\D.length<=sizeLine:=by
  rcases l with l | l
  ·obtain⟨B,C,j,f⟩:=I.list l
   rw[cV C]at j;obtain⟨o,m,i,n,y⟩:=j.isList;exact⟨o,n,m,.inl i,y,by simpa using f⟩
  ·obtain⟨B,C,j,f⟩:=I.tuple l
   rw[cV C]at j;obtain⟨o,m,i,n,y⟩:=j;exact⟨o,n,m,.inr i,y,by simpa using f⟩
 obtain⟨o,n,m,i,y,f⟩:=obj;refine Srt.sorted_tups m i y (by simpa using f) (λ v Y=>?_) λ a0 k U pm S Z e=>?_
 ·obtain⟨x,M,rfl⟩:=iJ.mp Y
  exact(rP I (g x M).1 (g x M).2).1
 ·obtain⟨d,c,rfl⟩:=Srt.perm_back pm rfl
  refine⟨.ref (s.heap.objs.size+1),_,I.laid (t':=s.toks) Z (Ae _) (show ObjOk X.prog X.w _ U _ (.lst (d.map λ q=>V.ref q.1)) from⟨by simpa[c.length_eq] using f,_,k,pH d,e⟩),rfl,q _ d (I.hok.fresh (Ae _)) c ?_⟩;refine(md.mp S).imp_of_mem λ{a b} G J A=>?_;have T:=(rP I (g a (c.mem_iff.mp G)).1 (g a (c.mem_iff.mp G)).2).2;have O:=(rP I (g b (c.mem_iff.mp J)).1 (g b (c.mem_iff.mp J)).2).2;have A:Srt.lexLt (Srt.keyOf s.heap (.ref b.1)) (Srt.keyOf s.heap (.ref a.1))=false:=A;rw[T,O]at A;exact A
inductive fQ(K:bb)(xs:List V)(H:Hp)(Q:VK):Prop
 | mk:∀(p:au)(ns:List Int),(xs=[.ref p])->((SqL K H p (ns.map V.int)\/SqT K H p (ns.map V.int)))->(∀(l:au)(ns':List Int),H l=none->ns'.Perm ns->ns'.Pairwise (·<=·)->Q (.ref l) (upd H l (.lst (ns'.map V.int))))->fQ K xs H Q
def kEU:zH X (.builtin "sorted") (fQ X.K):=by
 intro G s Y H Z O Q I r h;obtain⟨p,J,rfl,j,q⟩:=h;obtain⟨u,rfl,L⟩:=vU r;cases L
 have obj:∃(o:Obj)(n:Nat)(c:List ar),s.heap.get? p=some o/\(o.cls=.type "list"\/o.cls=.type "tuple")/\o.data=.seq c.toArray n/\c.length<=sizeLine/\Vals (J.map V.int) c:=by
  rcases j with j | j
  ·obtain⟨c,i,A,f⟩:=I.list j
   obtain⟨o,m,g,n,x⟩:=A.isList;exact⟨o,n,c,m,.inl g,x,by rw[<-i.length];exact f,i⟩
  ·obtain⟨c,i,A,f⟩:=I.tuple j
   obtain⟨o,m,g,n,x⟩:=A;exact⟨o,n,c,m,.inr g,x,by rw[<-i.length];exact f,i⟩
 obtain⟨o,n,c,m,g,x,f,S⟩:=obj;have C:=gL S;refine Srt.sorted_nums m g x f (λ v l=>C.all v l) λ d k N y D T e=>?_;have all:∀ v∈d,∃ k t,v=ug k t:=λ v l=>C.all v (y.mem_iff.mp l)
 have M:Vals ((d.map numOf).map V.int) d:=by
  clear e D y
  induction d with
  | nil=>exact .nil
  | cons u O ih =>
   obtain⟨k,t,rfl⟩:=all u (fc ..);exact .cons ⟨t,rfl⟩ (ih λ v l=>all v (eD _ l))
 have U:(d.map numOf).Perm J:=by
  have:=y.map numOf;rwa[C.nums]at this
 refine⟨.ref (s.heap.objs.size+1),_,I.laid (t':=s.toks) T (Ae _) (show ObjOk X.prog X.w _ N _ (.lst ((d.map numOf).map V.int)) from⟨?_,_,k,M,e⟩),rfl,q _ _ (I.hok.fresh (Ae _)) U ?_⟩
 ·rw[aj,aj,y.length_eq]
  exact f
 ·refine md.mpr (D.imp λ{a b} B=>?_)
  have B:decide (numOf b<numOf a)=false:=B;have:=of_decide_eq_false B;omega
end
end L2
namespace Hsh
set_option autoImplicit false
open PySem PySem.Spec PyProof.Rows
def kJY:Nat->List Nat->Bool
 | 0,l=>l.length<=1
 | k+1,l=>match l with
  | []=>true
  | [_]=>true
  | l=>kJY k (l.filter λ n=>(n / 2 ^ k) % 2 == 0) && kJY k (l.filter λ n=>!((n / 2 ^ k) % 2 == 0))
def kQH:∀(k:Nat)(l:List Nat),kJY k l=true->l.Nodup:=by
 intro k
 induction k with
 | zero =>
  intro l h
  match l,h with
  | [],_=>exact yk
  | [x],_=>exact gj.mpr ⟨by simp,yk⟩
  | _::_::_,h=>simp[kJY]at h
 | succ k ih =>
  intro l h
  match l,h with
  | [],_=>exact yk
  | [x],_=>exact gj.mpr ⟨by simp,yk⟩
  | a::b::l,h =>
   unfold kJY at h;rw[iI]at h;have h1:=ih _ h.1;have g:=ih _ h.2;generalize a::b::l=m at *
   have:∀ m:List Nat,(m.filter λ n=>(n / 2 ^ k) % 2 == 0).Nodup->(m.filter λ n=>!((n / 2 ^ k) % 2 == 0)).Nodup->m.Nodup:=λ m=>by
    induction m with
    | nil=>intro _ _;exact yk
    | cons x m ih =>
     intro d c
     have mem:x∉m:=λ f=>by
      cases e:(x / 2 ^ k) % 2 == 0 with
      | true =>
       rw[ux,if_pos e]at d;exact(gj.mp d).1 (iW.mpr ⟨f,e⟩)
      | false =>
       rw[ux,if_pos (by rw[e];rfl)]at c;exact(gj.mp c).1 (iW.mpr ⟨f,by rw[e];rfl⟩)
     refine gj.mpr ⟨mem,ih ?_ ?_⟩
     ·rw[ux]at d
      split at d
      ·exact(gj.mp d).2
      ·exact d
     ·rw[ux]at c
      split at c
      ·exact(gj.mp c).2
      ·exact c
   exact this m h1 g
def hp(p q:Nat):Nat:=(reduceHash (FH [hashInt (p:Int),hashInt (q:Int)])+2 ^ 63).toNat
def all:List Nat:=(cq 1764).map λ i=>hp (i / 42) (i % 42)
def kOG:kJY 64 all=true:=by decide +kernel
def hp_inj{p q c d:Nat}(h1:p<42)(g:q<42)(h:c<42)(f:d<42)(e:hp p q=hp c d):p=c/\q=d:=by
 have nd:=kQH 64 all kOG
 have at':∀ p q:Nat,p<42->q<42->all[42*p+q]?=some (hp p q):=λ p q a b=>by
  unfold all;rw[az,yt (by omega)];show some (hp ((42*p+q) / 42) ((42*p+q) % 42))=_;rw[show(42*p+q) / 42=p by omega,show(42*p+q) % 42=q by omega]
 have a:=at' p q h1 g;have b:=at' c d h f;rw[<-e]at b;have:=(xp (ak.mp a).1 nd).mp (a.trans b.symm);omega
end Hsh
namespace Dct
set_option autoImplicit false
open PySem PySem.Spec PyProof.Rows
section
variable {prog:eY} {w:iG} {A:gh} {E:ar->ay->Prop} {s:ay} {κ:Type} [DecidableEq κ] {kd:KeyKind prog w κ}
def fold(xs ys:List (List κ×au×ar)):List (List κ×au×ar):=ys.foldl (λ a y=>storedH a y.1 y.2.1 y.2.2) xs
def fold_len(xs ys:List (List κ×au×ar)):(fold xs ys).length<=xs.length+ys.length:=by
 induction ys generalizing xs with
 | nil=>exact be _
 | cons y ys ih =>
  have:=ih (storedH xs y.1 y.2.1 y.2.2)
  have l:(storedH xs y.1 y.2.1 y.2.2).length<=xs.length+1:=by
   unfold storedH
   split<;>simp
  rw[iC];unfold fold at *;rw[vh];omega
theorem kCJ:∀(xs ys:List (List κ×au×ar)),((xs++ys).map (·.1)).Nodup->fold xs ys=xs++ys
 | xs,[],_=>by rw[iP];rfl
 | xs,y::ys,h=>by
  have a:atKey xs y.1=none:=by
   refine Dw λ j p e=>?_;rw[cy,gm,dc]at h;exact h.2.2 y.1 (iJ.mpr ⟨_,cv e,rfl⟩) y.1 (fc ..) rfl
  unfold fold;rw[vh,storedH_new a];have:=kCJ (xs++[y]) ys (by simpa using h);unfold fold at this;rw[show(y.1,y.2.1,y.2.2)=y from rfl,this];simp
def pW(xs ys:List (List κ×au×ar))(i:Nat)(y:List κ×au×ar)(h:ys[i]?=some y):fold xs (ys.take (i+1))=storedH (fold xs (ys.take i)) y.1 y.2.1 y.2.2:=by
 unfold fold;rw[List.take_add_one,h,Du]
 rfl
def mD{d a:au}{xs:List (List κ×au×ar)}{k:List κ}{v:ar}{Q:Unit->ay->Prop}(H:A.units<cLine)(u:(tupleKind kd).is s.heap k a)(I:s.heap.DictOfH (tupleKind kd) d xs)(hz:xs.length<=sizeLine)
  (q:∀ h',h'.DictOfH (tupleKind kd) d (storedH xs k a v)->iz d s.heap h'->Q () {s with heap:=h'}):dq (model prog w) A (dictSetHashed d (.ref a) ((tupleKind kd).hash k) v) Q E s:=by
 obtain⟨o,J,D,c,B,b,i,f,g⟩:=I;have sz:=Cj i;unfold dictSetHashed
 try with_reducible refine km ?_
 refine ai (wpAny_dictFind_heap (knd:=tupleKind kd) H u c b i f g (λ C=>?_) λ j p r=>?_)
 ·have G:=not_mem_keys_of_get C
  have e:=storedH_new (Dw C) a v;refine ai (vf (wpAny_updateDictKeys (hz:=by omega) c b (q _ ⟨_,_,D+1,qe _ c (Ay (yh b _)),B.mapDictKeys _,yh b _,?_,?_,?_⟩ (jo ..))))
  ·rw[e]
   simp[i,entryOfKey]
  ·rw[e]
   intro x h;rcases ck.mp h with z | z
   ·exact(tupleKind kd).keeps (f x z) c b (jo ..)
   ·rw[bu.mp z]
    exact(tupleKind kd).keeps u c b (jo ..)
  ·rw[e,cy,dc]
   refine⟨g,by simp,λ x h y n z=>G ?_⟩;have:y=k:=by simpa using n
   rw[<-this,<-z];exact h
 ·have e:=storedH_old (atKey_of_get g r) a v
  refine ai (vf (ai (wpAny_updateDict c b (wpAny_point (q _ ⟨_,_,D,qe _ c (Ay (EI b _)),B.mapDict _,EI b _,?_,?_,?_⟩ (jo ..))))))
  ·rw[e]
   have m:=modify_map_putAt (entryOfKey (tupleKind kd)) (λ z:Bz=>{z with val:=v}) k v (λ _ _=>rfl) g r
   rw[<-i]at m;obtain⟨l⟩:=J;simpa using m
  ·rw[e]
   intro x h;obtain⟨y,n,rfl⟩:=iJ.mp h;unfold putAt
   split<;>exact(tupleKind kd).keeps (f y n) c b (jo ..)
  ·rw[e,keys_map_putAt]
   exact g
def kIX{k:List κ}{a:au}{Q:Bool->ay->Prop}(b:(tupleKind kd).is s.heap k a)(q:Q false s):dq (model prog w) A (Cy (.ref a)) Q E s:=by
 unfold Cy;have b:IsTupleKey kd s.heap k a:=b;refine ai (Cf b.typeIs F.slot_tuple_eq.lookup (bp ?_));exact q
def kCM{id:String}{d:au}{o:Obj}{a:Array Bz}{ep:Nat}{xs:List (List κ×au×ar)}{Q:Array Bz->ay->Prop}(v:s.heap.get? d=some o)(y:o.data=.dict a ep)(r:a.toList=xs.map (entryOfKey (tupleKind kd)))(n:∀ x∈xs,(tupleKind kd).is s.heap x.1 x.2.1)
  (p:(xs.map λ x=>(tupleKind kd).hash x.1).Nodup) (q:Q a s):dq (model prog w) A (Ar id d) Q E s:=by
 have m:∀ e∈a,¬ (a.filter λ z=>z.hash == e.hash).size>1:=λ e f g=>by
  have:(a.toList.map λ z=>z.hash)=xs.map λ x=>(tupleKind kd).hash x.1:=by
   rw[r,vw]
   rfl
  rw[<-this]at p
  have l:(a.filter λ z=>z.hash == e.hash).size=((a.toList.map λ z=>z.hash).filter λ z=>z == e.hash).length:=by
   rw[<-iD,Array.toList_filter,List.filter_map,aj]
   rfl
  have c:=List.nodup_iff_count.mp p e.hash;rw[List.count_eq_length_filter]at c;omega
 unfold Ar;refine ai (qz v y (ai ?_));rw[<-Array.forIn_toList];refine AQ _ (λ rest _ i=>i=s/\∀ e∈rest,e∈a) _ ?_ ?_ _ _ ⟨rfl,λ e h=>uk.mp h⟩
 ·rintro e rest b i ⟨rfl,u⟩
  have f:=u e (fc ..)
  obtain⟨x,j,rfl⟩ : ∃ x∈xs,e=entryOfKey (tupleKind kd) x:=by
   have:e∈xs.map (entryOfKey (tupleKind kd)):=r ▸ uk.mpr f;obtain⟨x,j,z⟩:=iJ.mp this;exact⟨x,j,z.symm⟩
  refine ai (kIX (n x j) ?_);simp only[Er,if_true];rw[if_neg (m _ f)];exact bp ⟨rfl,λ z B=>u z (eD _ B)⟩
 ·rintro b i ⟨rfl,_⟩
  exact bp q
def kJG{nm:String}{d o:au}{xs ys:List (List κ×au×ar)}{Q:Unit->ay->Prop}(hu:A.units<cLine)(J:d≠o)(a0:(o == sysModules)=false)(hd:s.heap.DictOfH (tupleKind kd) d xs)(ho:s.heap.DictOfH (tupleKind kd) o ys)
  (hz:xs.length+ys.length<=sizeLine) (hh:xs=[]->(ys.map λ y=>(tupleKind kd).hash y.1).Nodup)
  (q:∀ h',h'.DictOfH (tupleKind kd) d (fold xs ys)->iz d s.heap h'->Q () {s with heap:=h'}):dq (model prog w) A (CV nm d o) Q E s:=by
 obtain⟨od,U,Z,u,X,p,Y,a1,a4⟩:=id hd;obtain⟨S,a,a3,m,a2,c,C,r,N⟩:=id ho;have H:=Cj C;have O:=Cj Y;unfold CV;rw[if_neg (by simpa using J)];unfold GB;rw[if_neg (by rw[a0];exact eA)]
 refine ai (bp (ai (qz m c ?_)))
 have I:∃ h' i,s={s with heap:=h'}/\zu 0 a.size=zu i (a.size-i)/\i<=a.size/\h'.DictOfH (tupleKind kd) d (fold xs (ys.take i))/\h'.get? o=some S/\iz d s.heap h' :=
  ⟨s.heap,0,rfl,rfl,iA _,by rw[yo];exact hd,m,AC _ _⟩
 dsimp only
 split
 ·refine ai (qz u p ?_)
  split
  ·rename_i hemp
   have z:xs=[]:=by
    have h0:U = #[]:=Dx.mp hemp;rw[h0]at O;exact og.mp O.symm
   subst z;have ff:fold [] ys=ys:=kCJ [] ys N;rw[ff]at q;refine ai (kCM m c C r (hh rfl) ?_)
   split
   ·refine ai (wpAny_updateDictKeysTo u p (bp (q _ ⟨_,_,Z+1,qe _ u (Ay (yh p _)),X.mapDictKeys _,yh p _,C,λ x hx=>(tupleKind kd).keeps (r x hx) u p (jo ..),N⟩ (jo ..))) ?_)
    simp only[tm]at hz;omega
   ·rename_i hne
    have h0:a = #[]:=Dx.mp (by simpa using hne)
    have z:ys=[]:=by
     rw[h0]at H;exact og.mp H.symm
    subst z;exact bp (q _ hd (AC _ _))
  ·refine ai (As m c (ai (qz m c (ai ?_))))
   rw[qv];simp only[AJ,CW,DR,GR];refine AQ _ (λ rest _ L=>∃ h' i,L={s with heap:=h'}/\rest=zu i (a.size-i)/\i<=a.size/\h'.DictOfH (tupleKind kd) d (fold xs (ys.take i))/\h'.get? o=some S/\iz d s.heap h') _ ?_ ?_ _ _ I
   ·rintro x rest b L ⟨h',i,rfl,n,hi,j,f,h⟩
    by_cases D:i<a.size
    ·rw[show a.size-i=(a.size-(i+1))+1 by omega,wd]at n
     injection n with h1 h2
     subst h1;refine ai (qz f c ?_);have G:ys[x]?=some (ys[x]'(by omega)):=ae _;rw[entry_at C x,G];generalize ys[x]'(by omega)=y at G;have T:(tupleKind kd).is h' y.1 y.2.1:=(tupleKind kd).keeps (r y (cv G)) u p h;have lz:=fold_len xs (ys.take x);have lt:(ys.take x).length<=ys.length:=by rw[cx];omega
     refine ai (km (mD (s:={s with heap:=h'}) hu T j (by omega) λ v B l=>?_))
     have g:v.get? o=some S:=(l.2 o (ox J)).trans f;refine ai (As g c ?_);rw[if_neg (by simp)];exact bp ⟨v,x+1,rfl,h2,D,by rw[pW xs ys x y G];exact B,g,h.trans l⟩
    ·rw[show a.size-i=0 by omega]at n
     exact nomatch n
   ·rintro b L ⟨h',i,rfl,n,hi,j,f,h⟩
    have M:i=a.size:=by
     by_cases D:i<a.size
     ·rw[show a.size-i=(a.size-(i+1))+1 by omega,wd]at n
      exact nomatch n
     ·omega
    refine bp (q h' ?_ h);rw[M,H,gn]at j;exact j
 ·refine ai (As m c (ai (qz m c (ai ?_))))
  rw[qv];simp only[AJ,CW,DR,GR];refine AQ _ (λ rest _ L=>∃ h' i,L={s with heap:=h'}/\rest=zu i (a.size-i)/\i<=a.size/\h'.DictOfH (tupleKind kd) d (fold xs (ys.take i))/\h'.get? o=some S/\iz d s.heap h') _ ?_ ?_ _ _ I
  ·rintro x rest b L ⟨h',i,rfl,n,hi,j,f,h⟩
   by_cases D:i<a.size
   ·rw[show a.size-i=(a.size-(i+1))+1 by omega,wd]at n
    injection n with h1 h2
    subst h1;refine ai (qz f c ?_);have G:ys[x]?=some (ys[x]'(by omega)):=ae _;rw[entry_at C x,G];generalize ys[x]'(by omega)=y at G;have T:(tupleKind kd).is h' y.1 y.2.1:=(tupleKind kd).keeps (r y (cv G)) u p h;have lz:=fold_len xs (ys.take x);have lt:(ys.take x).length<=ys.length:=by rw[cx];omega
    refine ai (km (mD (s:={s with heap:=h'}) hu T j (by omega) λ v B l=>?_))
    have g:v.get? o=some S:=(l.2 o (ox J)).trans f;refine ai (As g c ?_);rw[if_neg (by simp)];exact bp ⟨v,x+1,rfl,h2,D,by rw[pW xs ys x y G];exact B,g,h.trans l⟩
   ·rw[show a.size-i=0 by omega]at n
    exact nomatch n
  ·rintro b L ⟨h',i,rfl,n,hi,j,f,h⟩
   have M:i=a.size:=by
    by_cases D:i<a.size
    ·rw[show a.size-i=(a.size-(i+1))+1 by omega,wd]at n
     exact nomatch n
    ·omega
   refine bp (q h' ?_ h);rw[M,H,gn]at j;exact j
end
def meets_upd{prog:eY}{w:iG}{i:Type}[DecidableEq i](kd:KeyKind prog w i)(d o:au)(b:d≠o)(g:(o == sysModules)=false) :
  MeetsIn prog w (zi.«dict.update» ⟨[.ref d,.ref o],[]⟩) (λ A R s=>A.in1.units<cLine/\∃ xs ys,s.heap.DictOfH (tupleKind kd) d xs/\s.heap.DictOfH (tupleKind kd) o ys/\xs.length+ys.length<=sizeLine/\(xs=[]->(ys.map λ y=>(tupleKind kd).hash y.1).Nodup) /\
   ∀ h',h'.DictOfH (tupleKind kd) d (fold xs ys)->iz d s.heap h'->R (.ok (.ret .none)) {s with heap:=h'}) :=
 .of_wp λ A R s ⟨l,xs,ys,j,a,n,m,h⟩=>by
  unfold zi.«dict.update»;refine ai ?_;unfold Ff;refine ai (wpAny_notOrdered_dict j.typeIs ?_);refine bp (show dq _ _ (CF "dict.update" d (.ref o) [] .none) _ _ s from ?_);unfold CF;refine ai (AA a.typeIs ?_);rw[if_neg (by decide)];refine ai ?_;unfold Ga;refine ai ?_;unfold FJ;refine ai (CG a.typeIs isSubtype_dict_dict ?_);simp only[yy,eN,if_false];refine ai (Cf a.typeIs F.slot_dict_iter.lookup (bp ?_));simp only[beq_self_eq_true,if_true];refine ai (bp (kJG l b g j a n m λ h' c f=>?_));refine show dq _ _ (Fg d [] >>= _) _ _ _ from ?_;exact ai (bp (bp ⟨.none,rfl,h h' c f⟩))
end Dct
namespace L2
open PySem PySem.Spec PyProof.Rows
section
variable {X:Cx} {pins:List (au×Obj)} {σ:St} {H:Hp} {s:ay} {a:au} {y v:V} {u r:ar} {o:Option V} {A:gh} {E:ar->ay->Prop}
def kKB{H':Hp}{Q:Unit->ay->Prop}(N:A.units<cLine)(I:Inv X pins σ H s)(g:DPut H a y v H')(B:RelV y u)(C:RelV v r)(h:∀ s',Inv X pins σ H' s'->Q () s') :
  dq (model X.prog X.w) A (dictSet a u r) Q E s:=by
 rcases g with⟨i,k,e,m,l,p⟩ | ⟨i,k,b,e,m,D,l,p⟩
 ·subst m p
  obtain⟨z,x,Y,d,o⟩:=kHH I.hok e;refine wpAny_dictSet_pairs (hsz:=by rw[<-d.length];exact z) (pQ B) o λ L f n=>h _ ?_;exact vP I (by rw[e];exact oz) n (let ⟨q,_,_,j,_⟩:=f;⟨q,j⟩) (kER (by have:=xL i k v;omega) x (d.put k C) f)
 ·subst m p
  cases(show u=jr b from B)
  obtain⟨z,x,Z,d,o⟩:=kHE I.hok e;refine wpAny_dictSet_heap (hsz:=by rw[<-va d];exact z) N (mR I.hok D) o λ L f n=>h _ ?_;obtain⟨q,U,T,j,S,M,O,_,J⟩:=f;refine vP I (by rw[e];exact oz) n ⟨q,j⟩ ⟨by have:=xL i k v;omega,x,_,(d.put k D C).keeps λ c ys G=>?_,q,U,T,j,S,M,O,J⟩;rw[kM (wW G e (λ z=>nomatch z))];exact G
end
def kVG(D:au)(tk c:TE):TB:=λ N a H=>tk a H λ y f=>c a f λ v d=>∃ b,DPut d D y v b/\N a b
def gG{X:Cx}{c d:iH}{tk f:TE}{D:au}(J:X.A.units+1<cLine)(i:PE X c tk)(r:PE X d f):PBd X (pZ c d X.env (.ref D)) (kVG D tk f):=by
 intro a s b H N I h;unfold pZ;refine ai (thn (i a s b H _ I h) λ O j ⟨y,n,v,B,p⟩=>?_);refine ai (km (thn (r a j b n _ v p) λ G L ⟨x,C,m,o,l,g,u⟩=>?_));exact ai (ve (km (kKB (by omega) m g B o λ M q=>⟨b,l,q,u⟩)))
section
variable {X:Cx} {tg iter kx vx:iH} {ifs:List iH} {sc:vy} {pos:Pos} {Nc:List Str} {js:List (Option Nat)} {wi:TI}
def kVY(js:List (Option Nat))(d:TI)(g:TG)(bd:au->TB):TE:=λ a H Q=>d a H λ J b=>∀ D,b D=none->uB J g (bd D) (λ _ c=>Q (.ref D) c) (dO js a) (upd b D (.dT []))
def kPH{g:TG}{bd:au->TB}(hx:X.xe=λ _ _=>False)(hc:X.calm=true)(hi:PI X tg iter wi)(S:CS sc X.env.scope)(a2:cN js Nc X.N sc.names=true)
  (hg:∀ C s₂ H₂ fp pins,PG (cxC X Nc sc C s₂ H₂ fp pins) tg g)
  (l:∀ C s₂ H₂ fp pins D L,PTl (cxC X Nc sc C s₂ H₂ fp pins) (yI ifs (cxC X Nc sc C s₂ H₂ fp pins).env (pZ kx vx (cxC X Nc sc C s₂ H₂ fp pins).env (.ref D)) L) L (bd D))
  (hs:∀ x,foldedSetIterable iter X.env x=pure x:=by intro _;rfl) :
  PE X (.DictComp kx vx [⟨tg,iter,ifs,0⟩] sc pos) (kVY js wi g bd):=by
 intro pins s σ H Q I h;rw[Dm];have a1:closureFor sc X.env=pure (aD sc X.env):=yU λ y hy hf=>I.ok.has y.1 (.inl (S.free y hy hf));refine ni (use:=none) rfl hs a1 S.kind S.names (thn (hi pins s σ H _ I h) λ v s1 h1=>thn h1 λ a4 f h2=>?_);obtain⟨it,fp,tn,J,U,e,O,T,M,f2,hw⟩:=h2;subst e;have r:∀ b∈fp,b<f.heap.objs.size:=λ b l=>let ⟨o,ho,_⟩:=T.obj _ _ M b l;cf ho;refine ir (qm S.nocell (by intro y hy;simp at hy) (λ i d a=>?_) S.kind);dsimp only at d a ⊢;generalize n:f.heap.push {cls:=.type "dict",dict:=none,data:=.dict #[]}=G at d a ⊢;have a6:G.objs.size=f.heap.objs.size+1:=by rw[<-n,iZ]
 have u:f.heap.objs.size≠G.objs.size:=by omega
 have j:f.heap.objs.size<=G.objs.size:=by omega
 have B:∀ b o,f.heap.get? b=some o->i.get? b=some o:=λ b o e=>a.extBut b o (dr (cw (cf e) j)) (ao _ (n ▸ ao _ e));have Y:i.get? f.heap.objs.size=some {cls:=.type "dict",dict:=none,data:=.dict #[]}:=a.extBut _ _ u (ao _ (n ▸ cg _ rfl))
 have new:ObjOk X.prog X.w (upd U f.heap.objs.size (.dT [])) i f.heap.objs.size (.dT []):=by
  exact⟨iA _,beq_eq_false_iff_ne.mpr (ox (dr O.big)),[],.nil,_,_,_,Y,⟨rfl,rfl,rfl⟩,rfl,rfl,yk⟩
 have I4:=wX (js:=js) (Nc:=Nc) (tk:=f.toks+([]:List (Str×ar)).length) O S f2 r a2 j (be _) u B d new;have hn:U f.heap.objs.size=none:=O.fresh
 have f4:∀ b∈fp,zF (cxC X Nc sc G.objs.size f U fp pins) [] (upd U f.heap.objs.size (.dT [])) b:=λ b l=>by
  obtain⟨h0,h1,h2,h3,h4,h5⟩:=f2 b l;refine⟨?_,dr (cw (r b l) j),λ z=>?_,.inl l,λ x c z=>?_,λ p hp=>?_⟩
  ·rw[kM (dr (r b l))];exact h0
  ·rcases eK.mp (O.stkSub b z) with q | q
   ·exact h1 q
   ·exact h2 q
  ·exact h4 x c (cM sc.names [] (λ z=>nomatch z) z)
  ·rcases ck.mp hp with z | z
   ·exact h5 p z
   ·exact absurd z (by simp)
 have Z:tn 0 i:=T.keep _ _ _ M λ b l o e=>B b o e
 have m:codeAny (model X.prog X.w) X.A (.compLoop (.DictComp kx vx [⟨tg,iter,ifs,0⟩] sc pos) 0 (.ref it) (.ref f.heap.objs.size) (compEnvC sc (aD sc X.env) G.objs.size X.env))
   (compPost (model X.prog X.w) X.A X.xe none (EP X pins σ Q) (.ref f.heap.objs.size) G.objs.size) {f with heap:=i,toks:=f.toks+([]:List (Str×ar)).length}:=by
  refine yT (X:=cxC X Nc sc G.objs.size f U fp pins) (.inr ⟨kx,vx,rfl⟩) hx hc (rO _ _ _ _ _ _ _ _ _ _) T (hg _ _ _ _ _) (l _ _ _ _ _ _ _) I4 Z f4 (hw _ hn) λ a5 H' s' I' q=>?_;obtain⟨m',a3,_⟩:=I'.loc;exact⟨m',a3,λ h' a0=>⟨.ref f.heap.objs.size,H',wY O f2 j I' a0,rfl,q⟩⟩
 exact yD (.inr ⟨kx,vx,rfl⟩) rfl rfl m (T.self _ _ _ _ _ Z m)
def yO(kvs more:List (List Key×V)):List (List Key×V):=more.foldl (λ a y=>qS a y.1 y.2) kvs
theorem KT.fold{H:Hp}:∀{more:List (List Key×V)}{ys:List (List Key×au×ar)}{kvs:List (List Key×V)}{xs:List (List Key×au×ar)},KT H kvs xs->KT H more ys->KT H (yO kvs more) (Dct.fold xs ys)
 | [],_,_,_,r,.nil=>r
 | p::more,_,kvs,xs,r,.cons (b:=q) z t=>by
  have:=KT.fold (KT.put r q.1 (b:=q.2.1) (y:=p.2) (u:=q.2.2) (by rw[<-z.1];exact z.2.1) z.2.2) t;rw[<-z.1]at this;unfold yO at *;unfold Dct.fold at *;rw[vh,vh,<-z.1];exact this
def kOI(k:List Key):Prop:=∃ p q:Nat,k=[cm (p:Int),cm (q:Int)]/\p<42/\q<42
def kQC{prog:eY}{w:iG}:∀{ys:List (List Key×au×ar)},(∀ y∈ys,kOI y.1)->(ys.map (·.1)).Nodup->(ys.map λ y=>(tupleKind (qH prog w)).hash y.1).Nodup:=by
 intro ys hp nd;have:ys.map (λ y=>(tupleKind (qH prog w)).hash y.1)=(ys.map (·.1)).map (tupleKind (qH prog w)).hash:=by rw[vw];rfl
 rw[this];refine md.mpr (nd.imp_of_mem λ{a b} i c g e=>g ?_);obtain⟨x,l,rfl⟩:=iJ.mp i;obtain⟨y,m,rfl⟩:=iJ.mp c;obtain⟨p,q,o,p1,f⟩:=hp x l;obtain⟨d,j,n,p2,h⟩:=hp y m;rw[o,n]at e ⊢
 have:Hsh.hp p q=Hsh.hp d j:=by
  unfold Hsh.hp;exact congrArg (λ z:Int=>(z+2 ^ 63).toNat) e
 obtain⟨rfl,rfl⟩:=Hsh.hp_inj p1 f p2 h this
 rfl
inductive kQX(x:V)(vs:List V)(H:Hp)(Q:VK):Prop
 | mk:∀(a b:au)(kvs more:List (List Key×V)),(x=.ref a)->(vs=[.ref b])->(a≠b)->(H a=some (.dT kvs))->(H b=some (.dT more))->((∀ y∈more,kOI y.1))->(kvs.length+more.length<=sizeLine)->(Q .non (upd H a (.dT (yO kvs more))))->kQX x vs H Q
def kPP(hu:X.A.units+1<cLine):MtM X "dict.update" kQX:=by
 intro L s σ H x vs v us Q I Y rv h;obtain⟨a,b,D,more,rfl,rfl,U,j,hb,hp,hz,q⟩:=h;cases Y
 obtain⟨u,rfl,ru⟩:=rv.one;cases ru
 obtain⟨za,C,N,p,O⟩:=kHE I.hok j;obtain⟨zb,B,g,f,T⟩:=kHE I.hok hb
 have i:∀ y∈g,kOI y.1:=by
  have:∀{l:List (List Key×V)}{m:List (List Key×au×ar)},KT H l m->(∀ y∈l,kOI y.1)->∀ y∈m,kOI y.1:=by
   intro l m r
   induction r with
   | nil=>intro _ y d;exact nomatch d
   | @cons p1 q1 ps qs z t ih =>
    intro S y d;rcases eK.mp d with rfl | d
    ·rw[<-z.1]
     exact S _ (fc ..)
    ·exact ih (λ y h=>S y (eD _ h)) y d
  exact this f hp
 have nd:(g.map (·.1)).Nodup:=let ⟨_,_,_,_,_,_,_,_,n⟩:=T;n;have lx:=va p;have ly:=va f;refine call_meetsIn Br O.typeIs PySem.F.entry_dict_update (PySem.F.args_dict_update_2 _ _) (Dct.meets_upd (qH X.prog X.w) a b U B) ⟨zq (knd:=qH X.prog X.w) hu,N,g,O,T,by omega,λ _=>kQC i nd,λ h' o Z=>?_⟩;obtain⟨G,es,ep,J,h2,h3,h4,_,h5⟩:=o;have lf:=va (KT.fold p f);have lz:=Dct.fold_len N g;refine⟨.non,upd H a (.dT (yO D more)),vP (t':=s.toks) I (by rw[j];exact oz) Z ⟨G,J⟩ ⟨by omega,C,_,(KT.fold p f).keeps λ c zs M=>?_,G,es,ep,J,h2,h3,h4,h5⟩,rfl,q⟩;rw[kM (wW M j (λ z=>nomatch z))];exact M
end
section
variable {X:Cx}
end
section
variable {prog:eY} {w:iG} {A:gh} {E:ar->ay->Prop} {s:ay} {z TI TO i1 i2:au} {fp1 fp2:List au} {n1 n2 j:Nat} {P1 P2:Nat->ar->Prop} {S1 S2:Nat->iK->Prop} {a b:ar}
def kIA{Q:ui->ay->Prop}(H:EM prog w A i1 fp1 n1 P1 S1)(O:EM prog w A i2 fp2 n2 P2 S2)(d:ZAp z TI TO i1 i2 fp1 fp2)
  (hz:wm s.heap z TI TO .none) (v:xg s.heap TI (.ref i1) (.ref i2)) (p:xg s.heap TO a b) (h1:S1 n2 s.heap) (h2:S2 n2 s.heap) (l1:n2<n1)
  (hE:∀ h' e tk,(∀ c o,c≠z->c≠TO->c≠i1->c≠i2->s.heap.get? c=some o->h'.get? c=some o)->(∃ o,h'.get? e=some o/\o.cls=.type "StopIteration")->E (.ref e) {s with heap:=h',toks:=tk}) :
  dq (model prog w) A (zi.«zip.__next__» ⟨[.ref z],[]⟩) Q E s:=by
 have y:∀{i:Nat}{h h':iK}{c:au},S1 i h->iz c h h'->c∉fp1->S1 i h':=λ st B r=>H.frame _ _ _ st λ b u o e=>B.extBut b o (λ q=>r (q ▸ u)) e;have g:∀{i:Nat}{h h':iK}{c:au},S2 i h->iz c h h'->c∉fp2->S2 i h':=λ st B r=>O.frame _ _ _ st λ b u o e=>B.extBut b o (λ q=>r (q ▸ u)) e;show dq _ _ (field (.ref z) 2 >>= _) _ _ _;refine ai (iY hz rfl (x:=.bool false) rfl ?_);show dq _ _ (field (.ref z) 3 >>= _) _ _ _;refine ai (iY hz rfl (x:=.ref TI) rfl ?_);refine ai (jv v rfl ?_);show dq _ _ (iB (.ref z) >>= _) _ _ _;refine ai ?_;unfold iB;refine ai (iY hz rfl (x:=.none) rfl (bp ?_));simp only[if_true];refine ai (vf ?_);refine ai (iY hz rfl (x:=.ref TO) rfl ?_);refine ai (jz hz (by simp) λ g1 m l=>?_)
 replace m:wm g1 z TI TO .ellipsis:=m
 refine ai ?_
 simp only[ym,Ao,zh,BO]
 refine ai (ai (vj ?_));show dq _ _ (gy (.ref i1) >>= _) _ _ _;refine ai (H.item n2 _ _ _ l1 (y h1 l d.z1) λ x Z a0 px X n=>bp ?_);have M:xg Z TO a b:=n.extBut _ _ d.TOi1 (l.extBut _ _ d.zTO.symm p);refine ai (jv M rfl ?_);refine ai (Ag M λ L I C=>?_)
 replace I:xg L TO x b:=I
 refine ai (Ah (bp ?_));refine ai (ai (vj ?_));show dq _ _ (gy (.ref i2) >>= _) _ _ _;refine ai (O.done _ _ _ (g (g (g h2 l d.z2) n d.i1f) C d.t2) λ g4 e J he=>?_);obtain⟨Y,f,j⟩:=he;have S:wm L z TI TO .ellipsis:=C.extBut _ _ d.zTO (n.extBut _ _ d.zi1 m);have N:wm g4 z TI TO .ellipsis:=J _ _ d.zi2 S;have T:e≠z:=λ q=>by subst q;rw[N]at f;cases f;simp at j
 exact jz N (by simp) λ g5 _ G=>hE g5 e _ (λ c o D c2 c3 U q=>G.extBut _ _ D (J _ _ U (C.extBut _ _ c2 (n.extBut _ _ c3 (l.extBut _ _ D q))))) ⟨Y,G.extBut _ _ T f,j⟩
end
def kTQ(f g : Bool)(K : bb)(a b : au) : It :=
  ⟨λ i H => ∃ c d x y, SqX K f H a c /\ SqX K g H b d /\ c[i]? = some x /\ d[i]? = some y,
   λ i H v h => ∃ T x y, H T = none /\ v = .ref T /\ (∀ c, SqX K f H a c -> c[i]? = some x) /\ (∀ d, SqX K g H b d -> d[i]? = some y) /\ h = upd H T (.tup [x, y]),
   λ i H => ∃ c d x, SqX K f H a c /\ SqX K g H b d /\ c[i]? = some x /\ d.length = i⟩
def kII{P:eY}{w:iG}{K:bb}{Y:List iH} {x1} {a8:Pos} (k1 k2:Bool) (a b z TI TO p r:au) (B:ZAp z TI TO p r [p,a] [r,b]) :
  Turn P w K (.Tuple Y x1 a8) (kTQ k1 k2 K a b) [z,TO,p,r,TI] z
   (λ i h=>wm h z TI TO .none/\xg h TI (.ref p) (.ref r)/\(∃ u v,xg h TO u v)/\ItOf k1 h p a i/\ItOf k2 h r b i) where
 mem:=by simp
 obj:=λ i h st c M=>by
  obtain⟨D,l,⟨u,v,m⟩,h1,C⟩:=st;simp only[eK,rm,or_false]at M;rcases M with rfl | rfl | rfl | rfl | rfl
  ·exact⟨_,D,λ v q=>by cases q⟩
  ·exact⟨_,m,λ v q=>by cases q⟩
  ·exact h1.live
  ·exact C.live
  ·exact⟨_,l,λ v q=>by cases q⟩
 keep:=λ i h h' st Z=>by
  obtain⟨D,l,⟨u,v,m⟩,h1,C⟩:=st;exact⟨Z z (by simp) _ D,Z TI (by simp) _ l,⟨u,v,Z TO (by simp) _ m⟩,h1.at λ o q=>Z p (by simp) o q,C.at λ o q=>Z r (by simp) o q⟩
 item:=by
  intro X hP hw hK M i a0 s σ H E I hf st hg;subst hP hw hK;obtain⟨D,l,⟨u0,v0,m⟩,h1,C⟩:=st;obtain⟨xs,ys,x,y,J,G,hx,hy⟩:=hg;obtain⟨f,N,p1⟩:=I.sq J;obtain⟨j,O,p2⟩:=I.sq G;obtain⟨u,hu,ru⟩:=N.get hx;obtain⟨v,hv,rv⟩:=O.get hy;have D1:=xY (prog:=X.prog) (w:=X.w) (A:=X.A.in1) (I.ok.hd M) k1 p a (aE p1 h1) f.toArray;have D2:=xY (prog:=X.prog) (w:=X.w) (A:=X.A.in1) (I.ok.hd M) k2 r b (aE p2 C) j.toArray;have L:i<f.toArray.size:=by simpa using(ak.mp hu).1
  have Q:i<j.toArray.size:=by simpa using(ak.mp hv).1
  have S:s.TypeIs (.ref z) "zip":=⟨_,D,rfl⟩;unfold pyNext
  refine ai (yz (ju (name:=wx "__next__") S rh (ky rh S AX
   (kHZ D1 D2 B D l m ⟨h1,p1⟩ ⟨C,p2⟩ L Q λ u' v' h' tk a9 a2 z' o' a6 a4 t' hk=>bp ?_) (AG _))))
  have eu:u'=u:=by
   have q:f[i]?=some u':=by simpa using a9
   rw[hu]at q;exact(bg q).symm
  have ev:v'=v:=by
   have q:j[i]?=some v':=by simpa using a2
   rw[hv]at q;exact(bg q).symm
  subst eu ev;refine⟨_,rfl,Be z' λ g a3 n=>?_⟩;have aa:z<s.heap.objs.size:=cf D;have ac:TO<s.heap.objs.size:=cf m;have af:p<s.heap.objs.size:=let ⟨_,e,_⟩:=h1.live;cf e;have ag:r<s.heap.objs.size:=let ⟨_,e,_⟩:=C.live;cf e;have U:TI<s.heap.objs.size:=cf l;have ab:g.get? s.heap.objs.size=some {cls:=.type "tuple",data:=.seq #[u',v']}:=n.extBut _ _ (ja aa) t'
  obtain⟨I2,n2⟩:=I.handed (t':=tk) (ch:=[z,TO,p,r]) ru rv ab (λ c o d q=>n.extBut c o (λ e=>d (by simp[e])) (hk c o (λ e=>d (by simp[e])) (λ e=>d (by simp[e])) (λ e=>d (by simp[e])) (λ e=>d (by simp[e])) q))
   (λ c d=>hf c (by simp at d ⊢;rcases d with e | e | e | e<;>simp[e]))
   (λ c d=>by simp at d;rcases d with rfl | rfl | rfl | rfl<;>assumption)
  refine⟨.ref s.heap.objs.size,_,I2,rfl,⟨_,x,y,I.hok.fresh (be _),rfl,(λ ah a1=>by rw[I.sq_inj a1 J];exact hx),(λ al a7=>by rw[I.sq_inj a7 G];exact hy),rfl⟩,?_,λ c d=>?_⟩
  ·exact⟨a3,n.extBut _ _ B.zTI.symm (hk _ _ B.zTI.symm B.TITO B.TIi1 B.TIi2 l),⟨_,_,n.extBut _ _ B.zTO.symm o'⟩,a6.1.at λ o q=>n.extBut p o B.zi1.symm q,a4.1.at λ o q=>n.extBut r o B.zi2.symm q⟩
  ·by_cases e:c=TI
   ·subst e
    rw[kM (dr U)];exact(hf c (by simp)).1
   ·exact n2 c (by simp at d ⊢;rcases d with q | q | q | q | q<;>simp_all)
 done:=by
  intro X hP hw hK M i a0 s σ H E I hf st hg;subst hP hw hK;obtain⟨D,l,⟨u0,v0,m⟩,h1,C⟩:=st;obtain⟨xs,ys,x,J,G,hx,hy⟩:=hg;obtain⟨f,N,p1⟩:=I.sq J;obtain⟨j,O,p2⟩:=I.sq G;obtain⟨u,hu,ru⟩:=N.get hx;have D1:=xY (prog:=X.prog) (w:=X.w) (A:=X.A.in1) (I.ok.hd M) k1 p a (aE p1 h1) f.toArray;have D2:=xY (prog:=X.prog) (w:=X.w) (A:=X.A.in1) (I.ok.hd M) k2 r b (aE p2 C) j.toArray;have hl:j.toArray.size=i:=by rw[<-hy,O.length];simp
  have L:i<f.toArray.size:=by simpa using(ak.mp hu).1
  have S:s.TypeIs (.ref z) "zip":=⟨_,D,rfl⟩;unfold pyNext
  refine ai (yz (ju (name:=wx "__next__") S rh (ky rh S AX
   (kIA D1 D2 B D l m ⟨hl ▸ h1,p1⟩ ⟨hl ▸ C,p2⟩ (by omega) λ h' e tk hk he=>?_) (AG _))))
  obtain⟨o,ho,a5⟩:=he;refine ai (CG (T:="StopIteration") (b:=true) ⟨o,ho,a5⟩ Et ?_)
  refine bp ⟨rfl,I.turnedL (t':=tk) (ch:=[z,TO,p,r]) (λ c o d q=>hk c o (λ e=>d (by simp[e])) (λ e=>d (by simp[e])) (λ e=>d (by simp[e])) (λ e=>d (by simp[e])) q)
   (λ c d=>hf c (by simp at d ⊢;rcases d with e | e | e | e<;>simp[e]))⟩
 self:=λ _ _ _ _ _ st h=>AY st.1 h
section
variable {X:Cx}
inductive kNF(k1:Bool)(k2:Bool)(K:bb)(R:It->Hp->Prop)(vs:List V)(H1:Hp):Prop
 | mk:∀ a b,(vs=[.ref a,.ref b])->((∃ xs,SqX K k1 H1 a xs))->((∃ ys,SqX K k2 H1 b ys))->(R (kTQ k1 k2 K a b) H1)->kNF k1 k2 K R vs H1
def kUU(a f:Bool)(K:bb)(g:TA):TI:=λ b H R=>g b H λ d c=>kNF a f K R d c
def kPE(G Q:Bool){a b:iH}{J:TA}{p l i:Pos}{m:List iH} {x1} (Y:Gl X "zip") (hm:X.mg "zip" = none) (S:PA X [a,b] J) (U:starEach [a,b] X.env=[(false,eval a X.env),(false,eval b X.env)]:=by rfl) (n:starEach [b] X.env=[(false,eval b X.env)]:=by rfl) :
  PI X (.Tuple m x1 i) (.Call (.Name "zip" p) [a,b] [] l) (kUU G Q X.K J):=by
 intro g s σ H R I h;refine Fk (wN I Y hm boot_zip (ie (thn (S l g s σ H _ I h) λ us d ⟨vs,L,o,r1,q1⟩=>?_) (by rw[U,n]) (by rw[n];rfl)));obtain⟨l1,Z,rfl,⟨xs,A⟩,⟨ys,C⟩,q⟩:=q1;obtain⟨u,v,rfl,r,r'⟩:=kFB r1;cases r
 cases r'
 obtain⟨N,a1,p1⟩:=o.sq A;obtain⟨O,a0,p2⟩:=o.sq C;have D:=p1.lt;have y:=p2.lt;refine kCU p1 p2 λ h' M B x h1 h2 T=>?_;refine AY (s:={d with heap:=h'}) M ?_
 have f:∀ c,d.heap.objs.size<=c->zF X g L c:=λ c j=>o.fpOk j (o.hok.fresh j)
 refine⟨_,[d.heap.objs.size+4,d.heap.objs.size+3,d.heap.objs.size,d.heap.objs.size+1,d.heap.objs.size+2],_,_,L,rfl,o.kept (t':=d.toks) T,
  kII G Q l1 Z _ _ _ _ _ (zap _ _ _ D y),⟨M,B,⟨_,_,x⟩,h1,h2⟩,λ c j=>?_,q⟩
 simp at j;rcases j with rfl | rfl | rfl | rfl | rfl<;>exact f _ (by omega)
end
end L2
namespace HT
open PySem PySem.Spec PyProof.Rows
section
variable {prog:eY} {w:iG} {A:gh} {E:ar->ay->Prop} {s:ay}
def cat_tup0{t b:au}{m:List ar}{Q:ar->ay->Prop}(q:EZ s.heap t ([]:List ar).toArray)(p:EZ s.heap b m.toArray)(h:Q (.ref b) s):dq (model prog w) A (binaryOp .Add (.ref t) (.ref b)) Q E s:=by
 obtain⟨⟨cls,v,data,r⟩,l,j,n,o⟩:=id q;obtain⟨⟨i,f,data2,g⟩,a,d,u,c⟩:=id p;simp only at j o d c;subst j o d c
 exact De ⟨_,l,rfl⟩ ⟨_,a,rfl⟩ By DI zy zt (yw _ _)
   (tuple_addW0 t b _ m.toArray n u v f r g (by simp)) ⟨l,a,h⟩
end
end HT
namespace L2
open PySem PySem.Spec PyProof.Rows
def kTR(H H':Hp):Prop:=∀ b o,H b=some o->H' b=some o
section
variable {X:Cx}
def kCG{H:Hp}{p:au}(h:H p=none)(o:HO):kTR H (upd H p o):=λ b u q=>by rw[kM (kO q h)];exact q
inductive kRX(K:bb)(x:V)(lo:Option Int)(hi:Option Int)(H:Hp)(Q:VK):Prop
 | mk:∀ a xs,(x=.ref a)->(H a=some (.tup xs))->(∀ p H',kTR H H'->H' p=some (.tup (yA xs lo hi))->Q (.ref p) H')->kRX K x lo hi H Q
def yJ:SlR X (kRX X.K):=by
 intro d s m H x v j n lo g o Q I i l r y h;obtain⟨a,b,rfl,f,q⟩:=h;refine kOS d s m H _ v j n lo g o Q I i l r y ?_;by_cases c:HT.sIx b.length 0 lo=0/\HT.sIx b.length b.length g=b.length
 ·refine .inr ⟨a,b,rfl,SqT.of f,c,q a H (λ _ _ e=>e) ?_⟩
  rw[f];unfold yA;rw[c.1,c.2];simp
 ·exact .inl ⟨a,b,rfl,SqT.of f,c,λ p u=>q p _ (kCG u _) kA⟩
inductive kME(K:bb)(x:V)(y:V)(H:Hp)(Q:VK):Prop
 | mk:∀ a b xs ys,(x=.ref a)->(y=.ref b)->(H a=some (.tup xs))->(H b=some (.tup ys))->(xs.length+ys.length<=sizeLine)->(∀ p H',kTR H H'->H' p=some (.tup (xs++ys))->Q (.ref p) H')->kME K x y H Q
def gJ:OpR X (binaryOp .Add) (kME X.K):=by
 intro d s o H x y v u Q I i j h;obtain⟨a,b,l,B,rfl,rfl,f,g,r,q⟩:=h;by_cases c:l=[]
 ·subst c
  cases i
  cases j
  obtain⟨n,C,p1,_⟩:=I.tuple (SqT.of (K:=X.K) f);obtain⟨m,D,p2,_⟩:=I.tuple (SqT.of (K:=X.K) g);cases C
  exact HT.cat_tup0 p1 p2 ⟨.ref b,H,I,rfl,q b H (λ _ _ e=>e) (by simpa using g)⟩
 ·refine kPK d s o H _ _ v u Q I i j ⟨a,b,l,B,rfl,rfl,SqT.of f,SqT.of g,c,r,λ e=>q a H (λ _ _ z=>z) (by rw[e,iP];exact f),λ _ p A=>q p _ (kCG A _) kA⟩
end
def kIE{k:Bool}{K:bb}{a:au}{xs:List V}{g:TG}{b:TB}{h:St->Hp->Prop}{c:St}{H:Hp}(Pv:Nat->St->Hp->Prop)(h0:Pv 0 c H)(A:∀ i c H,i<=xs.length->Pv i c H->SqX K k H a xs)
  (l:∀ i x T c H,xs[i]?=some x->H T=none->Pv i c H->g (.ref T) c (upd H T (.tup [.int i,x])) λ σ2 H2=>b (Pv (i+1)) σ2 H2) (r:∀ c H,Pv xs.length c H->h c H):uB (Ite k K a) g b h c H:=by
 refine⟨λ i m c H=>m=xs.length-i/\i<=xs.length/\Pv i c H,⟨xs.length,by simp,iA _,h0⟩,?_⟩;rintro i m c H ⟨rfl,f,p⟩;have d:=A i c H f p;rcases iV i xs.length with j | j
 ·refine .inr ⟨⟨xs,xs[i],d,by simp[j]⟩,Pv (i+1),λ u s q=>⟨xs.length-(i+1),by omega,rfl,by omega,q⟩,λ x s o=>?_⟩
  obtain⟨T,n,v,rfl,y,rfl⟩:=o;exact l i n T c H (y xs d) v p
 ·obtain rfl:i=xs.length:=by omega
  exact .inl ⟨⟨xs,d,rfl⟩,r c H p⟩
section
variable {X:Cx}
end
end L2
namespace SetI
open PySem L2 PyProof.Rows PySem.Spec
section
variable {prog:eY} {w:iG} {A:gh} {E:ar->ay->Prop} {s:ay}
end
end SetI
namespace L2
open PySem PySem.Spec PyProof.Rows
section
variable {X:Cx}
end
end L2
namespace HT
open PySem PySem.Spec PyProof.Rows
section
variable {prog:eY} {w:iG} {A:gh} {E:ar->ay->Prop} {s:ay}
end
end HT
namespace L2
open PySem PySem.Spec PyProof.Rows
section
variable {X:Cx}
end
end L2
namespace Tri
open Cyc Rnd
end Tri
namespace HT
open PySem PySem.Spec PyProof.Rows
section
variable {prog:eY} {w:iG} {A:gh} {E:ar->ay->Prop} {s:ay}
end
end HT
namespace L2
open PySem PySem.Spec PyProof.Rows
section
variable {X:Cx}
def aM(n:Nat):List V:=(cq n).map λ(i:Nat)=>V.int (i:Int)
def kKM{n:Nat}{a:Array ar}(h:ItemsOf (λ i v=>∃ t,v=.int ((0:Int)+i*1) t) a n):Vals (aM n) a.toList:=by
 obtain⟨h1,d⟩:=h
 have:∀(m:Nat)(l:List ar)(k:Nat),l.length=m->(∀(j:Nat)(v:ar),l[j]?=some v->∃ t,v=ug (((k+j:Nat):Int)) t)->Vals ((zu k m).map λ(i:Nat)=>V.int (i:Int)) l:=λ m=>by
  induction m with
  | zero=>intro l k b _;rw[og.mp b];exact .nil
  | succ m ih =>
   intro l k b c
   match l,b with
   | x::l,b =>
    rw[wd,gm];refine .cons ?_ (ih l (k+1) (by simpa using b) λ j v e=>?_)
    ·obtain⟨t,rfl⟩:=c 0 x rfl
     exact⟨t,by simp⟩
    ·obtain⟨t,rfl⟩:=c (j+1) v (by simpa using e)
     exact⟨t,by congr 1;omega⟩
 unfold aM;rw[List.range_eq_range'];refine this n a.toList 0 (by simpa using h1) λ j v e=>?_;obtain⟨t,rfl⟩:=d j v (by simpa using e);exact⟨t,by simp⟩
inductive kQO(tp:Bool)(Q:VK)(vs:List V)(H1:Hp):Prop
 | mk:∀(n:Nat),(vs=[.int (n:Int)])->(n<=1000)->(∀ l,H1 l=none->Q (.ref l) (upd H1 l (if tp then .tup (aM n) else .lst (aM n))))->kQO tp Q vs H1
def kVS(b:Bool)(f:TA):TE:=λ a H Q=>f a H λ d c=>kQO b Q d c
def kPF{a:iH}{v:TA}{p p2 i c:Pos}(L:X.calm=true)(G:Gl X "list")(O:X.mg "list" = none)(j:Gl X "range")(r:X.mg "range" = none)(B:PA X [a] v)(D:starEach [a] X.env=[(false,eval a X.env)]:=by rfl)
  (l:starEach [.Call (.Name "range" p2) [a] [] c] X.env=[(false,eval (.Call (.Name "range" p2) [a] [] c) X.env)]:=by rfl):PE X (.Call (.Name "list" p) [.Call (.Name "range" p2) [a] [] c] [] i) (kVS false v):=by
 intro d s x H Q I h;refine Fk (wN I G O boot_list (ie ?_ l rfl));refine Fz (Fk (wN I j r Ed (ie (thn (B c d s x H _ I h) λ us f ⟨vs,M,A,Y,N⟩=>?_) D rfl)));obtain⟨n,rfl,J,q⟩:=N;obtain⟨u,rfl,t,rfl⟩:=vU Y;refine call_range_1 ?_;refine GC ?_;have y:Inv X d x M {f with heap:=f.heap.push {cls:=.type "range",data:=.fields #[.int 0 f.toks,.int n t,.int 1 (f.toks+1)]},toks:=f.toks+1+1}:=A.kept λ b o e=>ao _ e
 refine call_list_range (n:=n) (A.ok.hd L) (GM ..) (small_one (by omega) (by omega) (by omega) (by omega)) (by rw[rangeSize_one];split<;>omega) (by omega) λ h' T m Z C U g=>?_;have S:=y.laid (t':=T) (o:=.lst (aM n)) C (be _) (show ObjOk X.prog X.w _ _ _ (.lst (aM n)) from⟨by unfold aM;rw[aj,gv];exact je J (by decide),m.toList,_,kKM g,by simpa using U⟩);exact⟨.ref _,_,S,rfl,q _ (y.hok.fresh (be _))⟩
end
end L2
namespace Tri
open Cyc
end Tri
namespace Fc
open Cyc Tri Rnd
def kNQ{α:Type}(l:List α)(p:α->Bool):(l.filter p).length+(l.filter λ x=>!p x).length=l.length:=by
 induction l with
 | nil=>rfl
 | cons x l ih =>
  rw[ux,ux,iC]
  cases p x<;>simp<;>omega
section
variable {W:Rows}
def kMT(S:Nb W){t:Nat×Nat}(h:t∈kS W):nxt W t≠t:=λ e=>by
 have a:=S.e (mem_steps.mp (show(t.1,t.2)∈kS W from h));have:(nxt W t).1=t.2:=rfl;rw[e]at this;exact a.2.2 this.symm
def kSP(S:Nb W):(stepsS W).Nodup:=(sortP_perm _).nodup_iff.mpr (dS S.nd)
def kKR(S:Nb W):2*(tiesS W).length=(kS W).length:=by
 have nd:=kSP S;have l:(stepsS W).length=(kS W).length:=(sortP_perm _).length_eq;have d:=kNQ (stepsS W) λ t=>decide (t.1<t.2)
 have perm:(((stepsS W).filter λ t=>!decide (t.1<t.2)).map λ t=>(t.2,t.1)).Perm ((stepsS W).filter λ t=>decide (t.1<t.2)):=by
  refine(ua ?_ (nd.filter _)).mpr λ t=>?_
  ·exact md.mpr ((nd.filter _).imp λ{a b} h e=>h (by
    injection e with e1 e2
    exact wb e2 e1))
  ·constructor
   ·intro h
    obtain⟨u,c,rfl⟩:=iJ.mp h;obtain⟨a,b⟩:=iW.mp c;have e:=mem_stepsS.mp a;have f:=(S.e e).2.2;refine iW.mpr ⟨mem_stepsS.mpr (S.sym _ _ e),?_⟩;have b:¬ u.1<u.2:=by simpa using b
    exact decide_eq_true (show u.2<u.1 by omega)
   ·intro h
    obtain⟨a,b⟩:=iW.mp h;have b:=of_decide_eq_true b;refine iJ.mpr ⟨(t.2,t.1),iW.mpr ⟨mem_stepsS.mpr (S.sym _ _ (mem_stepsS.mp a)),?_⟩,rfl⟩;have:¬ t.2<t.1:=by omega
    simpa using this
 have e:=perm.length_eq;rw[aj]at e;unfold tiesS;omega
def kCV(S:Nb W):(fgo W (stepsS W)).2.Perm (kS W):=by
 have a:=fgo_ok S (stepsS W) λ t h=>(sortP_perm _).mem_iff.mp h;exact(ua a.nd (dS S.nd)).mpr λ t=>⟨a.sub t,λ h=>a.cov t ((sortP_perm _).mem_iff.mpr h)⟩
def kJX(S:Nb W):((uP W).map ip).sum=(kS W).length:=by
 have b:=fgo_ok S (stepsS W) λ t h=>(sortP_perm _).mem_iff.mp h;obtain⟨R,_,a,r3⟩:=b.reps;have e:=(kCV S).length_eq;unfold uP;rw[a,<-e,r3,yd,vw]
 congr 1
 refine yi λ r _=>?_;show((rnd W r).map _).length=_;rw[aj]
def kTI(S:Nb W):(∀ f∈facesS W,f.length=3)↔∀ t∈kS W,(nxt W (nxt W t)).2=t.1:=by
 have s:=fgo_ok S (stepsS W) λ t h=>(sortP_perm _).mem_iff.mp h;obtain⟨R,y,u,r3⟩:=s.reps
 have d:∀ f,f∈facesS W↔∃ r∈R,f=(rnd W r).map (·.1):=λ f=>by
  unfold facesS;rw[(vF _).mem_iff];unfold uP;rw[u,iJ];exact⟨λ⟨r,a,b⟩=>⟨r,a,b.symm⟩,λ⟨r,a,b⟩=>⟨r,a,b.symm⟩⟩
 have m:∀ r∈R,r∈kS W:=λ r g=>(sortP_perm _).mem_iff.mp (y r g);constructor
 ·intro h t x
  have p:=(kCV S).mem_iff.mpr x;rw[r3,AR]at p;obtain⟨r,g,n⟩:=p;have o:=h _ ((d _).mpr ⟨r,g,rfl⟩);rw[aj,rnd_len]at o;obtain⟨j,rfl⟩:=(bW S (m r g)).mp n;have back:=(sR S (m r g)).2.2.1;rw[o]at back
  have e:nxt W (nxt W (nxt W (it (nxt W) j r)))=it (nxt W) j r:=by
   show it (nxt W) 3 (it (nxt W) j r)=_;rw[<-bA,AB,bA,back]
  have l:(nxt W (nxt W (nxt W (it (nxt W) j r)))).1=(nxt W (nxt W (it (nxt W) j r))).2:=rfl;rw[e]at l;exact l.symm
 ·intro h f v
  obtain⟨r,g,rfl⟩:=(d f).mp v;have i:=m r g;rw[aj,rnd_len];have to:=(tL S).to
  have c:it (nxt W) 3 r=r:=by
   show nxt W (nxt W (nxt W r))=r;have a:=h r i;have b:=h _ (to r i);have l:(nxt W (nxt W (nxt W r))).1=r.1:=a;have q:(nxt W (nxt W (nxt W r))).2=r.2:=b;exact wb l q
  refine per_is (by decide) c λ j A B=>?_;have:j=1\/j=2:=by omega
  rcases this with rfl | rfl
  ·exact kMT S i
  ·intro e
   have e:nxt W (nxt W r)=r:=e;have c:nxt W (nxt W (nxt W r))=r:=c;rw[e]at c;exact kMT S i c
def three_cornered(S:Nb W):(W.length+(facesS W).length=(tiesS W).length+2/\∀ f∈facesS W,f.length=3)↔((∀ t∈kS W,(nxt W (nxt W t)).2=t.1)/\(kS W).length+12=6*W.length):=by
 rw[<-kTI S];have l:=kKR S;have fs:=kJX S;have d:(facesS W).length=(uP W).length:=(vF _).length_eq
 have key:(∀ f∈facesS W,f.length=3)->3*(facesS W).length=(kS W).length:=λ h=>by
  have c:∀ f∈uP W,f.length=3:=λ f i=>h f ((vF _).mem_iff.mpr i);rw[d,<-fs];generalize uP W=F at c;clear h fs d
  induction F with
  | nil=>rfl
  | cons f F ih =>
   rw[gm,Ab,iC,<-ih λ g j=>c g (eD _ j),c f (fc ..)];omega
 constructor
 ·rintro⟨a,b⟩
  have:=key b;exact⟨b,by omega⟩
 ·rintro⟨b,a⟩
  have:=key b;exact⟨by omega,b⟩
end
end Fc
namespace Tri
open Cyc Rnd
section
variable {L L2:Rows} {Os Ps:List (List Nat)} {A M C:List Nat} {f l:Nat}
end
def stF(W:Rows)(top b:List Nat)(a:Nat):Option (List Nat) :=
 let below:=b.filter λ q=>decide (q∈W.getD a [])
 let st:=top.filter λ q=>decide (q∈below)
 if st.length<2\/st.length≠below.length then none
 else if(top.drop (top.idxOf (st.headD 0))).take st.length≠st then none
 else if(st.zip st.tail).all (λ t=>decide ((nxt W t).2=a))=true then some st else none
def poF(top st:List Nat)(a:Nat):List Nat:=top.take (top.idxOf (st.headD 0)+1)++a::top.drop (top.idxOf (st.getLastD 0))
def goF(W:Rows)(a:List Nat):Nat->Option (List (List Nat)×List (List Nat))
 | 0=>some ([],[a.take 2])
 | i+1=>match goF W a i with
  | none=>none
  | some (found,tops)=>match stF W (tops.getLastD []) (a.take (i+2)) (a.getD (i+2) 0) with
   | none=>none
   | some st=>some (found++[st],tops++[poF (tops.getLastD []) st (a.getD (i+2) 0)])
theorem bE:∀{l:List Nat}{a b:Nat},(a,b)∈l.zip l.tail->Adj l a b
 | [],_,_,h=>by simp at h
 | [x],_,_,h=>by simp at h
 | x::y::l,a,b,h=>by
  rw[Eu,BV]at h;rcases eK.mp h with e | e
  ·injection e with e1 e2
   exact(cR x y l a b).mpr (.inl ⟨e1,e2⟩)
  ·exact(cR x y l a b).mpr (.inr (bE (l:=y::l) e))
theorem kGX{m:Nat->Nat}:∀{B:List Nat}{x:Nat}{C:List Nat},(∀ b∈B,m b≠m x)->((B++x::C).map m).idxOf (m x)=B.length
 | [],x,C,_=>by simp
 | b::B,x,C,h=>by
  have:=kGX (B:=B) (x:=x) (C:=C) λ b a=>h b (eD _ a);rw[kj,gm,List.idxOf_cons,this,iC];have:(m b == m x)=false:=beq_eq_false_iff_ne.mpr (h b (fc ..));rw[this]
  rfl
def kMS{W:Rows}(nd:∀(p:Nat)(row:List Nat),W[p]?=some row->row.Nodup){x y v:Nat}(h:R W y v x):(nxt W (x,y)).2=v:=by
 obtain⟨row,e,n⟩:=h;unfold nxt;show(xP (W.getD y []) x).getD 0=v;rw[av,e];show(xP row x).getD 0=v;rw[sP (nd y row e) n]
 rfl
section
variable {W:Rows} {ms:List Nat} {n:Nat}
end
def jY{W:Rows}(G:Good W):(∀ t∈kS W,(nxt W (nxt W t)).2=t.1)/\(kS W).length+12=6*W.length:=by
 have S:=(Wb.of G).toNb;refine⟨λ t b=>?_,by rw[yV];exact G.tot⟩;obtain⟨x,y⟩:=t;obtain⟨z,r,a,_⟩:=uD S (mem_steps.mp b);rw[a];exact kMS G.nd (G.tri _ _ _ r)
def kFG{W:Rows}{top b st:List Nat}{c:Nat}(h:stF W top b c=some st) :
  ∃ B f M l C,st=f::M++[l]/\top=B++(f::M++[l])++C/\(∀ q∈st,q∈b/\q∈W.getD c [])/\∀ t∈st.zip st.tail,(nxt W t).2=c:=by
 unfold stF at h;dsimp only at h;by_cases g:(top.filter λ q=>decide (q∈b.filter λ q=>decide (q∈W.getD c []))).length<2\/(top.filter λ q=>decide (q∈b.filter λ q=>decide (q∈W.getD c []))).length≠(b.filter λ q=>decide (q∈W.getD c [])).length
 ·rw[if_pos g]at h
  cases h
 rw[if_neg g]at h
 split at h
 ·cases h
 rename_i d
 split at h
 ·rename_i c3
  have h:=bg h;have d:=Decidable.not_not.mp d;rw[h]at g d c3
  have mem:∀ q∈st,q∈b/\q∈W.getD c []:=λ q m=>by
   rw[<-h]at m;have:=of_decide_eq_true (iW.mp m).2;exact⟨(iW.mp this).1,of_decide_eq_true (iW.mp this).2⟩
  have len:2<=st.length:=by omega
  obtain⟨f,r,i⟩ : ∃ a r,st=a::r:=by
   match st,len with
   | a::r,_=>exact⟨a,r,rfl⟩
  have j:r≠[]:=λ z=>by rw[i,z]at len;simp at len
  refine⟨top.take (top.idxOf (st.headD 0)),f,r.dropLast,r.getLast j,(top.drop (top.idxOf (st.headD 0))).drop st.length,?_,?_,mem,λ t n=>of_decide_eq_true (wk.mp c3 t n)⟩
  ·rw[i,kj,eC j]
  ·rw[kj,eC j,<-i]
   have o:top.drop (top.idxOf (st.headD 0))=st++(top.drop (top.idxOf (st.headD 0))).drop st.length:=by
    conv=>lhs;rw[<-fk st.length (top.drop (top.idxOf (st.headD 0))),d]
   rw[dh,<-o,fk]
 ·cases h
def kEL{B:List Nat}{x:Nat}{C:List Nat}(h:x∉B):(B++x::C).idxOf x=B.length:=by
 have:=kGX (m:=id) (B:=B) (x:=x) (C:=C) λ b a e=>h (by rw[<-(show b=x from e)];exact a);simpa using this
def bO{top B M C:List Nat}{f l d:Nat}(e:top=B++(f::M++[l])++C)(nd:top.Nodup):poF top (f::M++[l]) d=B++[f,d,l]++C:=by
 subst e;have n:=dc.mp nd;have a:=dc.mp n.1;have d3:=dc.mp a.2.1;have o:f∉B:=λ h=>a.2.2 f h f (by simp) rfl
 have i:l∉B++(f::M):=λ h=>by
  rcases ck.mp h with z | z
  ·exact a.2.2 l z l (by simp) rfl
  ·exact d3.2.2 l z l (by simp) rfl
 have c:B++(f::M++[l])++C=B++f::(M++[l]++C):=by simp
 have b:B++(f::M++[l])++C=(B++f::M)++l::C:=by simp
 have j:(B++(f::M++[l])++C).idxOf f=B.length:=by rw[c];exact kEL o
 have q:(B++(f::M++[l])++C).idxOf l=(B++f::M).length:=by rw[b];exact kEL i
 unfold poF;have m:(f::M++[l]).getLastD 0=l:=by rw[jf,iq];rfl
 rw[show(f::M++[l]).headD 0=f from rfl,m,j,q]
 have p:(B++(f::M++[l])++C).take (B.length+1)=B++[f]:=by
  rw[c,show B++f::(M++[l]++C)=(B++[f])++(M++[l]++C) by simp,ya (by simp)]
 have g:(B++(f::M++[l])++C).drop (B++f::M).length=l::C:=by rw[b,Ap rfl]
 rw[p,g];simp
structure Top(W:Rows)(some top:List Nat):Prop where
 nd:top.Nodup
 sub:∀ x∈top,x∈some
 path:∀ x y,Adj top x y->E W x y
def Top.step{W:Rows}{c top st:List Nat}{i:Nat}(T:Top W c top)(sym:∀ a b,E W a b->E W b a)(v:i∉c)(h:stF W top c i=some st) :
  Top W (c++[i]) (poF top st i)/\(∀ x∈st,x∈top)/\st≠[]/\∀ t∈st.zip st.tail,E W t.1 t.2:=by
 obtain⟨B,f,M,l,C,rfl,o,mem,nx⟩:=kFG h;have nd:=T.nd;rw[bO o nd];have d:=T.path;have sub:=T.sub;rw[o]at nd d sub
 have p:∀ q,q∈f::M++[l]->E W i q:=λ q u=>by
  have:=(mem q u).2;rw[av]at this
  cases e:W[i]? with
  | none=>rw[e]at this;cases this
  | some row=>rw[e]at this;exact⟨row,e,this⟩
 have m:=dc.mp nd;have n:=dc.mp m.1;have d3:=dc.mp n.2.1;have all:∀ x∈B++(f::M++[l])++C,x≠i:=λ x g e=>v (by rw[<-e];exact sub x g);refine⟨⟨?_,λ x g=>?_,λ x y ad=>?_⟩,λ x g=>by rw[o];exact dw _ (dj _ g),by simp,λ t A=>?_⟩
 ·have r:f≠l:=d3.2.2 f (by simp) l (by simp)
  have h1:B.Nodup:=n.1;have D:C.Nodup:=m.2.1;refine dc.mpr ⟨dc.mpr ⟨h1,?_,λ x g y j=>?_⟩,D,λ x g y j=>?_⟩
  ·have a:=all f (by simp)
   have b:=all l (by simp);simp[a,r,b.symm]
  ·simp only[eK,rm,or_false]at j
   rcases j with rfl | rfl | rfl
   ·exact n.2.2 x g _ (by simp)
   ·exact all x (by simp[g])
   ·exact n.2.2 x g _ (by simp)
  ·rcases ck.mp g with z | z
   ·exact m.2.2 x (dw _ z) y j
   ·simp only[eK,rm,or_false]at z
    rcases z with rfl | rfl | rfl
    ·exact m.2.2 _ (by simp) y j
    ·exact λ e=>all y (by simp[j]) e.symm
    ·exact m.2.2 _ (by simp) y j
 ·rcases ck.mp g with z | z
  ·rcases ck.mp z with z | z
   ·exact dw _ (sub x (by simp[z]))
   ·simp only[eK,rm,or_false]at z
    rcases z with rfl | rfl | rfl
    ·exact dw _ (sub _ (by simp))
    ·simp
    ·exact dw _ (sub _ (by simp))
  ·exact dw _ (sub x (by simp[z]))
 ·have s:B++[f,i,l]++C=B++f::(i::(l::C)):=by simp
  have p1:B++(f::M++[l])++C=B++f::(M++l::C):=by simp
  have p2:B++(f::M++[l])++C=(B++f::M)++l::C:=by simp
  rw[s,jN]at ad;rcases ad with z | z
  ·exact d x y (by rw[p1,jN];exact .inl z)
  ·rw[cR]at z
   rcases z with⟨rfl,rfl⟩ | z
   ·exact sym _ _ (p _ (by simp))
   ·rw[cR]at z
    rcases z with⟨rfl,rfl⟩ | z
    ·exact p _ (by simp)
    ·exact d x y (by rw[p2,jN];exact .inr z)
 ·obtain⟨a,b⟩:=t
  have ad:=bE A;have e:f::M++[l]++C=(f::M)++l::C:=by simp
  have this:Adj (f::(M++l::C)) a b:=by
   have:Adj ((f::M)++l::C) a b:=by
    rw[jN];exact .inl ad
   exact this
  refine d a b ?_;rw[show B++(f::M++[l])++C=B++f::(M++l::C) by simp,jN];exact .inr this
theorem cG{W:Rows}{a:List Nat}{i:Nat}(h:goF W a i=none):∀ j,goF W a (i+j)=none
 | 0=>h
 | j+1=>by
  have:=cG h j;show goF W a (i+j+1)=none;unfold goF;rw[this]
def zG(W:Rows)(a b c:Nat)(d:List Nat):Option (List (List Nat)×List (List Nat)) :=
 if d[0]?=some a/\d[1]?=some b/\d.getLast?=some c then goF W d (d.length-2) else none
def mV{W:Rows}{a:List Nat}{i:Nat}{fs ts:List (List Nat)}(h:goF W a i=some (fs,ts))(z:stF W (ts.getLastD []) (a.take (i+2)) (a.getD (i+2) 0)=none):goF W a (i+1)=none:=by
 unfold goF;rw[h];dsimp only;rw[z]
def mW{W:Rows}{a:List Nat}{i:Nat}{fs ts:List (List Nat)}{st:List Nat}(h:goF W a i=some (fs,ts))(z:stF W (ts.getLastD []) (a.take (i+2)) (a.getD (i+2) 0)=some st):goF W a (i+1)=some (fs++[st],ts++[poF (ts.getLastD []) st (a.getD (i+2) 0)]):=by
 unfold goF;rw[h];dsimp only;rw[z]
def cB{α:Type}(l:List (List α))(x:List α):(l++[x]).getLastD []=x:=by
 rw[jf,iq]
 rfl
def Top.len{W:Rows}{some top:List Nat}(T:Top W some top):top.length<=some.length:=eO T.nd T.sub
end Tri
namespace L2
open PySem PySem.Spec PyProof.Rows
def nH:entryFor table "dict_itemiterator.__iter__" = some zi.«dict_keyiterator.__iter__»:=by first | (rw[<-F.entry_dict_keyiterator_iter];rfl) | kernel_rfl | rfl | decide +kernel
section
variable {prog:eY} {w:iG} {A:gh} {E:ar->ay->Prop} {s:ay}
def oA{it d:au}{i n ep:Nat}{ok b:ar}{Q:ar->ay->Prop}(c:IsItemIter s.heap it d i n ep ok b)(h:Q (.ref it) s):dq (model prog w) A (pyIter (.ref it)) Q E s:=by
 have a:s.TypeIs (.ref it) "dict_itemiterator":=⟨_,c,rfl⟩;refine wpAny_pyIter_slot a Ak (ky Ak a nH ?_ (F.args_dict_itemiterator_iter_1 _));show dq _ _ (ret (.ref it)) _ _ s;exact bp ⟨_,rfl,"dict_itemiterator",_,a,F.slot_dict_itemiterator_next.lookup,h⟩
end
def kSY{P:eY}{w:iG}{k:Key}{u:ar}(h:(qH P w).is k u=true):RelV (kV k) u:=by
 rw[kEG]at h;rcases jH h with⟨i,t,rfl,rfl⟩ | ⟨x,t,rfl,rfl⟩
 ·exact⟨t,rfl⟩
 ·exact⟨t,rfl⟩
def Itm(d:au)(o:Obj):It :=
 ⟨λ i H=>∃ a b,H d=some (.frz o (.dK a))/\a[i]?=some b,λ i H v c=>∃ T b,H T=none/\v=.ref T/\(∀ a,H d=some (.frz o (.dK a))->a[i]?=some b)/\c=upd H T (.tup [kV b.1,b.2]),λ i H=>∃ a,H d=some (.frz o (.dK a))/\a.length=i⟩
def kEN{P:eY}{w:iG}{H:Hp}{h:iK}{d:au}{o:Obj}{c:Array Bz}{ep:Nat}{kvs:List (Key×V)}(ok:HOk P w H h)(e:H d=some (.frz o (.dK kvs)))(i:o.data=.dict c ep):∃ vs,KV kvs vs/\h.DictAt (qH P w) d vs ep/\vs.length=c.size:=by
 obtain⟨g,_,_,vs,b,m,j,l,f,x,a,k,p,nd⟩:=ok d _ e;rw[g]at f;cases f
 rw[i]at a;injection a with z1 z2
 subst z1;subst z2;exact⟨vs,b,⟨o,c,g,x,i,k,p,nd⟩,by rw[<-p.length];simp⟩
def KV.at'{kvs:List (Key×V)}{c:List (Key×ar)}(r:KV kvs c){i:Nat}{b:Key×V}{p:Key×ar}(h1:kvs[i]?=some b)(a:c[i]?=some p):b.1=p.1/\RelV b.2 p.2:=by
 induction r generalizing i with
 | nil=>simp at h1
 | cons h t ih =>
  cases i with
  | zero =>
   simp at h1 a;subst h1;subst a;exact h
  | succ i=>exact ih (by simpa using h1) (by simpa using a)
def kDF{P:eY}{w:iG}{K:bb}{r:List iH} {x1} {S:Pos} (d it:au) (o:Obj) {es:Array Bz} {ep:Nat} (hd:o.data=.dict es ep):Turn P w K (.Tuple r x1 S) (Itm d o) [it] it (λ i h=>∃ ok ov,IsItemIter h it d i es.size ep ok ov) where
 mem:=by simp
 obj:=λ i h st b c=>by
  obtain⟨ok,ov,a⟩:=st;rw[bu.mp c];exact⟨_,a,λ v z=>by cases z⟩
 keep:=λ i h h' st kk=>by
  obtain⟨ok,ov,a⟩:=st;exact⟨ok,ov,kk it (by simp) _ a⟩
 item:=by
  intro X O Q L hc i m s σ H E I U st M;subst O Q L;obtain⟨ok,ov,a⟩:=st;obtain⟨B,J,D,Y⟩:=M;obtain⟨T,f,N,C⟩:=kEN I.hok D hd;have hi:i<B.length:=(ak.mp Y).1;obtain⟨⟨k',u⟩,hu⟩ : ∃ p,T[i]?=some p:=⟨T[i]'(by rw[<-f.length];exact hi),ae _⟩;have g:=f.at' Y hu;rw[<-C]at a;refine wpAny_pyNext_items_item a N hu λ key h' j ho hT hz hk=>?_;refine⟨_,rfl,wpAny_letOwnedTupleGo_items ho λ h2 G A=>?_⟩;have l:it<s.heap.objs.size:=cf a;have Z:h2.get? s.heap.objs.size=some {cls:=.type "tuple",data:=.seq #[key,u]}:=A.extBut _ _ (ja l) hT
  obtain⟨I2,n2⟩:=I.handed (x:=kV J.1) (y:=J.2) (u:=key) (v:=u) (t':=s.toks) (ch:=[it]) (by rw[g.1];exact kSY j) g.2 Z (λ b o c q=>A.extBut b o (λ z=>c (by simp[z])) (hk b o (λ z=>c (by simp[z])) q)) U
   (λ b c=>by rw[bu.mp c];exact l)
  refine⟨.ref s.heap.objs.size,_,I2,rfl,⟨_,J,I.hok.fresh (be _),rfl,λ ks n=>?_,rfl⟩,⟨_,_,by rw[<-C];exact G⟩,n2⟩;rw[D]at n;cases n
  exact Y
 done:=by
  intro X O Q L hc i m s σ H E I U st M;subst O Q L;obtain⟨ok,ov,a⟩:=st;obtain⟨B,D,hl⟩:=M;obtain⟨T,f,N,C⟩:=kEN I.hok D hd;rw[<-C]at a;refine wpAny_pyNext_items_end (I.ok.hd hc) a N (ud (by rw[<-f.length,hl];exact be _)) λ h' eb=>⟨rfl,I.turnedL (t':=s.toks) (ch:=[it]) (λ b o c q=>eb b o (λ z=>c (by simp[z])) q) λ b c=>U b c⟩
 self:=λ _ _ _ _ _ st h=>by
  obtain⟨ok,ov,a⟩:=st;exact oA a h
section
variable {X:Cx}
inductive kGY(R:It->Hp->Prop)(x:V)(H1:Hp):Prop
 | mk:∀ d kvs,(x=.ref d)->(((H1 d=some (.dK kvs)/\∀ o,R (Itm d o) (upd H1 d (.frz o (.dK kvs))))\/∃ o,H1 d=some (.frz o (.dK kvs))/\R (Itm d o) H1))->kGY R x H1
def kTC(c:TE):TI:=λ a H R=>c a H λ x b=>kGY R x b
def kBL{o:iH}{U:TE}{i j y:Pos}{G:List iH} {x1} (ho:PE X o U)
  (m:attributeBase o "items" X.env (eval o X.env)=eval o X.env:=by rfl) (l:(i.endLine == j.line)=true:=by rfl):PI X (.Tuple G x1 y) (.Call (.Attribute o "items" i) [] [] j) (kTC U):=by
 intro f s T H R I h;refine wpAny_Call_method0_late m l (thn (ho f s T H _ I h) λ v c ⟨x,H1,N,r1,d,n,ex,q1⟩=>?_);subst ex;obtain rfl:v=jr d:=r1
 have fr:∃ a B,Inv X f T B c/\B d=some (.frz a (.dK n))/\R (Itm d a) B:=by
  rcases q1 with⟨e,q⟩ | ⟨a,e,q⟩
  ·obtain⟨z,Q,D,C,p⟩:=kHH N.hok e
   obtain⟨a,es,L,h1,r⟩:=id p;exact⟨a,_,vP (t':=c.toks) (ob:=.frz a (.dK n)) N (by rw[e];exact oz) ⟨rfl,λ _ _=>rfl⟩ ⟨a,h1⟩ ⟨h1,z,Q,D,C,p⟩,kA,q a⟩
  ·exact⟨a,H1,N,e,q⟩
 obtain⟨a,B,A,S,hR⟩:=fr;obtain⟨h1,z,Q,a0,Y,M⟩:=A.hok d _ S;obtain⟨a1,es,L,J,O,g,_⟩:=id M;rw[h1]at J
 cases J
 obtain⟨D,C,p,lv⟩:=kEN A.hok S g;have Z:=p.dictOf.typeIs (s:=c);refine⟨"dict","dict.items",F.plainAttrs_dict,Dy,F.type_dict_items,Z,λ b q=>?_,?_⟩
 ·cases q
  exact⟨a,h1,O.2.1⟩
 refine CO rfl (PySem.evalArgs_none (call_meetsIn Dy Z F.entry_dict_items (F.args_dict_items_1 _) (meets_dict_items (qH X.prog X.w) d Q) ⟨⟨D,p.dictOf⟩,?_⟩));refine wpAny_pyIter_items (knd:=qH X.prog X.w) (v:=c.heap.objs.size) (d:=d) (kvs:=D) (ep:=L) ⟨_,cg _ rfl,rfl,rfl⟩ (p.push _) ?_;have hk:∀ b u,c.heap.get? b=some u->((c.heap.push {cls:=.type "dict_items",data:=.fields #[.ref d]}).push {cls:=.type "dict_itemiterator",data:=.fields #[.none,.bool false,.ref d,.int 0 0,.int D.length 0,.int L 0,.none,.none]}).get? b=some u:=λ b u e=>ao _ (ao _ e);have hz:(c.heap.push {cls:=.type "dict_items",data:=.fields #[.ref d]}).objs.size=c.heap.objs.size+1:=iZ ..;refine⟨_,[(c.heap.push {cls:=.type "dict_items",data:=.fields #[.ref d]}).objs.size],_,_,B,rfl,A.kept (t':=c.toks) hk,kDF d _ a g,⟨.none,.none,?_⟩,λ b hb=>?_,hR⟩
 ·rw[<-lv]
  exact cg _ rfl
 ·rw[bu.mp hb,hz]
  exact A.fpOk (by omega) (A.hok.fresh (by omega))
end
def gO{d:au}{o:Obj}{kvs:List (Key×V)}{g:TG}{bd:TB}{f:St->Hp->Prop}{a:St}{H:Hp}(Pv:Nat->St->Hp->Prop)(h0:Pv 0 a H)(y:∀ i a H,i<=kvs.length->Pv i a H->H d=some (.frz o (.dK kvs)))
  (h:∀ i kv T a H,kvs[i]?=some kv->H T=none->Pv i a H->g (.ref T) a (upd H T (.tup [kV kv.1,kv.2])) λ σ2 H2=>bd (Pv (i+1)) σ2 H2) (l:∀ a H,Pv kvs.length a H->f a H):uB (Itm d o) g bd f a H:=by
 refine⟨λ i m a H=>m=kvs.length-i/\i<=kvs.length/\Pv i a H,⟨kvs.length,by simp,iA _,h0⟩,?_⟩;rintro i m a H ⟨rfl,c,p⟩;have b:=y i a H c p;by_cases n:i<kvs.length
 ·refine .inr ⟨⟨kvs,kvs[i],b,by simp[n]⟩,Pv (i+1),λ r s q=>⟨kvs.length-(i+1),by omega,rfl,by omega,q⟩,λ x s j=>?_⟩
  obtain⟨T,kv,u,rfl,v,rfl⟩:=j;exact h i kv T a H (v kvs b) u p
 ·have:i=kvs.length:=by omega
  subst this;exact .inl ⟨⟨kvs,b,rfl⟩,l a H p⟩
end L2
namespace Tri
open Cyc Rnd
def cY{W:Rows}{top a st:List Nat}{b:Nat}(nd:top.Nodup)(h:stF W top a b=some st) :
  ∃ B f M l C,st=f::M++[l]/\top=B++(f::M++[l])++C/\(∀ q,q∈st↔q∈a/\q∈W.getD b [])/\∀ t∈st.zip st.tail,(nxt W t).2=b:=by
 obtain⟨B,f,M,l,C,j,i,mem,nx⟩:=kFG h;refine⟨B,f,M,l,C,j,i,λ q=>⟨mem q,λ g=>?_⟩,nx⟩
 have snd:st.Nodup:=by
  rw[i]at nd;rw[j];exact(dc.mp (dc.mp nd).1).2.1
 have len:st.length=(a.filter λ q=>decide (q∈W.getD b [])).length:=by
  unfold stF at h;dsimp only at h;by_cases d:(top.filter λ q=>decide (q∈a.filter λ q=>decide (q∈W.getD b []))).length<2\/(top.filter λ q=>decide (q∈a.filter λ q=>decide (q∈W.getD b []))).length≠(a.filter λ q=>decide (q∈W.getD b [])).length
  ·rw[if_pos d]at h
   cases h
  rw[if_neg d]at h
  split at h
  ·cases h
  split at h
  ·have h:=bg h
   rw[h]at d;omega
  ·cases h
 by_cases c:q∈st
 ·exact c
 ·exfalso
  have:=eO (gj.mpr ⟨c,snd⟩) (l₂:=a.filter λ q=>decide (q∈W.getD b [])) λ x m=>by
   rcases eK.mp m with rfl | z
   ·exact iW.mpr ⟨g.1,decide_eq_true g.2⟩
   ·exact iW.mpr ⟨(mem x z).1,decide_eq_true (mem x z).2⟩
  rw[iC]at this;omega
def kAM{W:Rows}{top a B M C:List Nat}{f l b:Nat}(nd:top.Nodup)(c:a.Nodup)(e:top=B++(f::M++[l])++C)(sub:∀ q∈top,q∈a)(mem:∀ q,q∈f::M++[l]↔q∈a/\q∈W.getD b [])(nx:∀ t∈(f::M++[l]).zip (f::M++[l]).tail,(nxt W t).2=b) :
  stF W top a b=some (f::M++[l]):=by
 have i:=nd;rw[e]at i;have n:=dc.mp i;have j:=dc.mp n.1
 have g:∀ q,q∈(a.filter λ q=>decide (q∈W.getD b []))↔q∈f::M++[l]:=λ q=>by
  rw[iW,decide_eq_true_iff,mem]
 have x:(a.filter λ q=>decide (q∈W.getD b [])).Perm (f::M++[l]):=(ua (c.filter _) j.2.1).mpr g
 have s:(top.filter λ q=>decide (q∈a.filter λ q=>decide (q∈W.getD b [])))=f::M++[l]:=by
  have o:(λ q=>decide (q∈a.filter λ q=>decide (q∈W.getD b [])))=λ q=>decide (q∈f::M++[l]):=by
   funext q
   rw[iQ,decide_eq_true_iff,decide_eq_true_iff,g]
  rw[o,e,si,si];have m:B.filter (λ q=>decide (q∈f::M++[l]))=[]:=AH.mpr λ q d h=>j.2.2 q d q (of_decide_eq_true h) rfl;have u:C.filter (λ q=>decide (q∈f::M++[l]))=[]:=AH.mpr λ q d h=>n.2.2 q (dj _ (of_decide_eq_true h)) q d rfl;rw[m,u,DG.mpr λ q d=>decide_eq_true d];simp
 have v:(f::M++[l]).length=M.length+2:=by simp
 have m:f∉B:=λ h=>j.2.2 f h f (by simp) rfl
 have p:top.idxOf f=B.length:=by
  rw[e,show B++(f::M++[l])++C=B++f::(M++[l]++C) by simp];exact kEL m
 unfold stF;dsimp only;rw[s,x.length_eq,if_neg (by rw[v];omega),if_neg,if_pos]
 ·exact wk.mpr λ t r=>decide_eq_true (nx t r)
 ·intro h
  refine h ?_;rw[show(f::M++[l]).headD 0=f from rfl,p,e,dh,Ap rfl,ya rfl]
theorem kHU:∀{l:List Nat}{a b:Nat},Adj l a b->(a,b)∈l.zip l.tail
 | [],_,_,h=>absurd h id
 | [x],_,_,h=>absurd h id
 | x::y::l,a,b,h=>by
  rw[Eu,BV];rcases(cR x y l a b).mp h with⟨rfl,rfl⟩ | z
  ·exact fc ..
  ·exact eD _ (kHU (l:=y::l) z)
section
variable {W:Rows} {T ahead su sv:List Nat} {u v:Nat}
end
theorem mU{W:Rows}{b a:List Nat}:∀{i:Nat},b.take (i+2)=a.take (i+2)->goF W b i=goF W a i
 | 0,h=>by
  unfold goF;rw[show b.take 2=a.take 2 from h]
 | i+1,h=>by
  have h1:b.take (i+2)=a.take (i+2):=by
   have:=congrArg (Fn (i+2)) h;rwa[BR,BR,kq (by omega)]at this
  have c:b[i+2]?=a[i+2]?:=by
   have:=congrArg (λ l:List Nat=>l[i+2]?) h;simpa[qk (show i+2<i+1+2 by omega)] using this
  unfold goF;rw[mU h1,h1,av,av,c]
theorem cF{W:Rows}{c:List Nat}(d:c.Nodup)(sym:∀ a b,E W a b->E W b a)(h0:Top W (c.take 2) (c.take 2)):∀{i:Nat}{fs ts:List (List Nat)},i+2<=c.length->goF W c i=some (fs,ts)->Top W (c.take (i+2)) (ts.getLastD [])
 | 0,fs,ts,_,h=>by
  unfold goF at h;have h:=bg h;injection h with h1 h2
  rw[<-h2];exact h0
 | i+1,fs,ts,hl,h=>by
  cases e:goF W c i with
  | none =>
   have:=cG e 1;rw[show i+1=i+1 from rfl,this]at h;cases h
  | some x =>
   obtain⟨f,t⟩:=x;have n:=cF d sym h0 (by omega) e
   cases s:stF W (t.getLastD []) (c.take (i+2)) (c.getD (i+2) 0) with
   | none=>rw[mV e s]at h;cases h
   | some st =>
    rw[mW e s]at h;have h:=bg h;injection h with h1 h2
    have m:c.getD (i+2) 0∉c.take (i+2):=by
     rw[av,ae (by omega)];intro z;obtain⟨j,g,e⟩:=eZ.mp z;rw[cx]at g;rw[AF]at e;have:=(Ac d).mp e;omega
    have l:c.take (i+1+2)=c.take (i+2)++[c.getD (i+2) 0]:=by
     rw[show i+1+2=i+2+1 by omega,iL,av,ae (show i+2<c.length by omega)]
     rfl
    rw[<-h2,cB,l];exact(n.step sym m s).1
def uY{W:Rows}{a:List Nat}{i j:Nat}{c b:List (List Nat)}(h:goF W a (i+j)=some (c,b)):∃ fs ts,goF W a i=some (fs,ts):=by
 cases e:goF W a i with
 | none=>rw[cG e j]at h;cases h
 | some x=>exact⟨x.1,x.2,rfl⟩
def wZ{W:Rows}{a:List Nat}{i:Nat}{fs ts c b:List (List Nat)}(h:goF W a i=some (fs,ts))(h':goF W a (i+1)=some (c,b)):∃ st,stF W (ts.getLastD []) (a.take (i+2)) (a.getD (i+2) 0)=some st/\c=fs++[st]/\b=ts++[poF (ts.getLastD []) st (a.getD (i+2) 0)]:=by
 cases s:stF W (ts.getLastD []) (a.take (i+2)) (a.getD (i+2) 0) with
 | none=>rw[mV h s]at h';cases h'
 | some st =>
  rw[mW h s]at h';have h':=bg h';injection h' with h1 h2
  exact⟨st,rfl,h1.symm,h2.symm⟩
def zR{W:Rows}{a:List Nat}:∀{i:Nat}{fs ts:List (List Nat)},goF W a i=some (fs,ts)->fs.length=i/\ts.length=i+1:=by
 intro i
 induction i with
 | zero =>
  intro fs ts h;unfold goF at h;have h:=bg h;injection h with h1 h2
  rw[<-h1,<-h2];exact⟨rfl,rfl⟩
 | succ i ih =>
  intro fs ts h;obtain⟨f,t,e⟩:=uY (i:=i) (j:=1) h;obtain⟨st,_,c,b⟩:=wZ e h;obtain⟨p,q⟩:=ih e;rw[c,b,bj,bj,p,q];exact⟨rfl,rfl⟩
def uW{a:List Nat}(b:a.Nodup){k j:Nat}(h:k<=j)(c:j<a.length):a.getD j 0∉a.take k:=by
 rw[av,ae c];intro z;obtain⟨m,d,e⟩:=eZ.mp z;rw[cx]at d;rw[AF]at e;have:=(Ac b).mp e;omega
section
variable {ms:List Nat} {k:Nat}
variable {W:Rows} {a b c:Nat} {Fs Ts:List (List Nat)}
end
section
variable {W W':Rows} {g:Nat->Nat} {n:Nat}
end
end Tri
namespace Fc
open Cyc Rnd Tri
def mgN(a b x:Nat):Nat:=if x=b then a else x
def goL(m:List Nat)(a:List (Nat×Nat)):List Nat:=a.foldl (λ m l=>m.map (mgN (m.getD l.1 0) (m.getD l.2 0))) m
def cE(m:List Nat)(l:Nat×Nat)(a:List (Nat×Nat)):goL m (l::a)=goL (m.map (mgN (m.getD l.1 0) (m.getD l.2 0))) a:=rfl
theorem kGZ:∀(a:List (Nat×Nat))(m:List Nat),(goL m a).length=m.length
 | [],_=>rfl
 | l::a,m=>by rw[cE,kGZ a,aj]
theorem pU:∀(a:List (Nat×Nat))(m:List Nat)(c:Nat),(∀ x∈goL m a,x=c)->∃ V:List Nat,V.length<=a.length+1/\∀ x∈m,x∈V
 | [],m,c,h=>⟨[c],by simp,λ x b=>by rw[h x b];simp⟩
 | l::a,m,c,h=>by
  rw[cE]at h;obtain⟨V,h1,d⟩:=pU a _ c h;refine⟨m.getD l.2 0::V,by simp;omega,λ x b=>?_⟩;have:=d _ (iJ.mpr ⟨x,b,rfl⟩);unfold mgN at this
  split at this
  ·rename_i e
   rw[e];exact fc ..
  ·exact eD _ this
def bX{m:List Nat}{f:Nat->Nat}{i:Nat}(h:i<m.length):(m.map f).getD i 0=f (m.getD i 0):=by
 rw[av,av,az,ae h]
 rfl
theorem kCH:∀(a:List (Nat×Nat))(m:List Nat)(i j:Nat),i<m.length->j<m.length->m.getD i 0=m.getD j 0->(goL m a).getD i 0=(goL m a).getD j 0
 | [],_,_,_,_,_,h=>h
 | l::a,m,i,j,hi,hj,h=>by
  rw[cE];refine kCH a _ i j (by rw[aj];exact hi) (by rw[aj];exact hj) ?_;rw[bX hi,bX hj,h]
theorem kCI:∀(a:List (Nat×Nat))(m:List Nat)(i j:Nat),i<m.length->j<m.length->(i,j)∈a->(goL m a).getD i 0=(goL m a).getD j 0
 | l::a,m,i,j,hi,hj,h=>by
  rw[cE];have c:i<(m.map (mgN (m.getD l.1 0) (m.getD l.2 0))).length:=by rw[aj];exact hi
  have b:j<(m.map (mgN (m.getD l.1 0) (m.getD l.2 0))).length:=by rw[aj];exact hj
  rcases eK.mp h with e | h
  ·refine kCH a _ i j c b ?_
   rw[<-e,bX hi,bX hj];unfold mgN;simp only
   split<;>simp
  ·exact kCI a _ i j c b h
def kEJ{F:Nat}{b:List (Nat×Nat)}(d:∀ l∈b,l.1<F/\l.2<F)(all:∀ m:List Nat,m.length=F->(∀ l∈b,m.getD l.1 0=m.getD l.2 0)->∀ i,i<F->m.getD i 0=m.getD 0 0):F<=b.length+1:=by
 have f:=kGZ b (cq F);rw[gv]at f;have a:=all (goL (cq F) b) f λ l c=>kCI b _ l.1 l.2 (by rw[gv];exact(d l c).1) (by rw[gv];exact(d l c).2) c
 obtain⟨V,h1,h⟩:=pU b (cq F) ((goL (cq F) b).getD 0 0) λ x g=>by
  obtain⟨i,j,rfl⟩:=eZ.mp g;rw[<-a i (by omega),av,ae j]
  rfl
 have:=eO sh h;rw[gv]at this;omega
def kMY{p:Nat->Prop}(h:∃ k,p k):∃ k,p k/\∀ j,j<k->¬ p j:=by
 obtain⟨k,b⟩:=h
 induction k using Au with
 | _ k ih =>
  by_cases c:∃ j,j<k/\p j
  ·obtain⟨j,a,hp⟩:=c
   exact ih j a hp
  ·exact⟨k,b,λ j a hp=>c ⟨j,a,hp⟩⟩
def rot_to{row:List Nat}(nd:row.Nodup){P:Nat->Prop}{y q:Nat}(r:y∈row)(h0:q∈row)(p0:P q)(st:∀ w v,w∈row->w≠y->xP row w=some v->P w->P v):P y:=by
 obtain⟨d,s,rfl⟩:=eZ.mp r;obtain⟨g,u,rfl⟩:=eZ.mp h0;have j:∀ i (h:i<row.length),row.idxOf row[i]=i:=λ i h=>(Ac nd).mp (BW (fq (iO h)));have o:∀ i (h:i<row.length),i≠d->row[i]≠row[d]:=λ i h n z=>n ((Ac nd).mp z)
 have step:∀ i (h:i+1<row.length),i+1≠d->P row[i+1]->P row[i]:=λ i h n p=>by
  refine st _ _ (iO h) (o _ h n) ?_ p;unfold xP;rw[j _ h,if_neg (by omega),show i+1-1=i by omega,ae (by omega)]
 have l:∀(h:0<row.length),0≠d->P row[0]->P (row[row.length-1]'(by omega)):=λ h n p=>by
  refine st _ _ (iO h) (o _ h n) ?_ p;unfold xP;rw[j _ h,if_pos rfl,uf,ae (by omega)]
 have f:∀ k i (h:i+k<row.length),(∀ t,i<t->t<=i+k->t≠d)->P row[i+k]->P (row[i]'(by omega)):=λ k=>by
  induction k with
  | zero=>exact λ i h _ p=>p
  | succ k ih =>
   intro i h n p;exact ih i (by omega) (λ t h1 m=>n t h1 (by omega)) (step (i+k) (by omega) (n _ (by omega) (by omega)) p)
 rcases iV g d with c | c
 ·have a:=f g 0 (by omega) (λ t h1 m=>by omega) (by simpa using p0)
  have b:=l (by omega) (by omega) a;have:=f (row.length-1-d) d (by omega) (λ t h1 m=>by omega) (by simpa[show d+(row.length-1-d)=row.length-1 by omega] using b);exact this
 ·have:=f (g-d) d (by omega) (λ t h1 m=>by omega) (by simpa[show d+(g-d)=g by omega] using p0)
  exact this
section
variable {W:Rows} {par dist:Nat->Nat}
theorem kHO(a:Nat->Nat):∀ n:Nat,∃ N,∀ v,v<n->a v<=N
 | 0=>⟨0,λ v h=>by omega⟩
 | n+1=>by
  obtain⟨N,h⟩:=kHO a n;refine⟨max N (a n),λ v b=>?_⟩;rcases iV v n with c | c
  ·have:=h v c
   omega
  ·rw[show v=n by omega]
   omega
def kOZ(S:Nb W):∃ R:List (Nat×Nat),R.length=(facesS W).length/\(∀ r∈R,r∈kS W)/\(∀ t∈kS W,∃ i,∃(h:i<R.length),t∈rnd W R[i])/\∀ t i j (hi:i<R.length) (a:j<R.length),t∈rnd W R[i]->t∈rnd W R[j]->i=j:=by
 have sub:∀ t∈stepsS W,t∈kS W:=λ t b=>(sortP_perm _).mem_iff.mp b;have I:=fgo_ok S (stepsS W) sub;obtain⟨R,m,l,r3⟩:=I.reps
 have n:(facesS W).length=R.length:=by
  rw[show(facesS W).length=(uP W).length from(vF _).length_eq];show(fgo W (stepsS W)).1.length=_;rw[l,aj]
 have nd:=I.nd;rw[r3]at nd;have f:=(Cp.mp nd).2;refine⟨R,n.symm,λ r d=>sub r (m r d),λ t b=>?_,λ t i j hi a h1 g=>?_⟩
 ·have:=I.cov t ((sortP_perm _).mem_iff.mpr b)
  rw[r3]at this;obtain⟨r,d,h⟩:=AR.mp this;obtain⟨i,hi,rfl⟩:=eZ.mp d;exact⟨i,hi,h⟩
 ·rcases xj i j with c | c | c
  ·exact absurd rfl (oq.mp f i j hi a c t h1 t g)
  ·exact c
  ·exact absurd rfl (oq.mp f j i a hi c t g t h1)
end
section
variable {W W':Rows}
end
section
variable {W W' L:Rows}
end
section
variable {W W':Rows}
end
def RC(W:Rows)(C:List Nat):Nat->Nat->Prop
 | 0,v=>v∈C
 | k+1,v=>∃ u,RC W C k u/\E W u v
def kUF{W:Rows}{C:List Nat}{c v:Nat}(b:c∈C)(h:Reach W c v):∃ k,RC W C k v:=by
 induction h with
 | here=>exact⟨0,b⟩
 | more _ e ih =>
  obtain⟨k,a⟩:=ih;exact⟨k+1,_,a,e⟩
structure CTree(W:Rows)(C:List Nat)(par dist:Nat->Nat):Prop where
 e:∀ v,v<W.length->v∉C->E W (par v) v
 d:∀ v,v<W.length->v∉C->dist (par v)+1=dist v
def kOD{W:Rows}{C:List Nat}(f:∀ v,v<W.length->∃ c∈C,Reach W c v):∃ par dist,CTree W C par dist:=by
 have h1:∀ v,∃ k,v<W.length->RC W C k v/\∀ j,j<k->¬ RC W C j v:=λ v=>by
  by_cases c:v<W.length
  ·obtain⟨c0,i,r⟩:=f v c
   obtain⟨k,s⟩:=kMY (kUF i r);exact⟨k,λ _=>s⟩
  ·exact⟨0,λ z=>absurd z c⟩
 have d:=λ v=>qh (h1 v);generalize o:(λ v=>we (h1 v))=dist at *
 have d:∀ v,v<W.length->RC W C (dist v) v/\∀ j,j<dist v->¬ RC W C j v:=λ v B=>by
  rw[<-o];exact d v B
 have l:∀ v,∃ u,v<W.length->v∉C->E W u v/\dist u+1=dist v:=λ v=>by
  by_cases c:v<W.length/\v∉C
  ·obtain⟨a,b⟩:=d v c.1
   cases e:dist v with
   | zero =>
    rw[e]at a;exact absurd a c.2
   | succ k =>
    rw[e]at a b;obtain⟨u,A,g⟩:=a
    have D:u<W.length:=by
     obtain⟨row,p,_⟩:=g;exact(ak.mp p).1
    obtain⟨x,m⟩:=d u D;refine⟨u,λ _ _=>⟨g,?_⟩⟩;have G:¬ k<dist u:=λ z=>m k z A;have H:¬ dist u+1<k+1:=λ z=>b _ z ⟨u,x,g⟩;omega
  ·exact⟨0,λ y q=>absurd ⟨y,q⟩ c⟩
 exact⟨λ v=>we (l v),dist,λ v h n=>(qh (l v) h n).1,λ v h n=>(qh (l v) h n).2⟩
section
variable {W:Rows} {C:List Nat} {par dist:Nat->Nat} {lab:Nat->Nat->Nat}
def row_at(S:Nb W){z:Nat}(hz:z<W.length):∃ r,W[z]?=some r/\r.Nodup/\(∀ w,w∈r↔E W z w)/\∀ w v,xP r w=some v->nxt W (w,z)=(z,v):=by
 refine⟨W[z],ae hz,S.nd z _ (ae hz),λ w=>⟨λ m=>⟨_,ae hz,m⟩,λ⟨r,a,m⟩=>?_⟩,λ w v h=>?_⟩
 ·rw[ae hz]at a
  cases a
  exact m
 ·show(z,(xP (W.getD z []) w).getD 0)=(z,v)
  rw[av,ae hz];show(z,(xP W[z] w).getD 0)=(z,v);rw[h]
  rfl
def Fit(W:Rows)(lab:Nat->Nat->Nat):Prop:=∀ x y v,E W x y->nxt W (x,y)=(y,v)->lab y v=lab x y
def kPW(S:Nb W)(T:CTree W C par dist)(l:Fit W lab)
  (n:∀ x y,E W x y->¬ ((y∉C/\par y=x)\/(x∉C/\par x=y)\/Nx C x y\/Nx C y x)->lab x y=lab y x):∀ x y,E W x y->¬ Nx C x y->¬ Nx C y x->lab x y=lab y x:=by
 obtain⟨N,G⟩:=kHO dist W.length
 have a:∀ k z,z<W.length->z∉C->N-dist z=k->lab (par z) z=lab z (par z):=λ k=>by
  induction k using Au with
  | _ k ih =>
   intro z m g O;obtain⟨r,M,nd,mem,nx⟩:=row_at S m;have j:=T.e z m g;obtain⟨v,Q,D,L⟩:=uD S j;refine(rot_to nd (P:=λ w=>lab z w=lab (par z) z) ((mem _).mpr (S.sym _ _ j)) ((mem v).mpr L) (l _ _ _ j D) λ w u B I A s=>?_).symm;have i:=(mem w).mp B
   have back:lab z w=lab w z:=by
    by_cases t:(w∉C/\par w=z)\/(z∉C/\par z=w)\/Nx C z w\/Nx C w z
    ·rcases t with⟨f,c⟩ | ⟨_,H⟩ | h | h
     ·have b:=(S.e i).2.1
      have p:=T.d w b f;rw[c]at p;have:=G w b;have q:=ih (N-dist w) (by omega) w b f rfl;rwa[c]at q
     ·exact absurd H.symm I
     ·exact absurd (kW h).1 g
     ·exact absurd (kW h).2 g
    ·exact n z w i t
   rw[l w z u (S.sym _ _ i) (nx w u A),<-back,s]
 intro x y e J o;by_cases t:(y∉C/\par y=x)\/(x∉C/\par x=y)\/Nx C x y\/Nx C y x
 ·rcases t with⟨h,rfl⟩ | ⟨h,rfl⟩ | h | h
  ·exact a _ y (S.e e).2.1 h rfl
  ·exact(a _ x (S.e e).1 h rfl).symm
  ·exact absurd h J
  ·exact absurd h o
 ·exact n x y e t
def tP(S:Nb W)(d:Fit W lab)(i:∀ x y,E W x y->¬ Nx C x y->¬ Nx C y x->lab x y=lab y x){z w a:Nat}(hz:z∉C)(e:E W z w)(f:E W z a):lab z w=lab z a:=by
 obtain⟨r,j,nd,mem,nx⟩:=row_at S (S.e e).1;refine rot_to nd (P:=λ u=>lab z u=lab z a) ((mem w).mpr e) ((mem a).mpr f) rfl λ u v c _ g p=>?_;have b:=(mem u).mp c;rw[d u z v (S.sym _ _ b) (nx u v g),<-i z u b (λ h=>hz (kW h).1) (λ h=>hz (kW h).2)];exact p
def gK(S:Nb W)(nd:C.Nodup)(b:Fit W lab)(g:∀ p q,Nx C p q->E W p q)(m:∀ x y,E W x y->¬ Nx C x y->¬ Nx C y x->lab x y=lab y x){p c n:Nat}(h1:Nx C p c)(l:Nx C c n):lab c n=lab p c:=by
 have i:=g _ _ h1;have d:=g _ _ l;obtain⟨r,G,a,mem,nx⟩:=row_at S (S.e d).1;obtain⟨v,H,A,D⟩:=uD S i;refine rot_to a (P:=λ u=>lab c u=lab p c) ((mem n).mpr d) ((mem v).mpr D) (b _ _ _ i A) λ u v s o B q=>?_;have j:=(mem u).mp s;rw[b u c v (S.sym _ _ j) (nx u v B)];by_cases f:u=p
 ·rw[f]
 ·rw[<-m c u j (λ h=>o (jZ nd h l)) (λ h=>f (yM nd h h1))]
  exact q
def kPV(S:Nb W)(nd:C.Nodup)(d:Fit W lab)(g:∀ p q,Nx C p q->E W p q)(l:∀ x y,E W x y->¬ Nx C x y->¬ Nx C y x->lab x y=lab y x){p c n w:Nat}(h1:Nx C p c)(a:Nx C c n)(e:E W c w):lab c w=lab p c\/lab c w=lab n c:=by
 have j:=g _ _ a;obtain⟨r,s,b,mem,nx⟩:=row_at S (S.e j).1;refine rot_to b (P:=λ u=>lab c u=lab p c\/lab c u=lab n c) ((mem w).mpr e) ((mem n).mpr j) (.inl (gK S nd d g l h1 a)) λ u v m A o q=>?_;have i:=(mem u).mp m;rw[d u c v (S.sym _ _ i) (nx u v o)];by_cases un:u=n
 ·exact .inr (by rw[un])
 ·by_cases f:u=p
  ·exact .inl (by rw[f])
  ·rw[<-l c u i (λ h=>un (jZ nd h a)) (λ h=>f (yM nd h h1))]
   exact q
def kPX(S:Nb W)(T:CTree W C par dist)(nd:C.Nodup)(o:Fit W lab)(m:∀ p q,Nx C p q->E W p q)(j:∀ x y,E W x y->¬ Nx C x y->¬ Nx C y x->lab x y=lab y x){p q:Nat}(h:Nx C p q)(B:lab p q=lab q p) :
  ∀ x y,E W x y->lab x y=lab p q:=by
 have one:∀ c n,Nx C c n->lab c n=lab p q->lab n c=lab p q->∀ w,E W c w->lab c w=lab p q:=λ c n i a b w e=>by
  obtain⟨v,f⟩:=vH (kW i).1;have f:=zJ nd (kW i).1 f;rcases kPV S nd o m j f i e with z | z
  ·rw[z,<-gK S nd o m j f i,a]
  ·rw[z,b]
 have s:∀ y∈C,∀ w,E W y w->lab y w=lab p q:=λ y A=>by
  refine rot_to nd (P:=λ c=>∀ w,E W c w->lab c w=lab p q) A (kW h).1 (one p q h rfl B.symm) λ c v g _ f z=>?_;have f:=zJ nd g f;obtain⟨n,i⟩:=dF g;refine one v c f ?_ (z v (S.sym _ _ (m _ _ f)));rw[<-gK S nd o m j f i];exact z n (m _ _ i)
 have l:∀ k z,z<W.length->dist z=k->∀ w,E W z w->lab z w=lab p q:=λ k=>by
  induction k using Au with
  | _ k ih =>
   intro z u D w e;by_cases g:z∈C
   ·exact s z g w e
   ·have r:=T.e z u g
    have G:=T.d z u g;rw[tP S o j g e (S.sym _ _ r),<-j _ _ r (λ h=>g (kW h).2) (λ h=>g (kW h).1)];exact ih _ (by omega) _ (S.e r).1 rfl _ r
 exact λ x y e=>l _ x (S.e e).1 rfl y e
def kAK(v u:Nat):Nat×Nat:=if v<u then(v,u) else(u,v)
def kKS{v u w x:Nat}(h:kAK v u=kAK w x):(v=w/\u=x)\/(v=x/\u=w):=by
 unfold kAK at h
 split at h<;>split at h<;>injection h with h1 h2<;>omega
def kSM{v w:Nat}(nd:C.Nodup)(h1:Nx C v w)(d:Nx C w v):C.length<=2:=by
 have all:∀ x∈C,x=v\/x=w:=λ x b=>by
  refine rot_to nd (P:=λ x=>x=v\/x=w) b (kW h1).1 (.inl rfl) λ y u c _ a p=>?_;have a:=zJ nd c a;rcases p with rfl | rfl
  ·exact .inr (yM nd a d)
  ·exact .inl (yM nd a h1)
 have:=eO nd (l₂:=[v,w]) λ x b=>by
  rcases all x b with rfl | rfl<;>simp
 simpa using this
def CtP(C:List Nat)(a:Nat->Nat)(t:Nat×Nat):Prop:=(t.2∉C/\a t.2=t.1)\/(t.1∉C/\a t.1=t.2)\/Nx C t.1 t.2\/Nx C t.2 t.1
open Classical in
def kCS(S:Nb W)(T:CTree W C par dist)(nd:C.Nodup)(N:3<=C.length)(D:∀ p q,Nx C p q->E W p q):W.length<=((tiesS W).filter λ t=>decide (CtP C par t)).length:=by
 have A:∀ v,∃ u,v<W.length->(v∈C/\Nx C v u)\/(v∉C/\u=par v):=λ v=>by
  by_cases c:v∈C
  ·obtain⟨u,G⟩:=dF c
   exact⟨u,λ _=>.inl ⟨c,G⟩⟩
  ·exact⟨par v,λ _=>.inr ⟨c,rfl⟩⟩
 have g:=λ v=>qh (A v);generalize J:(λ v=>we (A v))=f at *
 have g:∀ v,v<W.length->(v∈C/\Nx C v (f v))\/(v∉C/\f v=par v):=λ v j=>by
  rw[<-J];exact g v j
 have s:((cq W.length).map λ v=>kAK v (f v)).Nodup:=by
  refine md.mpr (AI.imp_of_mem λ{a b} l m B e=>?_);have l:=jt.mp l;have m:=jt.mp m;rcases kKS e with⟨z,_⟩ | ⟨y,r⟩
  ·omega
  ·rcases g a l with⟨x,i⟩ | ⟨x,i⟩<;>rcases g b m with⟨o,h⟩ | ⟨o,h⟩
   ·rw[r]at i
    rw[<-y]at h;have:=kSM nd i h;omega
   ·rw[r]at i
    exact o (kW i).2
   ·rw[<-y]at h
    exact x (kW h).2
   ·have H:=T.d a l x
    have L:=T.d b m o;rw[<-i,r]at H;rw[<-h,<-y]at L;omega
 have:=eO s (l₂:=(tiesS W).filter λ t=>decide (CtP C par t)) λ t I=>by
  obtain⟨v,j,rfl⟩:=iJ.mp I;have j:=jt.mp j
  have two:E W v (f v)/\CtP C par (v,f v)/\CtP C par (f v,v):=by
   rcases g v j with⟨c,n⟩ | ⟨c,n⟩
   ·exact⟨D _ _ n,.inr (.inr (.inl n)),.inr (.inr (.inr n))⟩
   ·rw[n]
    exact⟨S.sym _ _ (T.e v j c),.inr (.inl ⟨c,rfl⟩),.inl ⟨c,rfl⟩⟩
  obtain⟨e,p1,p2⟩:=two;have M:=(S.e e).2.2;unfold kAK tiesS;rw[iW,iW,mem_stepsS]
  split
  ·rename_i c
   exact⟨⟨e,decide_eq_true c⟩,decide_eq_true p1⟩
  ·rename_i c
   exact⟨⟨S.sym _ _ e,decide_eq_true (by show f v<v;omega)⟩,decide_eq_true p2⟩
 rw[aj,gv]at this;exact this
open Classical in
def kSZ(S:Nb W)(g:∀ v,v<W.length->Reach W 0 v)(fl:W.length+(facesS W).length=(tiesS W).length+2)(nd:C.Nodup)(Z:3<=C.length)(H:∀ p q,Nx C p q->E W p q) :
  ∃ lab:Nat->Nat->Nat,Fit W lab/\(∀ x y,E W x y->¬ Nx C x y->¬ Nx C y x->lab x y=lab y x)/\∀ p q,Nx C p q->lab p q≠lab q p:=by
 refine eW λ no=>?_
 obtain⟨c0,o⟩ : ∃ c,c∈C:=by
  cases C with
  | nil=>simp at Z
  | cons c C=>exact⟨c,fc⟩
 obtain⟨c1,I⟩:=dF o;have J:=H _ _ I;have lc:=(S.e J).1;obtain⟨b,a0,T⟩:=kOD (C:=C) λ v hv=>⟨c0,o,(Reach.symm S.sym (g c0 lc)).trans (g v hv)⟩;obtain⟨R,lR,u,D,j⟩:=kOZ S
 have r:∀ t,∃ i,t∈kS W->∃(h:i<R.length),t∈rnd W R[i]:=λ t=>by
  by_cases c:t∈kS W
  ·obtain⟨i,h,m⟩:=D t c
   exact⟨i,λ _=>⟨h,m⟩⟩
  ·exact⟨0,λ z=>absurd z c⟩
 have d:=λ t=>qh (r t);generalize hF:(λ t=>we (r t))=a at *
 have d:∀ t,t∈kS W->∃(h:a t<R.length),t∈rnd W R[a t]:=λ t f=>by
  subst hF;exact d t f
 have N:∀ t,t∈kS W->a (nxt W t)=a t:=λ t f=>by
  obtain⟨h1,m1⟩:=d t f;have Y:=kBI S (u _ (iO h1)) m1;have hs:=rnd_sub S (u _ (iO h1)) Y;obtain⟨O,B⟩:=d _ hs;exact j _ _ _ O h1 B Y
 have G:∀ i (h:i<R.length),a R[i]=i:=λ i h=>by
  have U:=u _ (iO h);obtain⟨O,B⟩:=d _ U;exact j _ _ _ O h B (rnd_self S U)
 have st:∀ x y,E W x y->(x,y)∈kS W:=λ x y e=>mem_steps.mpr e
 have ls:R.length<=(((tiesS W).filter λ t=>!decide (CtP C b t)).map λ t=>(a t,a (t.2,t.1))).length+1:=by
  refine kEJ (λ l A=>?_) λ m lm A i s=>?_
  ·obtain⟨t,f,rfl⟩:=iJ.mp A
   have f:=(iW.mp f).1;unfold tiesS at f;have e:=mem_stepsS.mp (iW.mp f).1;exact⟨(d t (st _ _ e)).1,(d (t.2,t.1) (st _ _ (S.sym _ _ e))).1⟩
  ·have M:Fit W (λ x y=>m.getD (a (x,y)) 0):=λ x y v e n=>by
    have:=N _ (st x y e);rw[n]at this;show m.getD (a (y,v)) 0=_;rw[this]
   have X:=kPW (lab:=λ x y=>m.getD (a (x,y)) 0) S T M λ x y e Q=>by
    show m.getD (a (x,y)) 0=m.getD (a (y,x)) 0;have ne:=(S.e e).2.2;rcases iV x y with c | c
    ·exact A (a (x,y),a (y,x)) (iJ.mpr ⟨(x,y),iW.mpr ⟨iW.mpr ⟨mem_stepsS.mpr e,decide_eq_true c⟩,by rw[decide_eq_false (show ¬ CtP C b (x,y) from Q)];rfl⟩,rfl⟩)
    ·have L:¬ CtP C b (y,x):=λ z=>Q (by
      rcases z with z | z | z | z
      ·exact .inr (.inl z)
      ·exact .inl z
      ·exact .inr (.inr (.inr z))
      ·exact .inr (.inr (.inl z)))
     exact(A (a (y,x),a (x,y)) (iJ.mpr ⟨(y,x),iW.mpr ⟨iW.mpr ⟨mem_stepsS.mpr (S.sym _ _ e),decide_eq_true (by show y<x;omega)⟩,by rw[decide_eq_false L];rfl⟩,rfl⟩)).symm
   have ex:∃ p q,Nx C p q/\m.getD (a (p,q)) 0=m.getD (a (q,p)) 0:=eW λ z=>no ⟨_,M,X,λ p q h e=>z ⟨p,q,h,e⟩⟩;obtain⟨p,q,h,e⟩:=ex;have all:=kPX S T nd M H X h e
   have key:∀ i,i<R.length->m.getD i 0=m.getD (a (p,q)) 0:=λ i s=>by
    have e:E W R[i].1 R[i].2:=mem_steps.mp (u _ (iO s));have:=all _ _ e;rw[show(R[i].1,R[i].2)=R[i] from rfl,G i s]at this;exact this
   rw[key i s,key 0 (by omega)]
 have tc:=kCS S T nd Z H
 have sum:((tiesS W).filter λ t=>decide (CtP C b t)).length+((tiesS W).filter λ t=>!decide (CtP C b t)).length=(tiesS W).length:=by
  have:∀ l:List (Nat×Nat),(l.filter λ t=>decide (CtP C b t)).length+(l.filter λ t=>!decide (CtP C b t)).length=l.length:=λ l=>by
   induction l with
   | nil=>rfl
   | cons t l ih =>
    rw[ux,ux]
    cases decide (CtP C b t)<;>simp<;>omega
  exact this _
 rw[aj]at ls;omega
end
section
variable {W:Rows} {C:List Nat} {lab:Nat->Nat->Nat}
def nx_mid(A:List Nat)(x y:Nat)(B:List Nat):Nx (A++x::y::B) x y:=by
 show Adj ((A++x::y::B)++(A++x::y::B).head?.toList) x y;rw[dh];exact(jN A x _ x y).mpr (.inr (.inl ⟨rfl,rfl⟩))
theorem kHV:∀{l:List Nat}{p q:Nat},Adj l.reverse p q->Adj l q p
 | [],_,_,h=>h.elim
 | [x],_,_,h=>h.elim
 | x::y::r,p,q,h=>by
  rw[Bn,Bn,dh]at h;rcases(jN _ y [x] p q).mp h with h | h
  ·refine .inr (kHV (l:=y::r) ?_)
   rw[Bn];exact h
  ·rcases h with⟨rfl,rfl⟩ | h
   ·exact .inl ⟨rfl,rfl⟩
   ·exact h.elim
def kST(S:Nb W)(j:Fit W lab){k t:Nat}{row A B:List Nat}(l:W[k]?=some row):∀(seg:List Nat),Ro row (A++seg++t::B)->(∀ z∈seg.tail,lab k z=lab z k)->∀ z∈seg,lab k z=lab t k:=by
 have one:∀(u v:Nat)(A B:List Nat),Ro row (A++u::v::B)->lab k u=lab v k:=λ u v A B c=>by
  have r:R W k u v:=⟨row,l,(c.nx u v).mpr (nx_mid A u v B)⟩;exact j v k u (S.sym _ _ (zT r).2) (mN S.nd r)
 suffices H:∀(n:Nat)(seg A B:List Nat)(t:Nat),seg.length=n->Ro row (A++seg++t::B)->(∀ z∈seg.tail,lab k z=lab z k)->∀ z∈seg,lab k z=lab t k from λ seg=>H _ seg A B t rfl
 intro n
 induction n with
 | zero =>
  intro seg A B t b _ _ z a;rw[og.mp b]at a;cases a
 | succ n ih =>
  intro seg A B t b c g z a;have f:seg≠[]:=λ e=>by rw[e]at b;cases b
  obtain⟨I,u,rfl⟩ : ∃ I u,seg=I++[u]:=⟨seg.dropLast,seg.getLast f,(eC f).symm⟩;have d:lab k u=lab t k:=one u t (A++I) B (by simpa using c);rcases ck.mp a with m | m
  ·have h:I.length=n:=by simpa using b
   have q:=ih I A (t::B) u h (by simpa using c) (λ z a=>by
    cases I with
    | nil=>cases a
    | cons i I=>exact g z (by simp at a ⊢;exact .inl a)) z m
   rw[q,<-d]
   cases I with
   | nil=>cases m
   | cons i I=>exact(g u (by simp)).symm
  ·rw[bu.mp m]
   exact d
theorem kNB(S:Nb W)(c:Fit W lab){k:Nat}{row:List Nat}(d:W[k]?=some row):∀(seg A B:List Nat)(t:Nat),Ro row (A++t::(seg++B))->(∀ z∈seg,lab k z=lab z k)->∀ z∈seg,lab k z=lab k t
 | [],_,_,_,_,_,z,b=>by cases b
 | u::seg,A,B,t,ro,sy,z,b=>by
  have r:R W k t u:=⟨row,d,(ro.nx t u).mpr (nx_mid A t u _)⟩;have f:lab k t=lab u k:=c u k t (S.sym _ _ (zT r).2) (mN S.nd r);have a:lab k u=lab k t:=by rw[sy u (by simp),f]
  rcases eK.mp b with rfl | m
  ·exact a
  ·rw[<-a]
   exact kNB S c d seg (A++[t]) B u (by simpa using ro) (λ z b=>sy z (eD _ b)) z m
theorem dJ(S:Nb W)(l:Fit W lab)(i:∀ x y,E W x y->¬ Nx C x y->¬ Nx C y x->lab x y=lab y x){β:Nat}:∀(D:List Nat)(c:Nat),(∀ p q,Adj (c::D) p q->E W p q)->(∀ d∈D,d∉C)->(∀ d1,D.head?=some d1->lab c d1=β)->∀ d∈D,∀ w,E W d w->lab d w=β
 | [],_,_,_,_,d,f,_,_=>by cases f
 | d1::D,c,ad,nc,h1,d,f,w,e=>by
  have o:=ad c d1 (.inl ⟨rfl,rfl⟩);have g:=nc d1 (by simp);have a:=h1 d1 rfl;have b:lab d1 c=β:=by rw[<-i c d1 o (λ h=>g (kW h).2) (λ h=>g (kW h).1)];exact a
  have all:∀ w,E W d1 w->lab d1 w=β:=λ w e=>by rw[tP S l i g e (S.sym _ _ o)];exact b
  rcases eK.mp f with rfl | m
  ·exact all w e
  ·exact dJ S l i D d1 (λ p q h=>ad p q (.inr h)) (λ d f=>nc d (eD _ f)) (λ j n=>by
    cases D with
    | nil=>cases n
    | cons d3 D =>
     cases n
     exact all j (ad d1 j (.inr (.inl ⟨rfl,rfl⟩)))) d m w e
def kQE(S:Nb W)(nd:C.Nodup)(j:Fit W lab)(l:∀ p q,Nx C p q->E W p q)(o:∀ x y,E W x y->¬ Nx C x y->¬ Nx C y x->lab x y=lab y x){p q d f:Nat}(h:Nx C p q)(h':Nx C d f):lab p q=lab d f:=by
 have:=rot_to nd (P:=λ c=>∀ n,Nx C c n->lab c n=lab d f) (kW h).1 (kW h').1 (λ n b=>by rw[jZ nd b h']) (λ c v g _ a z n b=>by
  have a:=zJ nd g a;have:=jZ nd b a;subst this;obtain⟨m,i⟩:=dF g;rw[<-gK S nd j l o a i];exact z m i)
 exact this q h
end
section
variable {W:Rows} {T off:List Nat} {a b:Nat}
def kJU{W:Rows}(G:Good W):W.length+(facesS W).length=(tiesS W).length+2:=((three_cornered (Wb.of G).toNb).mpr (jY G)).1
def last_split{l:List Nat}{x:Nat}(h:l.getLast?=some x):∃ I,l=I++[x]:=by
 have a:l≠[]:=λ z=>by rw[z]at h;cases h
 rw[fe a]at h;exact⟨l.dropLast,by rw[<-bg h];exact(eC a).symm⟩
def head_split{l:List Nat}{x:Nat}(h:l.head?=some x):∃ I,l=x::I:=by
 cases l with
 | nil=>cases h
 | cons y l=>cases h;exact⟨l,rfl⟩
end
end Fc
namespace Tri
open Cyc Rnd
section
variable {W M:Rows}
end
section
variable {W V:Rows} {ns:List Nat}
end
section
variable {W W':Rows}
def cW{a b:Nat}(S:Nb W)(e:E W a b):Top W [a,b] [a,b]:=by
 refine⟨?_,λ x c=>c,λ x y ad=>?_⟩
 ·have:=(S.e e).2.2
  simp[this.symm]
 ·rcases ad with⟨rfl,rfl⟩ | z
  ·exact e
  ·exact absurd z id
end
end Tri
namespace Fc
open Tri Cyc Rnd
section
variable {W:Rows}
def mem_row{x y:Nat}(h:E W x y):y∈W.getD x []:=by
 obtain⟨row,e,m⟩:=h;rw[av,e];exact m
end
end Fc
namespace Tri
open Cyc Rnd
def mvS(S:List (Nat×Int×Int))(G:List Nat)(a:Int):List (Nat×Int×Int):=S.map λ s=>if s.1∈G then(s.1,s.2.1+a,s.2.2) else s
def ovr(l r:Int×Int):Int×Int:=(l.1+(r.1-l.1+r.2-l.2) / 2,l.2+(r.1-l.1+r.2-l.2) / 2)
def atS(S:List (Nat×Int×Int))(p:Nat):Int×Int:=((S.find? λ s=>s.1 == p).map (·.2)).getD (0,0)
def gst(S:List (Nat×Int×Int))(U:Nat->List Nat)(v:Nat)(F T:List Nat):List (Nat×Int×Int)×(Nat->List Nat) :=
 let S2:=mvS (mvS S (F.tail.dropLast.flatMap U) 1) ((T.drop (T.idxOf (F.getLastD 0))).flatMap U) 2
 let q:=ovr (atS S2 (F.headD 0)) (atS S2 (F.getLastD 0))
 (S2++[(v,q.1,q.2)],λ p=>if p=v then v::F.tail.dropLast.flatMap U else U p)
def gF(a:List Nat)(c b:List (List Nat)):Nat->List (Nat×Int×Int)×(Nat->List Nat)
 | 0=>((a.take 2).map λ p=>(p,0,0),λ p=>[p])
 | i+1=>gst (gF a c b i).1 (gF a c b i).2 (a.getD (i+2) 0) (c.getD i []) (b.getD i [])
def uX(S:List (Nat×Int×Int))(G:List Nat)(b:Int):(mvS S G b).map (·.1)=S.map (·.1):=by
 unfold mvS;rw[vw];refine yi λ s _=>?_;show(if s.1∈G then _ else _:Nat×Int×Int).1=s.1
 split<;>rfl
def kGT(S:List (Nat×Int×Int))(G:List Nat)(b:Int):(mvS S G b).length=S.length:=by unfold mvS;rw[aj]
section
variable {W:Rows}
def mX(sym:∀ a b,E W a b->E W b a){n:List Nat}(q:n.Nodup)(h0:Top W (n.take 2) (n.take 2)) :
  ∀{i:Nat}{fs ts:List (List Nat)},i+2<=n.length->goF W n i=some (fs,ts)->∀(k:Nat)(F T o:List Nat),fs[k]?=some F->ts[k]?=some T->ts[k+1]?=some o->Top W (n.take (k+2)) T/\∃ B f M l C,F=f::M++[l]/\T=B++(f::M++[l])++C/\o=B++[f,n.getD (k+2) 0,l]++C:=by
 intro i
 induction i with
 | zero =>
  intro fs ts _ h k F T o e;unfold goF at h;have h:=bg h;injection h with h1 h2
  rw[<-h1]at e;simp at e
 | succ i ih =>
  intro fs ts G h k F T o d g m;obtain⟨y,p,e⟩:=uY (i:=i) (j:=1) h;obtain⟨st,z,v,x⟩:=wZ e h;have TT:=cF q sym h0 (by omega) e;obtain⟨H,lt⟩:=zR e;obtain⟨B,f,M,l,C,s,r,mem,D⟩:=cY TT.nd z;rw[v]at d;rw[x]at g m;rcases iV k i with c | c
  ·rw[bf (by omega)]at d g m
   exact ih (by omega) e k F T o d g m
  ·have A:k=i:=by
    have:=(ak.mp d).1;rw[bj,fj]at this;omega
   subst A
   have u:p[k]?=some (p.getLastD []):=by
    rw[jf,uf,show p.length-1=k by omega,ae (by omega)]
    rfl
   rw[bz (by omega),show k-y.length=0 by omega]at d;rw[bf (by omega),u]at g;rw[bz (by omega),show k+1-p.length=0 by omega]at m;have d:=bg d;have g:=bg g;have m:=bg m;refine⟨by rw[<-g];exact TT,B,f,M,l,C,by rw[<-d,s],by rw[<-g,r],?_⟩;rw[<-m,s];exact bO r TT.nd
structure GI(ms:List Nat)(Ts:List (List Nat))(i:Nat)(S:List (Nat×Int×Int))(U:Nat->List Nat):Prop where
 fst:S.map (·.1)=ms.take (i+2)
 nd:((Ts.getD i []).flatMap U).Nodup
 sub:∀ x∈(Ts.getD i []).flatMap U,x∈ms.take (i+2)
 few:∀ p∈ms.take (i+2),(U p).length<=i+2
def kTF(S:Nb W)(H:∀ t∈kS W,(nxt W (nxt W t)).2=t.1){d:List Nat}{a b n:Nat}{s g:List (List Nat)}(D:d.Nodup)(J:d.take 2=[a,b])(y:E W a b)(hn:n+2<=d.length)(Q:goF W d n=some (s,g)):∀ i,i<=n->GI d g i (gF d s g i).1 (gF d s g i).2:=by
 have h0:Top W (d.take 2) (d.take 2):=by rw[J];exact cW S y
 obtain⟨lf,lt⟩:=zR Q
 have t0:g[0]?=some [a,b]:=by
  have:∀{i:Nat}{fs G:List (List Nat)},goF W d i=some (fs,G)->G[0]?=some (d.take 2):=by
   intro i
   induction i with
   | zero =>
    intro fs G q;unfold goF at q;have q:=bg q;injection q with q1 A
    rw[<-A]
    rfl
   | succ i ih =>
    intro fs G q;obtain⟨f2,t2,A⟩:=uY (i:=i) (j:=1) q;obtain⟨a0,z2,q3,q4⟩:=wZ A q;have:=(zR A).2;rw[q4,bf (by omega)];exact ih A
  rw[this Q,J]
 have ab:a≠b:=λ q=>(S.e y).2.2 q.symm;intro i
 induction i with
 | zero =>
  intro _;have g0:g.getD 0 []=[a,b]:=by rw[av,t0];rfl
  refine⟨?_,?_,?_,λ p _=>?_⟩
  ·show((d.take 2).map λ p=>(p,(0:Int),(0:Int))).map (·.1)=d.take 2
   rw[vw];exact List.map_id _
  ·rw[g0]
   show([a,b].flatMap λ p=>[p]).Nodup;simp[ab]
  ·rw[g0,J]
   show ∀ x∈[a,b].flatMap λ p=>[p],_;simp
  ·show[p].length<=2
   simp
 | succ i ih =>
  intro hi;have I:=ih (by omega);have get:∀(L:List (List Nat))(j:Nat),j<L.length->L[j]?=some (L.getD j []):=λ L j h=>by rw[av,ae h];rfl
  obtain⟨O,B,f,M,l,C,eF,X,N⟩:=mX S.sym D h0 hn Q i _ _ _ (get s i (by omega)) (get g i (by omega)) (get g (i+1) (by omega));have ga:d[i+2]?=some (d.getD (i+2) 0):=by rw[av,ae (by omega)];rfl
  have T:d.take (i+1+2)=d.take (i+2)++[d.getD (i+2) 0]:=by rw[iL,ga];rfl
  have Z:d.getD (i+2) 0∉d.take (i+2):=uW D (by omega) (by omega);have m:∀ x∈g.getD i [],x≠d.getD (i+2) 0:=λ x o q=>Z (q ▸ O.sub x o);have lk:(d.take (i+2)).length=i+2:=by rw[cx];omega
  generalize Y:d.getD (i+2) 0=v at *;generalize hU:(gF d s g i).2=U at *;have fM:(s.getD i []).tail.dropLast=M:=by rw[eF];simp
  have gU:(gF d s g (i+1)).2=λ p=>if p=v then v::M.flatMap U else U p:=by
   show(gst _ _ _ _ _).2=_;unfold gst;rw[hU,Y,fM]
  have same:∀ L:List Nat,(∀ x∈L,x≠v)->(L.flatMap λ p=>if p=v then v::M.flatMap U else U p)=L.flatMap U:=λ L h=>by
   show(L.map _).flatten=(L.map _).flatten
   congr 1
   refine yi λ x o=>?_;rw[if_neg (h x o)]
  have inT:∀ x,(x∈B\/x=f\/x∈M\/x=l\/x∈C)->x∈g.getD i []:=λ x o=>by
   rw[X];simp only[ck,eK,rm,or_false];rcases o with h | h | h | h | h
   ·exact .inl (.inl h)
   ·exact .inl (.inr (.inl (.inl h)))
   ·exact .inl (.inr (.inl (.inr h)))
   ·exact .inl (.inr (.inr h))
   ·exact .inr h
  have u:(g.getD i []).flatMap U=B.flatMap U++(U f++(M.flatMap U++(U l++C.flatMap U))):=by
   rw[X];simp[kb,xu,dh]
  have r:((g.getD (i+1) []).flatMap λ p=>if p=v then v::M.flatMap U else U p)=B.flatMap U++(U f++(v::(M.flatMap U++(U l++C.flatMap U)))):=by
   rw[N,kb,kb,same B λ x o=>m x (inT x (.inl o)),same C λ x o=>m x (inT x (.inr (.inr (.inr (.inr o)))))];rw[xu,xu,xu,CH,if_neg (m f (inT f (.inr (.inl rfl)))),if_pos rfl,if_neg (m l (inT l (.inr (.inr (.inr (.inl rfl))))))];simp[dh]
  have perm:(B.flatMap U++(U f++(v::(M.flatMap U++(U l++C.flatMap U))))).Perm (v::(g.getD i []).flatMap U):=by
   rw[u,<-dh,<-dh (B.flatMap U)];exact CD
  have vn:v∉(g.getD i []).flatMap U:=λ h=>Z (I.sub v h);rw[gU];refine⟨?_,?_,λ x o=>?_,λ p hp=>?_⟩
  ·show((gst _ _ _ _ _).1).map (·.1)=_
   unfold gst;rw[cy,uX,uX,I.fst,T,Y]
   rfl
  ·rw[r]
   exact perm.nodup_iff.mpr (gj.mpr ⟨vn,I.nd⟩)
  ·rw[r]at o
   rw[T];rcases eK.mp (perm.mem_iff.mp o) with rfl | h
   ·exact dj _ (bu.mpr rfl)
   ·exact dw _ (I.sub x h)
  ·show(if p=v then v::M.flatMap U else U p).length<=_
   split
   ·have h1:=eO I.nd λ x o=>I.sub x o
    rw[lk,u]at h1;simp only[bj]at h1;rw[iC];omega
   ·rename_i c
    rw[T]at hp;rcases ck.mp hp with h | h
    ·have:=I.few p h
     omega
    ·exact absurd (bu.mp h) c
end
theorem cS:∀{l:List Nat}{x:Nat},x∈l.tail->∃ y,Adj l y x
 | [],_,h=>by cases h
 | [_],_,h=>by cases h
 | a::b::r,x,h=>by
  rcases eK.mp h with rfl | h
  ·exact⟨a,.inl ⟨rfl,rfl⟩⟩
  ·obtain⟨y,c⟩:=cS (l:=b::r) (x:=x) h
   exact⟨y,.inr c⟩
section
variable {W:Rows}
def qZ(S:Nb W)(a:∀ t∈kS W,(nxt W (nxt W t)).2=t.1){x y:Nat}(h:E W x y):∃ z,nxt W (x,y)=(y,z)/\nxt W (y,z)=(z,x)/\nxt W (z,x)=(x,y)/\E W y z/\E W z x:=by
 obtain⟨z,l,g,c⟩:=uD S h;have f:=a _ (mem_steps.mpr h);have d:=a (y,z) (mem_steps.mpr c);rw[g]at f;have b:nxt W (y,z)=(z,x):=wb rfl f;rw[b]at d;obtain⟨q,_,i,j⟩:=uD S c;rw[b]at i;have:x=q:=congrArg yc i;subst this;exact⟨z,g,b,wb rfl d,c,j⟩
structure Bd(W:Rows)(A T:List Nat)(a b:Nat):Prop where
 up:∀ x y,Adj T x y->(nxt W (x,y)).2∉A
 all:∀ x y,x∈A->y∈A->E W x y->(nxt W (x,y)).2∉A->Adj T x y\/(x=b/\y=a)
def Bd.start(S:Nb W)(c:∀ t∈kS W,(nxt W (nxt W t)).2=t.1){a b:Nat}(e:E W a b):Bd W [a,b] [a,b] a b:=by
 refine⟨λ x y ad=>?_,λ x y f g h _=>?_⟩
 ·rcases ad with⟨rfl,rfl⟩ | z
  ·obtain⟨z,l,o,p,n,m⟩:=qZ S c e
   rw[l];have i:=(S.e n).2.2;have j:=(S.e m).2.2;simp only[eK,rm,or_false];rintro(q | q)
   ·exact j q.symm
   ·exact i q
  ·exact z.elim
 ·have d:=(S.e h).2.2
  simp only[eK,rm,or_false]at f g;rcases f with rfl | rfl<;>rcases g with rfl | rfl
  ·exact absurd rfl d
  ·exact .inl (.inl ⟨rfl,rfl⟩)
  ·exact .inr ⟨rfl,rfl⟩
  ·exact absurd rfl d
def Bd.step(S:Nb W)(d:∀ t∈kS W,(nxt W (nxt W t)).2=t.1){A T B M C:List Nat}{a b c f l v:Nat}(h:Bd W A T a b)(a1:T.Nodup)(sub:∀ x∈T,x∈A)(i:∀ x y,Adj T x y->E W x y)(bc:(nxt W (b,a)).2=c)(vc:v≠c)(vA:v∉A)
  (eT:T=B++(f::M++[l])++C) (mem:∀ q,q∈f::M++[l]↔q∈A/\E W v q) (nz:∀ x y,Adj (f::M++[l]) x y->(nxt W (x,y)).2=v):Bd W (A++[v]) (B++[f,v,l]++C) a b:=by
 have I:∀ x y,Adj T x y↔Adj (B++[f]) x y\/Adj (f::M++[l]) x y\/Adj (l::C) x y:=λ x y=>by
  have g:T=B++f::(M++l::C):=by rw[eT];simp
  rw[g,jN B f (M++l::C) x y,show f::(M++l::C)=(f::M)++l::C from rfl,jN (f::M) l C x y]
 have o:∀ x y,Adj (B++[f,v,l]++C) x y↔Adj (B++[f]) x y\/(x=f/\y=v)\/(x=v/\y=l)\/Adj (l::C) x y:=λ x y=>by
  have g:B++[f,v,l]++C=B++f::(v::l::C):=by simp
  rw[g,jN B f (v::l::C) x y];exact Bl
 have d0:=a1;rw[eT]at d0;have d1:=dc.mp d0;have d2:=dc.mp d1.1
 have hB:∀ x,x∈B++[f]->x∈f::M++[l]->x=f:=λ x h1 h2=>by
  rcases ck.mp h1 with h1 | h1
  ·exact absurd rfl (d2.2.2 x h1 x h2)
  ·exact bu.mp h1
 have hC:∀ x,x∈l::C->x∈f::M++[l]->x=l:=λ x h1 h2=>by
  rcases eK.mp h1 with h1 | h1
  ·exact h1
  ·exact absurd rfl (d1.2.2 x (dj _ h2) x h1)
 have fF:f∈f::M++[l]:=by simp
 have lF:l∈f::M++[l]:=by simp
 have new:∀ x y,Adj T x y->x∉(f::M++[l])\/y∉(f::M++[l])->(nxt W (x,y)).2≠v:=λ x y ad D q=>by
  have U:=i x y ad;obtain⟨z,H,O,Q,g,m⟩:=qZ S d U;rw[H]at q;have q:z=v:=q;subst q;have Z:=sub x (qP ad).1;have N:=sub y (qb (qP ad).2);rcases D with D | D
  ·exact D ((mem x).mpr ⟨Z,m⟩)
  ·exact D ((mem y).mpr ⟨N,S.sym _ _ g⟩)
 have sv:∀{x y},x∈A->y∈A->x≠v/\y≠v:=λ Z N=>⟨λ q=>vA (q ▸ Z),λ q=>vA (q ▸ N)⟩;refine⟨λ x y ad=>?_,λ x y Z N U ht=>?_⟩
 ·have Y:Adj T x y->(x∉(f::M++[l])\/y∉(f::M++[l]))->(nxt W (x,y)).2∉A++[v]:=λ ad D z=>by
   rcases ck.mp z with z | z
   ·exact h.up x y ad z
   ·exact new x y ad D (bu.mp z)
  rcases(o x y).mp ad with q | ⟨rfl,rfl⟩ | ⟨rfl,rfl⟩ | q
  ·have n:=(I x y).mpr (.inl q)
   refine Y n ?_;by_cases X:x∈f::M++[l]
   ·right
    intro c2;have g:=hB x (qP q).1 X;have m:=hB y (qb (qP q).2) c2;exact(S.e (i x y n)).2.2 (m.trans g.symm)
   ·exact .inl X
  ·obtain⟨a4,a0⟩:=(mem x).mp fF
   obtain⟨u,H,O,Q,g,m⟩:=qZ S d (S.sym _ _ a0);rw[H];intro z;rcases ck.mp z with z | z
   ·have uF:=(mem u).mpr ⟨z,g⟩
    have L:(nxt W (u,x)).2=y:=by rw[Q]
    rcases h.all u x z a4 m (by rw[L];exact vA) with q | ⟨rfl,rfl⟩
    ·have G:=(S.e m).2.2
     rcases(I u x).mp q with q | q | q
     ·exact G (hB u (qP q).1 uF).symm
     ·exact(gj.mp d2.2.1).1 (qP q).2
     ·have:x∈C:=(qP q).2
      exact d1.2.2 x (dj _ fF) x this rfl
    ·rw[bc]at L
     exact vc L.symm
   ·have:=bu.mp z
    exact(S.e g).2.2 this
  ·obtain⟨a5,a2⟩:=(mem y).mp lF
   obtain⟨u,H,O,Q,g,m⟩:=qZ S d a2;rw[H];intro z;rcases ck.mp z with z | z
   ·have uF:=(mem u).mpr ⟨z,S.sym _ _ m⟩
    have L:(nxt W (y,u)).2=x:=by rw[O]
    rcases h.all y u a5 z g (by rw[L];exact vA) with q | ⟨rfl,rfl⟩
    ·have G:=(S.e g).2.2
     rcases(I y u).mp q with q | q | q
     ·have:=hB y (qP q).1 lF
      have hu:=hB u (qb (qP q).2) uF;exact G (hu.trans this.symm)
     ·have:∀{p q:Nat},Adj (f::M++[y]) p q->p≠y:=λ D=>yH (R:=f::M) (λ w=>by
       have:=dc.mp d2.2.1;exact this.2.2 y w y (bu.mpr rfl) rfl) D
      exact this q rfl
     ·have:=hC u (eD _ (qP q).2) uF
      exact G this
    ·rw[bc]at L
     exact vc L.symm
   ·have:=bu.mp z
    exact(S.e m).2.2 this.symm
  ·have n:=(I x y).mpr (.inr (.inr q))
   refine Y n ?_;by_cases X:x∈f::M++[l]
   ·right
    intro c2;have g:=hC x (qP q).1 X;have m:=hC y (eD _ (qP q).2) c2;exact(S.e (i x y n)).2.2 (m.trans g.symm)
   ·exact .inl X
 ·have r:(nxt W (x,y)).2∉A:=λ z=>ht (dw _ z)
  have a3:(nxt W (x,y)).2≠v:=λ z=>ht (dj _ (bu.mpr z));have xy:=(S.e U).2.2;rcases ck.mp Z with s | s
  ·rcases ck.mp N with j | j
   ·rcases h.all x y s j U r with q | q
    ·rcases(I x y).mp q with q | q | q
     ·exact .inl ((o x y).mpr (.inl q))
     ·exact absurd (nz x y q) a3
     ·exact .inl ((o x y).mpr (.inr (.inr (.inr q))))
    ·exact .inr q
   ·have yv:=bu.mp j
    subst yv;have xF:=(mem x).mpr ⟨s,S.sym _ _ U⟩;by_cases xf:x=f
    ·exact .inl ((o x y).mpr (.inr (.inl ⟨xf,rfl⟩)))
    ·have:x∈(f::M++[l]).tail:=by
      rcases eK.mp xF with q | q
      ·exact absurd q xf
      ·exact q
     obtain⟨p,J⟩:=cS this;obtain⟨z,H,O,Q,g,m⟩:=qZ S d (i p x ((I p x).mpr (.inr (.inl J))))
     have zv:z=y:=by
      have:=nz p x J;rw[H]at this;exact this
     subst zv;rw[O]at r;exact absurd ((mem p).mp (qP J).1).1 r
  ·have xv:=bu.mp s
   subst xv;rcases ck.mp N with j | j
   ·have yF:=(mem y).mpr ⟨j,U⟩
    by_cases yl:y=l
    ·exact .inl ((o x y).mpr (.inr (.inr (.inl ⟨rfl,yl⟩))))
    ·have yP:y∈f::M:=by
      rcases ck.mp yF with q | q
      ·exact q
      ·exact absurd (bu.mp q) yl
     obtain⟨p,J⟩:=kCW (l:=l) yP;obtain⟨z,H,O,Q,g,m⟩:=qZ S d (i y p ((I y p).mpr (.inr (.inl J))))
     have zv:z=x:=by
      have:=nz y p J;rw[H]at this;exact this
     subst zv;rw[Q]at r;exact absurd ((mem p).mp (qb (qP J).2)).1 r
   ·exact absurd (bu.mp j) xy
end
end Tri
namespace Fc
open Cyc Rnd Tri
theorem nR:∀{l:List Nat}{p q:Nat}(s:List Nat),Adj l p q->Adj (l++s) p q
 | [],_,_,_,h=>h.elim
 | [_],_,_,_,h=>h.elim
 | i::j::l,p,q,s,h=>by
  rcases h with h | h
  ·exact .inl h
  ·exact .inr (nR (l:=j::l) s h)
def adj_nx{l:List Nat}{p q:Nat}(r:List Nat)(h:Adj l p q):Nx (l++r) p q:=by
 show Adj (l++r++_) p q;rw[dh];exact nR _ h
section
variable {W:Rows} {T off:List Nat} {a b:Nat}
end
end Fc
namespace Tri
open Cyc Rnd
section
variable {W:Rows}
def kTE(S:Nb W)(g:∀ t∈kS W,(nxt W (nxt W t)).2=t.1){d:List Nat}{a b c:Nat}(p:d.Nodup)(v:d.take 2=[a,b])(o:E W a b)(N:(nxt W (b,a)).2=c)(G:c∉d) :
  ∀{i:Nat}{fs ts:List (List Nat)},i+2<=d.length->goF W d i=some (fs,ts)->Bd W (d.take (i+2)) (ts.getLastD []) a b:=by
 have h0:Top W (d.take 2) (d.take 2):=by rw[v];exact cW S o
 intro i
 induction i with
 | zero =>
  intro fs ts _ h;unfold goF at h;have h:=bg h;injection h with h1 h2
  rw[<-h2];show Bd W (d.take 2) (d.take 2) a b;rw[v];exact Bd.start S g o
 | succ i ih =>
  intro fs ts U h;obtain⟨T,O,e⟩:=uY (i:=i) (j:=1) h;obtain⟨st,z,Q,J⟩:=wZ e h;have TT:=cF p S.sym h0 (by omega) e;have I:d.getD (i+2) 0∉d.take (i+2):=uW p (by omega) (by omega);have A:d[i+2]?=some (d.getD (i+2) 0):=by rw[av,ae (by omega)];rfl
  have L:d.take (i+1+2)=d.take (i+2)++[d.getD (i+2) 0]:=by rw[iL,A];rfl
  have H:d.getD (i+2) 0≠c:=λ q=>G (q ▸ cv A);obtain⟨B,f,M,l,C,r,u,mem,D⟩:=cY TT.nd z
  have m:ts.getLastD []=B++[f,d.getD (i+2) 0,l]++C:=by
   rw[J,cB,r];exact bO u TT.nd
  rw[m,L];refine Bd.step (c:=c) S g (ih (by omega) e) TT.nd TT.sub TT.path N H I u (λ q=>?_) (λ x y ad=>?_)
  ·rw[<-r,mem q]
   constructor
   ·rintro⟨s,n⟩
    refine⟨s,?_⟩;rw[av]at n
    cases w:W[d.getD (i+2) 0]? with
    | none=>rw[w]at n;cases n
    | some row=>rw[w]at n;exact⟨row,w,n⟩
   ·rintro⟨s,n⟩
    exact⟨s,Fc.mem_row n⟩
  ·exact D (x,y) (by rw[r];exact kHU ad)
theorem dQ:∀{T:List Nat}{x y:Nat},Adj T x y->∃ B C,T=B++x::y::C
 | [],_,_,h=>h.elim
 | [_],_,_,h=>h.elim
 | p::q::r,x,y,h=>by
  rcases h with⟨rfl,rfl⟩ | h
  ·exact⟨[],r,rfl⟩
  ·obtain⟨B,C,e⟩:=dQ (T:=q::r) h
   exact⟨p::B,C,by rw[e];rfl⟩
theorem seg{T:List Nat}(nd:T.Nodup):∀{R:List Nat}{x y:Nat},(∀ p q,Adj (x::y::R) p q->Adj T p q)->∃ B C,T=B++(x::y::R)++C
 | [],x,y,h=>by
  obtain⟨B,C,e⟩:=dQ (h x y (.inl ⟨rfl,rfl⟩));exact⟨B,C,by rw[e];simp⟩
 | z::R,x,y,h=>by
  obtain⟨B,C,e⟩:=seg nd (R:=R) (x:=y) (y:=z) λ p q a=>h p q (.inr a);obtain⟨b,n,j⟩:=dQ (h x y (.inl ⟨rfl,rfl⟩));have d:T=B++y::(z::R++C):=by rw[e];simp
  have c:T=(b++[x])++y::n:=by rw[j];simp
  have:B=b++[x]:=by
   have i:y∉B:=λ q=>by
    rw[d]at nd;exact(dc.mp nd).2.2 y q y (fc ..) rfl
   have m:y∉b++[x]:=λ q=>by
    rw[c]at nd;exact(dc.mp nd).2.2 y q y (fc ..) rfl
   have f:T.idxOf y=B.length:=by rw[d,xk,if_neg i];simp
   have g:T.idxOf y=(b++[x]).length:=by rw[c,xk,if_neg m];simp
   have l:B.length=(b++[x]).length:=f.symm.trans g;have:=congrArg (Fn B.length) (d.symm.trans c);rw[ya rfl,ya l.symm]at this;exact this
  exact⟨b,C,by rw[e,this];simp⟩
def kRU(S:Nb W)(d:∀ t∈kS W,(nxt W (nxt W t)).2=t.1){A T R Q row:List Nat}{a b c v:Nat}(h:Bd W A T a b)(TT:Top W A T)(p:A.Nodup)(X:(nxt W (b,a)).2=c)(I:v≠c)(J:v∉A)
  (j:W[v]?=some row) (f:Ro row (R++Q)) (i:∀ x∈R,x∈A) (hQ:∀ x∈Q,x∉A) (two:2<=R.length):stF W T A v=some R:=by
 have step:∀ x y,Adj R x y->(nxt W (x,y)).2=v/\E W x y:=λ x y ad=>by
  have nx:Nx row x y:=(f.nx x y).mpr (Fc.adj_nx Q ad);have Z:=mN S.nd ⟨row,j,nx⟩;have N:E W y v:=S.sym _ _ ⟨row,j,f.perm.mem_iff.mpr (dw _ (qb (qP ad).2))⟩;obtain⟨z,r,m2,U,e1,G⟩:=qZ S d N;rw[Z]at r;have:x=z:=congrArg yc r;subst this;exact⟨by rw[U],G⟩
 have g:∀ x y,Adj R x y->Adj T x y:=λ x y ad=>by
  obtain⟨o,L⟩:=step x y ad;rcases h.all x y (i x (qP ad).1) (i y (qb (qP ad).2)) L (by rw[o];exact J) with q | ⟨rfl,rfl⟩
  ·exact q
  ·rw[X]at o
   exact absurd o.symm I
 match R,two,f,i,step,g with
 | x::y::m,_,f,i,step,g =>
  obtain⟨B,C,s⟩:=seg TT.nd g
  obtain⟨M,l,O⟩ : ∃ M l,x::y::m=x::M++[l]:=by
   have H:y::m≠[]:=λ z=>by cases z
   exact⟨(y::m).dropLast,(y::m).getLast H,by rw[kj,eC]⟩
  rw[O]at s f i step ⊢;refine kAM TT.nd p s TT.sub (λ q=>?_) (λ t Y=>?_)
  ·constructor
   ·intro u
    refine⟨i q u,?_⟩;rw[av,j];exact f.perm.mem_iff.mpr (dw _ u)
   ·rintro⟨h1,D⟩
    rw[av,j]at D;rcases ck.mp (f.perm.mem_iff.mp D) with n | n
    ·exact n
    ·exact absurd h1 (hQ q n)
  ·exact(step t.1 t.2 (bE (a:=t.1) (b:=t.2) Y)).1
end
end Tri
namespace L2
open PySem PySem.Spec PyProof.Rows
def nS(a b c:ar):checkTypeCall "zip" ⟨[a,b,c],[]⟩=pure ():=by kernel_rfl
def tO(a b c:ar):checkBuiltinCall "zip.__new__" ⟨[.type "zip",a,b,c],[]⟩=pure ():=by kernel_rfl
def kEW(o a b c:ar):argsOk "object.__init__" ⟨[o,a,b,c],[]⟩:=by first | kernel_rfl | decide +kernel | rfl
abbrev jX(h:iK)(T:au)(a b c:ar):Prop:=h.get? T=some {cls:=.type "tuple",data:=.seq #[a,b,c]}
section
variable {prog:eY} {w:iG} {A:gh} {E:ar->ay->Prop} {s:ay}
def zO{T:au}{a b c x:ar}{k:Nat}{Q:Unit->ay->Prop}(d:jX s.heap T a b c)
  (h:∀ h',h'.get? T=some {cls:=.type "tuple",data:=.seq ((#[a,b,c]:Array ar).setIfInBounds k x)}->iz T s.heap h'->Q () {s with heap:=h'}) :
  dq (model prog w) A (updateSeq T (·.setIfInBounds k x)) Q E s:=by
 refine wpAny_updateSeq d rfl (h _ ?_ (jo ..));rw[qe _ d rfl];simp[so]
end
structure ZAp3(z TI TO i1 i2 i3:au)(fp1 fp2 fp3:List au):Prop where
 zTI:z≠TI
 zTO:z≠TO
 zi1:z≠i1
 zi2:z≠i2
 zi3:z≠i3
 TOi1:TO≠i1
 TOi2:TO≠i2
 TOi3:TO≠i3
 TITO:TI≠TO
 TIi1:TI≠i1
 TIi2:TI≠i2
 TIi3:TI≠i3
 z1:z∉fp1
 z2:z∉fp2
 z3:z∉fp3
 t1:TO∉fp1
 t2:TO∉fp2
 t3:TO∉fp3
 i2f1:i2∉fp1
 i3f1:i3∉fp1
 i1f2:i1∉fp2
 i3f2:i3∉fp2
 i1f3:i1∉fp3
 i2f3:i2∉fp3
section
variable {prog:eY} {w:iG} {A:gh} {E:ar->ay->Prop} {s:ay} {z TI TO i1 i2 i3:au} {fp1 fp2 fp3:List au} {n1 n2 n3 j:Nat} {P1 P2 P3:Nat->ar->Prop} {S1 S2 S3:Nat->iK->Prop} {a b c:ar}
def kCZ{Q:ar->ay->Prop}(D1:EM prog w A i1 fp1 n1 P1 S1)(D2:EM prog w A i2 fp2 n2 P2 S2)(D3:EM prog w A i3 fp3 n3 P3 S3)(d:ZAp3 z TI TO i1 i2 i3 fp1 fp2 fp3)
  (hz:wm s.heap z TI TO .none) (a4:jX s.heap TI (.ref i1) (.ref i2) (.ref i3)) (a1:jX s.heap TO a b c) (h1:S1 j s.heap) (h2:S2 j s.heap) (h3:S3 j s.heap) (l1:j<n1) (l2:j<n2) (l3:j<n3)
  (hQ:∀ x y v h' tk,P1 j x->P2 j y->P3 j v->wm h' z TI TO (rawInt s.heap.objs.size)->jX h' TO x y v->S1 (j+1) h'->S2 (j+1) h'->S3 (j+1) h'->jX h' s.heap.objs.size x y v ->
   (∀ c o,c≠z->c≠TO->c≠i1->c≠i2->c≠i3->s.heap.get? c=some o->h'.get? c=some o)->Q (.ref s.heap.objs.size) {s with heap:=h',toks:=tk}) :
  dq (model prog w) A (zi.«zip.__next__» ⟨[.ref z],[]⟩) (λ fin s'=>∃ v,fin=.done (.ret v)/\Q v s') E s:=by
 have m:∀{i:Nat}{h h':iK}{c:au},S1 i h->iz c h h'->c∉fp1->S1 i h':=λ st X M=>D1.frame _ _ _ st λ b n o e=>X.extBut b o (λ q=>M (q ▸ n)) e;have l:∀{i:Nat}{h h':iK}{c:au},S2 i h->iz c h h'->c∉fp2->S2 i h':=λ st X M=>D2.frame _ _ _ st λ b n o e=>X.extBut b o (λ q=>M (q ▸ n)) e;have g:∀{i:Nat}{h h':iK}{c:au},S3 i h->iz c h h'->c∉fp3->S3 i h':=λ st X M=>D3.frame _ _ _ st λ b n o e=>X.extBut b o (λ q=>M (q ▸ n)) e;show dq _ _ (field (.ref z) 2 >>= _) _ _ _;refine ai (iY hz rfl (x:=.bool false) rfl ?_);show dq _ _ (field (.ref z) 3 >>= _) _ _ _;refine ai (iY hz rfl (x:=.ref TI) rfl ?_);refine ai (jv a4 rfl ?_);show dq _ _ (iB (.ref z) >>= _) _ _ _;refine ai ?_;unfold iB;refine ai (iY hz rfl (x:=.none) rfl (bp ?_));simp only[if_true];refine ai (vf ?_);refine ai (iY hz rfl (x:=.ref TO) rfl ?_);refine ai (jz hz (by simp) λ g1 O B=>?_)
 replace O:wm g1 z TI TO .ellipsis:=O
 refine ai ?_
 simp only[ym,Ao,zh,BO]
 refine ai (ai (vj ?_));show dq _ _ (gy (.ref i1) >>= _) _ _ _;refine ai (D1.item j _ _ _ l1 (m h1 B d.z1) λ x g2 a8 px a2 I=>bp ?_);have o2:jX g2 TO a b c:=I.extBut _ _ d.TOi1 (B.extBut _ _ d.zTO.symm a1);refine ai (jv o2 rfl ?_);refine ai (zO o2 λ g3 o3 J=>?_)
 replace o3:jX g3 TO x b c:=o3
 refine ai (Ah (bp ?_))
 refine ai (ai (vj ?_));show dq _ _ (gy (.ref i2) >>= _) _ _ _;refine ai (D2.item j _ _ _ l2 (l (l (l h2 B d.z2) I d.i1f2) J d.t2) λ y g4 a7 py a6 D=>bp ?_);have o4:jX g4 TO x b c:=D.extBut _ _ d.TOi2 o3;refine ai (jv o4 rfl ?_);refine ai (zO o4 λ g5 o5 C=>?_)
 replace o5:jX g5 TO x y c:=o5
 refine ai (Ah (bp ?_))
 refine ai (ai (vj ?_));show dq _ _ (gy (.ref i3) >>= _) _ _ _;refine ai (D3.item j _ _ _ l3 (g (g (g (g (g h3 B d.z3) I d.i1f3) J d.t3) D d.i2f3) C d.t3) λ v g6 a9 a5 a0 G=>bp ?_);have o6:jX g6 TO x y c:=G.extBut _ _ d.TOi3 o5;refine ai (jv o6 rfl ?_);refine ai (zO o6 λ f o7 H=>?_)
 replace o7:jX f TO x y v:=o7
 refine ai (Ah (bp (bp ?_)))
 refine ai (jv o7 rfl ?_);refine ai (Ct ?_);have sz:f.objs.size=s.heap.objs.size:=by rw[H.1,G.1,C.1,D.1,J.1,I.1,B.1]
 have z7:wm f z TI TO .ellipsis:=H.extBut _ _ d.zTO (G.extBut _ _ d.zi3 (C.extBut _ _ d.zTO (D.extBut _ _ d.zi2 (J.extBut _ _ d.zTO (I.extBut _ _ d.zi1 O)))))
 have k7:∀ c o,c≠z->c≠TO->c≠i1->c≠i2->c≠i3->s.heap.get? c=some o->f.get? c=some o:=λ c o u Z c3 c4 c5 e =>
  H.extBut _ _ Z (G.extBut _ _ c5 (C.extBut _ _ Z (D.extBut _ _ c4 (J.extBut _ _ Z (I.extBut _ _ c3 (B.extBut _ _ u e))))))
 have a3:S1 (j+1) f:=m (m (m (m (m a2 J d.t1) D d.i2f1) C d.t1) G d.i3f1) H d.t1;have T:S2 (j+1) f:=l (l (l a6 C d.t2) G d.i3f2) H d.t2;have Y:S3 (j+1) f:=g a0 H d.t3;have N:z<f.objs.size:=cf z7;show dq _ _ (mj (.ref z) (.ref f.objs.size) >>= _) _ _ _;refine ai ?_;unfold mj;have z8:wm (f.push {cls:=.type "tuple",data:=.seq #[x,y,v]}) z TI TO .ellipsis:=ao _ z7;refine ai (jz z8 (by simp) λ g9 z9 s9=>?_)
 replace z9:wm g9 z TI TO (rawInt f.objs.size):=z9
 refine jz z9 (by simp) λ r p S=>?_
 replace p:wm r z TI TO (rawInt f.objs.size):=p
 have L:∀ c o,c≠z->f.get? c=some o->r.get? c=some o:=λ c o u e=>S.extBut _ _ u (s9.extBut _ _ u (ao _ e));have U:jX r f.objs.size x y v:=S.extBut _ _ (ja N) (s9.extBut _ _ (ja N) (cg _ rfl));rw[sz]at p U;refine bp ⟨_,rfl,?_⟩;show Q (.ref f.objs.size) _;rw[sz];exact hQ x y v r _ px py a5 p (L _ _ d.zTO.symm o7) (D1.frame _ _ _ a3 λ b n o e=>L b o (λ q=>d.z1 (q ▸ n)) e) (D2.frame _ _ _ T λ b n o e=>L b o (λ q=>d.z2 (q ▸ n)) e) (D3.frame _ _ _ Y λ b n o e=>L b o (λ q=>d.z3 (q ▸ n)) e) U λ c o u Z c3 c4 c5 e=>L c o u (k7 c o u Z c3 c4 c5 e)
def kIB{Q:ui->ay->Prop}(m:EM prog w A i1 fp1 n1 P1 S1)(n:ZAp3 z TI TO i1 i2 i3 fp1 fp2 fp3)
  (hz:wm s.heap z TI TO .none) (h:jX s.heap TI (.ref i1) (.ref i2) (.ref i3)) (v:jX s.heap TO a b c) (h1:S1 n1 s.heap)
  (I:∀ h' e,(∀ c o,c≠z->c≠TO->c≠i1->c≠i2->c≠i3->s.heap.get? c=some o->h'.get? c=some o)->(∃ o,h'.get? e=some o/\o.cls=.type "StopIteration")->E (.ref e) {s with heap:=h'}) :
  dq (model prog w) A (zi.«zip.__next__» ⟨[.ref z],[]⟩) Q E s:=by
 show dq _ _ (field (.ref z) 2 >>= _) _ _ _;refine ai (iY hz rfl (x:=.bool false) rfl ?_);show dq _ _ (field (.ref z) 3 >>= _) _ _ _;refine ai (iY hz rfl (x:=.ref TI) rfl ?_);refine ai (jv h rfl ?_);show dq _ _ (iB (.ref z) >>= _) _ _ _;refine ai ?_;unfold iB;refine ai (iY hz rfl (x:=.none) rfl (bp ?_));simp only[if_true];refine ai (vf ?_);refine ai (iY hz rfl (x:=.ref TO) rfl ?_);refine ai (jz hz (by simp) λ H g l=>?_)
 replace g:wm H z TI TO .ellipsis:=g
 refine ai ?_;simp only[ym,Ao,zh,BO];refine ai (ai (vj ?_));show dq _ _ (gy (.ref i1) >>= _) _ _ _;refine ai (m.done _ _ _ (m.frame _ _ _ h1 λ b G o e=>l.extBut b o (λ q=>n.z1 (q ▸ G)) e) λ B e p C=>?_);obtain⟨y,d,f⟩:=C;have j:wm B z TI TO .ellipsis:=p _ _ n.zi1 g;have u:e≠z:=λ q=>by subst q;rw[j]at d;cases d;simp at f
 exact jz j (by simp) λ D _ r=>I D e (λ c o i _ J _ _ q=>r.extBut _ _ i (p _ _ J (l.extBut _ _ i q))) ⟨y,r.extBut _ _ u d,f⟩
end
def kAD(b i j:Bool)(a c f:au)(xs ys zs:Array ar) :
  Meets (zi.«zip.__new__» ⟨[.type "zip",.ref a,.ref c,.ref f],[]⟩) (λ _ R s=>SqOf b s.heap a xs/\SqOf i s.heap c ys/\SqOf j s.heap f zs /\
   ∀(r l m u y D:iK),r=s.heap.push {cls:=.type (zE b),data:=.fields #[.ref a,.int 0 0]}->l=r.push {cls:=.type (zE i),data:=.fields #[.ref c,.int 0 0]}->m=l.push {cls:=.type (zE j),data:=.fields #[.ref f,.int 0 0]} ->
    u=m.push {cls:=.type "tuple",data:=.seq #[.ref s.heap.objs.size,.ref r.objs.size,.ref l.objs.size]}->y=u.push {cls:=.type "tuple",data:=.seq #[.none,.none,.none]} ->
    D=y.push {cls:=.type "zip",data:=.fields #[.none,.bool false,.bool false,.ref m.objs.size,.ref u.objs.size]}->R (.ok (.ret (.ref y.objs.size))) {s with heap:=D}) :=
 .of_wp λ H w A R s h=>by
  obtain⟨hp,g,d,x,os⟩:=s;obtain⟨p,q,n,h⟩:=h;have G:=sub_zip;have v:SqOf b (Af ⟨hp,g,d,x,os⟩) a xs:=p;have B:SqOf i (Af ⟨hp.push {cls:=.type (zE b),data:=.fields #[.ref a,.int 0 0]},g,d,x,os⟩) c ys:=q.at λ o e=>ao _ e;have C:SqOf j (Af ⟨(hp.push {cls:=.type (zE b),data:=.fields #[.ref a,.int 0 0]}).push {cls:=.type (zE i),data:=.fields #[.ref c,.int 0 0]},g,d,x,os⟩) f zs:=n.at λ o e=>ao _ (ao _ e);have h:=h _ _ _ _ _ _ rfl rfl rfl rfl rfl rfl
  wp_walk using cC v,cC B,cC C
  exact⟨_,rfl,h⟩
section
variable {prog:eY} {w:iG} {A:gh} {E:ar->ay->Prop} {s:ay}
def kAA{m r n:Bool}{l g i:au}{xs ys zs:Array ar}{Q:ar->ay->Prop}(h1:SqOf m s.heap l xs)(h2:SqOf r s.heap g ys)(h3:SqOf n s.heap i zs)
  (h:∀ h',wm h' (s.heap.objs.size+5) (s.heap.objs.size+3) (s.heap.objs.size+4) .none->jX h' (s.heap.objs.size+3) (.ref s.heap.objs.size) (.ref (s.heap.objs.size+1)) (.ref (s.heap.objs.size+2)) ->
   jX h' (s.heap.objs.size+4) .none .none .none->ItOf m h' s.heap.objs.size l 0->ItOf r h' (s.heap.objs.size+1) g 0->ItOf n h' (s.heap.objs.size+2) i 0->(∀ c o,s.heap.get? c=some o->h'.get? c=some o)->Q (.ref (s.heap.objs.size+5)) {s with heap:=h'}) :
  dq (model prog w) A (call (.type "zip") [.ref l,.ref g,.ref i]) Q E s:=by
 refine Dk Fy (by decide) (nS _ _ _) (tO _ _ _) (λ obj=>kEW obj _ _ _) ET (kAD m r n l g i xs ys zs) ⟨h1,h2,h3,?_⟩;intro d b j p v a I D L M G S;have H:d.objs.size=s.heap.objs.size+1:=by rw[I];exact iZ ..
 have y:b.objs.size=s.heap.objs.size+2:=by rw[D,iZ,H]
 have B:j.objs.size=s.heap.objs.size+3:=by rw[L,iZ,y]
 have N:p.objs.size=s.heap.objs.size+4:=by rw[M,iZ,B]
 have X:v.objs.size=s.heap.objs.size+5:=by rw[G,iZ,N]
 have u1:∀ c o,s.heap.get? c=some o->d.get? c=some o:=λ c o e=>by rw[I];exact ao _ e
 have T:∀ c o,d.get? c=some o->b.get? c=some o:=λ c o e=>by rw[D];exact ao _ e
 have C:∀ c o,b.get? c=some o->j.get? c=some o:=λ c o e=>by rw[L];exact ao _ e
 have u:∀ c o,j.get? c=some o->p.get? c=some o:=λ c o e=>by rw[M];exact ao _ e
 have q:∀ c o,p.get? c=some o->v.get? c=some o:=λ c o e=>by rw[G];exact ao _ e
 have f:∀ c o,v.get? c=some o->a.get? c=some o:=λ c o e=>by rw[S];exact ao _ e
 have J:wm a v.objs.size j.objs.size p.objs.size .none:=by rw[S];exact cg _ rfl
 have U:jX a p.objs.size .none .none .none:=f _ _ (by rw[G];exact cg _ rfl);have Y:jX a j.objs.size (.ref s.heap.objs.size) (.ref d.objs.size) (.ref b.objs.size):=f _ _ (q _ _ (by rw[M];exact cg _ rfl));have i1:ItOf m a s.heap.objs.size l 0:=ItOf.at (h:=d) (by rw[I];exact ItOf.new m s.heap l) λ o e=>f _ _ (q _ _ (u _ _ (C _ _ (T _ _ e))));have Z:ItOf r a d.objs.size g 0:=ItOf.at (h:=b) (by rw[D];exact ItOf.new r d g) λ o e=>f _ _ (q _ _ (u _ _ (C _ _ e)));have O:ItOf n a b.objs.size i 0:=ItOf.at (h:=j) (by rw[L];exact ItOf.new n b i) λ o e=>f _ _ (q _ _ (u _ _ e));show _/\_;rw[B,N,X]at J;rw[H,y,B]at Y;rw[N]at U;rw[H]at Z;rw[y]at O;rw[X];exact⟨⟨_,J,rfl⟩,h _ J Y U i1 Z O λ c o x=>f _ _ (q _ _ (u _ _ (C _ _ (T _ _ (u1 _ _ x)))))⟩
end
def Inv.handed3{X:Cx}{a:List (au×Obj)}{d:St}{H:Hp}{s:ay}{h':iK}{t':Nat}{ch:List au}{x y z:V}{u v r:ar}(I:Inv X a d H s)(m:RelV x u)(D:RelV y v)(l:RelV z r)
  (q:h'.get? s.heap.objs.size=some {cls:=.type "tuple",data:=.seq #[u,v,r]}) (k:∀ b o,b∉ch->s.heap.get? b=some o->h'.get? b=some o) (g:∀ b∈ch,zF X a H b) (f:∀ b∈ch,b<s.heap.objs.size) :
  Inv X a d (upd H s.heap.objs.size (.tup [x,y,z])) {s with heap:=h',toks:=t'}/\(∀ b∈ch,upd H s.heap.objs.size (.tup [x,y,z]) b=none):=by
 have h:∀ b∈ch,upd H s.heap.objs.size (.tup [x,y,z]) b=none:=λ b c=>by rw[kM (dr (f b c))];exact(g b c).1
 have B:Inv X a d (upd H s.heap.objs.size (.tup [x,y,z])) {s with heap:=s.heap.push {cls:=.type "tuple",data:=.seq #[u,v,r]},toks:=s.toks} :=
  I.laid (λ b o e=>ao _ e) (be _) ⟨by simp only[iC,tm];rw[Ad];decide,[u,v,r],.cons m (.cons D (.cons l .nil)),⟨_,cg _ rfl,rfl,0,rfl,rfl⟩⟩
 have n:=Inv.turnedL (h':=h') (t':=t') (ch:=ch) B (λ b o c e=>by
  rcases Cs e with⟨rfl,rfl⟩ | e
  ·exact q
  ·exact k b o c e) (λ b c=>by
  obtain⟨G,i,C,p,j,A⟩:=g b c;exact⟨h b c,i,C,p,j,A⟩)
 exact⟨n,h⟩
def kOL(h l j : Bool)(K : bb)(a b c : au) : It :=
  ⟨λ i H => ∃ d f g x y z, SqX K h H a d /\ SqX K l H b f /\ SqX K j H c g /\ d[i]? = some x /\ f[i]? = some y /\ g[i]? = some z,
   λ i H v m => ∃ T x y z, H T = none /\ v = .ref T /\ (∀ d, SqX K h H a d -> d[i]? = some x) /\ (∀ f, SqX K l H b f -> f[i]? = some y) /\ (∀ g, SqX K j H c g -> g[i]? = some z) /\ m = upd H T (.tup [x, y, z]),
   λ i H => ∃ d, SqX K h H a d /\ d.length = i⟩
def kIH{P:eY}{w:iG}{K:bb}{a1:List iH} {x1} {aq:Pos} (k1 k2 k3:Bool) (a b c z TI TO m J B:au) (n:ZAp3 z TI TO m J B [m,a] [J,b] [B,c]) :
  Turn P w K (.Tuple a1 x1 aq) (kOL k1 k2 k3 K a b c) [z,TO,m,J,B,TI] z
   (λ i h=>wm h z TI TO .none/\jX h TI (.ref m) (.ref J) (.ref B)/\(∃ u v r,jX h TO u v r)/\ItOf k1 h m a i/\ItOf k2 h J b i/\ItOf k3 h B c i) where
 mem:=by simp
 obj:=λ i h st e he=>by
  obtain⟨L,f,⟨u,v,r,j⟩,h1,M,N⟩:=st;simp only[eK,rm,or_false]at he;rcases he with rfl | rfl | rfl | rfl | rfl | rfl
  ·exact⟨_,L,λ v q=>by cases q⟩
  ·exact⟨_,j,λ v q=>by cases q⟩
  ·exact h1.live
  ·exact M.live
  ·exact N.live
  ·exact⟨_,f,λ v q=>by cases q⟩
 keep:=λ i h h' st O=>by
  obtain⟨L,f,⟨u,v,r,j⟩,h1,M,N⟩:=st;exact⟨O z (by simp) _ L,O TI (by simp) _ f,⟨u,v,r,O TO (by simp) _ j⟩,h1.at λ o q=>O m (by simp) o q,M.at λ o q=>O J (by simp) o q,N.at λ o q=>O B (by simp) o q⟩
 item:=by
  intro X hP hw hK Z i a5 s σ H E I hf st hg;subst hP hw hK;obtain⟨L,f,⟨u0,v0,r0,j⟩,h1,M,N⟩:=st;obtain⟨xs,ys,zs,x,y,zz,a6,a2,a3,hx,hy,a4⟩:=hg;obtain⟨C,ag,p1⟩:=I.sq a6;obtain⟨D,am,p2⟩:=I.sq a2;obtain⟨G,a8,p3⟩:=I.sq a3;obtain⟨u,hu,ru⟩:=ag.get hx;obtain⟨v,hv,rv⟩:=am.get hy;obtain⟨r,hr,rr⟩:=a8.get a4;have D1:=xY (prog:=X.prog) (w:=X.w) (A:=X.A.in1) (I.ok.hd Z) k1 m a (aE p1 h1) C.toArray;have D2:=xY (prog:=X.prog) (w:=X.w) (A:=X.A.in1) (I.ok.hd Z) k2 J b (aE p2 M) D.toArray;have D3:=xY (prog:=X.prog) (w:=X.w) (A:=X.A.in1) (I.ok.hd Z) k3 B c (aE p3 N) G.toArray;have Q:i<C.toArray.size:=by simpa using(ak.mp hu).1
  have S:i<D.toArray.size:=by simpa using(ak.mp hv).1
  have a7:i<G.toArray.size:=by simpa using(ak.mp hr).1
  have U:s.TypeIs (.ref z) "zip":=⟨_,L,rfl⟩;unfold pyNext
  refine ai (yz (ju (name:=wx "__next__") U rh (ky rh U AX
   (kCZ D1 D2 D3 n L f j ⟨h1,p1⟩ ⟨M,p2⟩ ⟨N,p3⟩ Q S a7 λ u' v' r' h' tk aw aa ah z' o' al ac b0 t' hk=>bp ?_) (AG _))))
  have eu:u'=u:=by
   have q:C[i]?=some u':=by simpa using aw
   rw[hu]at q;exact(bg q).symm
  have ev:v'=v:=by
   have q:D[i]?=some v':=by simpa using aa
   rw[hv]at q;exact(bg q).symm
  have er:r'=r:=by
   have q:G[i]?=some r':=by simpa using ah
   rw[hr]at q;exact(bg q).symm
  subst eu ev er;refine⟨_,rfl,Be z' λ g ab l=>?_⟩;have ax:z<s.heap.objs.size:=cf L;have b3:TO<s.heap.objs.size:=cf j;have b4:m<s.heap.objs.size:=let ⟨_,e,_⟩:=h1.live;cf e;have b5:J<s.heap.objs.size:=let ⟨_,e,_⟩:=M.live;cf e;have b2:B<s.heap.objs.size:=let ⟨_,e,_⟩:=N.live;cf e;have a0:TI<s.heap.objs.size:=cf f;have b1:g.get? s.heap.objs.size=some {cls:=.type "tuple",data:=.seq #[u',v',r']}:=l.extBut _ _ (ja ax) t'
  obtain⟨I2,n2⟩:=I.handed3 (t':=tk) (ch:=[z,TO,m,J,B]) ru rv rr b1 (λ c o d q=>l.extBut c o (λ e=>d (by simp[e])) (hk c o (λ e=>d (by simp[e])) (λ e=>d (by simp[e])) (λ e=>d (by simp[e])) (λ e=>d (by simp[e])) (λ e=>d (by simp[e])) q))
   (λ c d=>hf c (by simp at d ⊢;rcases d with e | e | e | e | e<;>simp[e]))
   (λ c d=>by simp at d;rcases d with rfl | rfl | rfl | rfl | rfl<;>assumption)
  refine⟨.ref s.heap.objs.size,_,I2,rfl,⟨_,x,y,zz,I.hok.fresh (be _),rfl,(λ b6 a9=>by rw[I.sq_inj a9 a6];exact hx),(λ b8 an=>by rw[I.sq_inj an a2];exact hy),(λ b7 as=>by rw[I.sq_inj as a3];exact a4),rfl⟩,?_,λ c d=>?_⟩
  ·exact⟨ab,l.extBut _ _ n.zTI.symm (hk _ _ n.zTI.symm n.TITO n.TIi1 n.TIi2 n.TIi3 f),⟨_,_,_,l.extBut _ _ n.zTO.symm o'⟩,al.1.at λ o q=>l.extBut m o n.zi1.symm q,ac.1.at λ o q=>l.extBut J o n.zi2.symm q,b0.1.at λ o q=>l.extBut B o n.zi3.symm q⟩
  ·by_cases e:c=TI
   ·subst e
    rw[kM (dr a0)];exact(hf c (by simp)).1
   ·exact n2 c (by simp at d ⊢;rcases d with q | q | q | q | q | q<;>simp_all)
 done:=by
  intro X hP hw hK Z i a5 s σ H E I hf st hg;subst hP hw hK;obtain⟨L,f,⟨u0,v0,r0,j⟩,h1,M,N⟩:=st;obtain⟨xs,hq,hx⟩:=hg;obtain⟨Y,rv,p⟩:=I.sq hq;have D1:=xY (prog:=X.prog) (w:=X.w) (A:=X.A.in1) (I.ok.hd Z) k1 m a (aE p h1) Y.toArray;have hl:Y.toArray.size=i:=by rw[<-hx,rv.length];simp
  have U:s.TypeIs (.ref z) "zip":=⟨_,L,rfl⟩;unfold pyNext
  refine ai (yz (ju (name:=wx "__next__") U rh (ky rh U AX
   (kIB D1 n L f j ⟨hl ▸ h1,p⟩ λ h' e hk he=>?_) (AG _))))
  obtain⟨o,ho,af⟩:=he;refine ai (CG (T:="StopIteration") (b:=true) ⟨o,ho,af⟩ Et ?_)
  refine bp ⟨rfl,I.turnedL (t':=s.toks) (ch:=[z,TO,m,J,B]) (λ c o d q=>hk c o (λ e=>d (by simp[e])) (λ e=>d (by simp[e])) (λ e=>d (by simp[e])) (λ e=>d (by simp[e])) (λ e=>d (by simp[e])) q)
   (λ c d=>hf c (by simp at d ⊢;rcases d with e | e | e | e | e<;>simp[e]))⟩
 self:=λ _ _ _ _ _ st h=>AY st.1 h
def kVP(n a b c:Nat)(h:a<n)(g:b<n)(i:c<n):ZAp3 (n+5) (n+3) (n+4) n (n+1) (n+2) [n,a] [n+1,b] [n+2,c]:=by
 have q:∀{x y u:Nat},x≠y->x≠u->¬ x∈[y,u]:=λ h1 d f=>by
  rcases eK.mp f with e | e
  ·exact h1 e
  ·exact d (bu.mp e)
 constructor<;>first | (intro e;have e:(_:Nat)=_:=e;omega) | exact q (λ e=>by have e:(_:Nat)=_:=e;omega) (λ e=>by have e:(_:Nat)=_:=e;omega)
section
variable {X:Cx}
inductive kNE(k1:Bool)(k2:Bool)(k3:Bool)(K:bb)(R:It->Hp->Prop)(vs:List V)(H1:Hp):Prop
 | mk:∀ a b c,(vs=[.ref a,.ref b,.ref c])->((∃ xs,SqX K k1 H1 a xs))->((∃ ys,SqX K k2 H1 b ys))->((∃ zs,SqX K k3 H1 c zs))->(R (kOL k1 k2 k3 K a b c) H1)->kNE k1 k2 k3 K R vs H1
def kUT(b g a:Bool)(K:bb)(h:TA):TI:=λ c H R=>h c H λ f d=>kNE b g a K R f d
def kPD(M k2 O:Bool){a b c:iH}{N:TA}{p m j:Pos}{n:List iH} {x1} (hg:Gl X "zip") (hm:X.mg "zip" = none) (ha:PA X [a,b,c] N) (hs:starEach [a,b,c] X.env=[(false,eval a X.env),(false,eval b X.env),(false,eval c X.env)]:=by rfl) (o:starEach [b,c] X.env=[(false,eval b X.env),(false,eval c X.env)]:=by rfl) :
  PI X (.Tuple n x1 j) (.Call (.Name "zip" p) [a,b,c] [] m) (kUT M k2 O X.K N):=by
 intro g s σ H R I h;refine Fk (wN I hg hm boot_zip (ie (thn (ha m g s σ H _ I h) λ us d ⟨vs,Q,i,A,q1⟩=>?_) (by rw[hs,o]) (by rw[o];rfl)));obtain⟨l1,l2,l3,rfl,⟨xs,D⟩,⟨ys,J⟩,⟨zs,y⟩,q⟩:=q1
 cases A with
 | cons r A =>
 obtain⟨v,v',rfl,r',B⟩:=kFB A;cases r
 cases r'
 cases B
 obtain⟨U,a2,p1⟩:=i.sq D;obtain⟨Y,a1,p2⟩:=i.sq J;obtain⟨Z,a0,T⟩:=i.sq y;have L:=p1.lt;have x:=p2.lt;have C:=T.lt;refine kAA p1 p2 T λ h' S G u h1 h2 h3 hk=>?_;refine AY (s:={d with heap:=h'}) S ?_
 have f:∀ c,d.heap.objs.size<=c->zF X g Q c:=λ c l=>i.fpOk l (i.hok.fresh l)
 refine⟨_,[d.heap.objs.size+5,d.heap.objs.size+4,d.heap.objs.size,d.heap.objs.size+1,d.heap.objs.size+2,d.heap.objs.size+3],_,_,Q,rfl,i.kept (t':=d.toks) hk,
  kIH M k2 O l1 l2 l3 _ _ _ _ _ _ (kVP _ _ _ _ L x C),⟨S,G,⟨_,_,_,u⟩,h1,h2,h3⟩,λ c l=>?_,q⟩
 simp at l;rcases l with rfl | rfl | rfl | rfl | rfl | rfl<;>exact f _ (by omega)
end
def kNO{f j h:Bool}{K:bb}{a b c:au}{xs ys zs:List V}{g:TG}{o:TS}{D:Ends}{d:St}{H:Hp}(Pv:Nat->St->Hp->Prop)(I:xs.length<=ys.length)(G:xs.length<=zs.length)(h0:Pv 0 d H)
  (S:∀ i d H,i<=xs.length->Pv i d H->SqX K f H a xs/\SqX K j H b ys/\SqX K h H c zs)
  (A:∀ i x y z T d H,xs[i]?=some x->ys[i]?=some y->zs[i]?=some z->H T=none->Pv i d H->g (.ref T) d (upd H T (.tup [x,y,z])) λ σ2 H2=>o {D with nx:=Pv (i+1),ct:=Pv (i+1),bk:=D.nx} σ2 H2) (U:∀ d H,Pv xs.length d H->D.nx d H) :
  ∃ W:Nat->Nat->St->Hp->Prop,(∃ m,W 0 m d H)/\∀ i m d H,W i m d H ->
   ((kOL f j h K a b c).stop i H/\D.nx d H)\/((kOL f j h K a b c).go i H/\∃ N:St->Hp->Prop,(∀ σ' H',N σ' H'->∃ m',m'<m/\W (i+1) m' σ' H')/\∀ x H',(kOL f j h K a b c).yld i H x H'->g x d H' λ σ2 H2=>o {D with nx:=N,ct:=N,bk:=D.nx} σ2 H2):=by
 refine⟨λ i m d H=>m=xs.length-i/\i<=xs.length/\Pv i d H,⟨xs.length,by simp,iA _,h0⟩,?_⟩;rintro i m d H ⟨rfl,l,p⟩;obtain⟨n,s,r⟩:=S i d H l p;by_cases M:i<xs.length
 ·refine .inr ⟨⟨xs,ys,zs,xs[i],ys[i]'(by omega),zs[i]'(by omega),n,s,r,by simp[M],by simp[show i<ys.length by omega],by simp[show i<zs.length by omega]⟩,Pv (i+1),λ σ' H' q=>⟨xs.length-(i+1),by omega,rfl,by omega,q⟩,λ x H' u=>?_⟩
  obtain⟨T,B,C,Q,O,rfl,J,v,L,rfl⟩:=u;exact A i B C Q T d H (J xs n) (v ys s) (L zs r) O p
 ·have:i=xs.length:=by omega
  subst this;exact .inl ⟨⟨xs,n,rfl⟩,U d H p⟩
section
variable {X:Cx} {tg iter kx vx:iH} {ifs:List iH} {sc:vy} {pos py spos:Pos} {Nc:List Str} {js:List (Option Nat)} {wi:TI} {i:Nat} {y:Str}
def kPC{g:TG}{bd:au->TB}(hx:X.xe=λ _ _=>False)(hc:X.calm=true)(hN:X.N.Nodup)(a4:X.N[i]?=some y)(Y:Loc X.env.scope y)(hi:PI X tg iter wi)(S:CS sc X.env.scope)(a9:cN js Nc X.N sc.names=true)
  (hg:∀ C s₂ H₂ fp pins,PG (cxC X Nc sc C s₂ H₂ fp pins) tg g)
  (n:∀ C s₂ H₂ fp pins D L,PTl (cxC X Nc sc C s₂ H₂ fp pins) (yI ifs (cxC X Nc sc C s₂ H₂ fp pins).env (pZ kx vx (cxC X Nc sc C s₂ H₂ fp pins).env (.ref D)) L) L (bd D))
  (hs:∀ x,foldedSetIterable iter X.env x=pure x:=by intro _;rfl)
  (a5:swapsWith (.DictComp kx vx [⟨tg,iter,ifs,0⟩] sc pos) (some (.Name y py)) spos.line X.env=pure true:=by rfl)
  (hf:X.fn y=true\/X.env.scope.names.lookup y=some .local:=by first | exact .inl rfl | exact .inr rfl | assumption) :
  PS X (.Assign [.Name y py] (.DictComp kx vx [⟨tg,iter,ifs,0⟩] sc pos) spos) (kLA (tDC js wi g bd) (nA i)):=by
 intro pins s σ H D0 I h;have a7:closureFor sc X.env=pure (aD sc X.env):=yU λ y Y hf=>I.ok.has y.1 (.inl (S.free y Y hf));rw[Co _ _ _ _ a5];refine ai (ve (ai ?_));show dq _ X.A (do let _ <-comprehension (.DictComp kx vx [⟨tg,iter,ifs,0⟩] sc pos) sc X.env _ (newDict) false (eval iter X.env) (some (assign (.Name y py) X.env))) _ _ s
 refine ai (vd (ni (use:=some (assign (.Name y py) X.env)) (Q:=λ _ u=>SP X pins D0 .next u) rfl hs a7 S.kind S.names
  (thn (hi pins s σ H _ I h) λ v s1 h1=>thn h1 λ ac f h2=>?_)) (λ _ u hq=>bp (bp hq)) λ _ _ e=>e)
 obtain⟨it,fp,tn,J,H2,e,U,T,Z,f2,hw⟩:=h2;subst e;have B:∀ b∈fp,b<f.heap.objs.size:=λ b n=>let ⟨o,ho,_⟩:=T.obj _ _ Z b n;cf ho;refine ir (qm S.nocell (by intro y Y;simp at Y) (λ m j d=>?_) S.kind);dsimp only at j d ⊢;generalize O:f.heap.push {cls:=.type "dict",dict:=none,data:=.dict #[]}=G at j d ⊢;have af:G.objs.size=f.heap.objs.size+1:=by rw[<-O,iZ]
 have a2:f.heap.objs.size≠G.objs.size:=by omega
 have l:f.heap.objs.size<=G.objs.size:=by omega
 have a1:∀ b o,f.heap.get? b=some o->m.get? b=some o:=λ b o e=>d.extBut b o (dr (cw (cf e) l)) (ao _ (O ▸ ao _ e));have a0:m.get? f.heap.objs.size=some {cls:=.type "dict",dict:=none,data:=.dict #[]}:=d.extBut _ _ a2 (ao _ (O ▸ cg _ rfl))
 have new:ObjOk X.prog X.w (upd H2 f.heap.objs.size (.dK [])) m f.heap.objs.size (.dK []):=by
  refine⟨iA _,beq_eq_false_iff_ne.mpr (ox (dr U.big)),[],.nil,?_⟩;obtain⟨o,es,ep,h1,rest⟩:=Cg (knd:=qH X.prog X.w) f.heap;have h2:(f.heap.push {cls:=.type "dict",dict:=none,data:=.dict #[]}).get? f.heap.objs.size=some {cls:=.type "dict",dict:=none,data:=.dict #[]}:=cg _ rfl;have h3:=h1.symm.trans h2;exact⟨o,es,ep,a0.trans h3.symm,rest⟩
 have I4:=wX (js:=js) (Nc:=Nc) (tk:=f.toks+([]:List (Str×ar)).length) U S f2 B a9 l (be _) a2 a1 j new;have hn:H2 f.heap.objs.size=none:=U.fresh
 have f4:∀ b∈fp,zF (cxC X Nc sc G.objs.size f H2 fp pins) [] (upd H2 f.heap.objs.size (.dK [])) b:=λ b n=>by
  obtain⟨h0,h1,h2,h3,h4,h5⟩:=f2 b n;refine⟨?_,dr (cw (B b n) l),λ z=>?_,.inl n,λ x c z=>?_,λ p hp=>?_⟩
  ·rw[kM (dr (B b n))];exact h0
  ·rcases eK.mp (U.stkSub b z) with q | q
   ·exact h1 q
   ·exact h2 q
  ·exact h4 x c (cM sc.names [] (λ z=>nomatch z) z)
  ·rcases ck.mp hp with z | z
   ·exact h5 p z
   ·exact absurd z (by simp)
 have a3:tn 0 m:=T.keep _ _ _ Z λ b n o e=>a1 b o e
 have r:codeAny (model X.prog X.w) X.A (.compLoop (.DictComp kx vx [⟨tg,iter,ifs,0⟩] sc pos) 0 (.ref it) (.ref f.heap.objs.size) (compEnvC sc (aD sc X.env) G.objs.size X.env))
   (compPost (model X.prog X.w) X.A X.xe (some (assign (.Name y py) X.env)) (λ _ u=>SP X pins D0 .next u) (.ref f.heap.objs.size) G.objs.size) {f with heap:=m,toks:=f.toks+([]:List (Str×ar)).length}:=by
  refine yT (X:=cxC X Nc sc G.objs.size f H2 fp pins) (.inr ⟨kx,vx,rfl⟩) hx hc (rO _ _ _ _ _ _ _ _ _ _) T (hg _ _ _ _ _) (n _ _ _ _ _ _ _) I4 a3 f4 (hw _ hn) λ ag H' u I' q=>?_;obtain⟨m',aa,_⟩:=I'.loc;have IB:Inv X pins σ H' {u with heap:=u.heap}:=wY U f2 l I' (AC ..)
  have nC:H' G.objs.size=none:=I'.free;have fC:zF X pins H' G.objs.size:=U.fpOk l nC;show dq _ X.A (assign (.Name y py) X.env (.ref f.heap.objs.size)) _ _ u;refine Bh (cX (v:=.ref f.heap.objs.size) IB hN a4 Y rfl (λ ab IC a6=>?_) hf);obtain⟨a,sb,ha⟩:=a6
  have aC:G.objs.size≠a:=by
   rcases ha with rfl | ha
   ·exact fC.2.1
   ·exact λ z=>fC.2.2.2.2.1 y a ha z.symm
  refine⟨m',aa.sameBut sb aC,λ h' a8=>?_⟩;exact⟨_,H',IC.turnedL (t':=ab.toks) (ch:=[G.objs.size]) (λ b o M e=>a8.extBut b o (λ z=>M (by simp[z])) e) (λ b M=>by rw[bu.mp M];exact fC),q⟩
 exact yD (.inr ⟨kx,vx,rfl⟩) rfl rfl r (T.self _ _ _ _ _ a3 r)
end
section
variable {X:Cx} {tg iter el tg2 iter2:iH} {ifs2:List iH} {wi2:TI} {g2:TG} {sc:vy} {pos py spos:Pos} {Nc:List Str} {js:List (Option Nat)} {wi:TI} {i:Nat} {y:Str}
end
end L2
namespace Tri
open Cyc Rnd
theorem kGE{P:Nat->Prop}{w:Nat}:∀{l:List Nat}{p:Nat},(p::l).Nodup->(p::l).getLast?=some w->P p->(∀ x y,Adj (p::l) x y->P x->¬ P y->x=w)->∀ q∈p::l,P q
 | [],p,_,_,hp,_,q,b=>by rw[bu.mp b];exact hp
 | y::l,p,nd,lt,hp,st,q,b=>by
  have c:P y:=eW λ z=>by
   have:=st p y (.inl ⟨rfl,rfl⟩) hp z;rw[gj]at nd;rw[ou]at lt;exact nd.1 (this ▸ uy lt)
  rcases eK.mp b with rfl | b
  ·exact hp
  ·exact kGE (gj.mp nd).2 (by rw[ou]at lt;exact lt) c (λ x z a=>st x z (.inr a)) q b
theorem kGD{P:Nat->Prop}{u w:Nat}:∀{l:List Nat},l.Nodup->l.getLast?=some w->P w->(∀ x y,Adj l x y->P x->¬ P y->x=w)->(∀ x y,Adj l x y->¬ P x->P y->y=u)->(∀ h,l.head?=some h->¬ P h)->∃ outs ins,l=outs++ins/\(∀ z∈outs,¬ P z)/\(∀ z∈ins,P z)/\ins.head?=some u/\ins.getLast?=some w
 | [],_,lt,_,_,_,_=>by cases lt
 | [h],_,lt,pw,_,_,nh=>by
  cases lt
  exact absurd pw (nh h rfl)
 | h::y::l,nd,lt,pw,st,su,nh=>by
  have lt':(y::l).getLast?=some w:=by rw[ou]at lt;exact lt
  by_cases c:P y
  ·have:=su h y (.inl ⟨rfl,rfl⟩) (nh h rfl) c
   refine⟨[h],y::l,rfl,λ z b=>by rw[bu.mp b];exact nh h rfl,kGE (gj.mp nd).2 lt' c λ x z a=>st x z (.inr a),by rw[this];rfl,lt'⟩
  ·obtain⟨o,i,e,h1,f,g,d⟩:=kGD (l:=y::l) (gj.mp nd).2 lt' pw (λ x z a=>st x z (.inr a)) (λ x z a=>su x z (.inr a)) (λ z b=>by cases b;exact c)
   refine⟨h::o,i,by rw[e];rfl,λ z b=>?_,f,g,d⟩;rcases eK.mp b with rfl | b
   ·exact nh _ rfl
   ·exact h1 z b
def yX{l:List Nat}{p q:Nat}(h:Adj l p q):Nx l p q:=by
 have:=Fc.adj_nx [] h;rwa[iP]at this
section
variable {W:Rows}
def oO(S:Nb W)(a:∀ t∈kS W,(nxt W (nxt W t)).2=t.1){x p q:Nat}(h:R W x p q):nxt W (x,p)=(p,q)/\nxt W (q,x)=(x,p)/\nxt W (p,q)=(q,x):=by
 have e:=zT h;have n:=mN S.nd h;obtain⟨z,b,c,d,g,f⟩:=qZ S a (S.sym _ _ e.2);rw[n]at b;cases b
 exact⟨c,n,d⟩
theorem Bd.row(S:Nb W)(d:∀ t∈kS W,(nxt W (nxt W t)).2=t.1){A T:List Nat}{a b c:Nat}(h:Bd W A T a b)(TT:Top W A T)(B:E W b a)(bc:(nxt W (b,a)).2=c)(cA:c∉A)
  (hd:T.head?=some a) (lt:T.getLast?=some b) {u x w:Nat} (n1:Nx T u x) (m:Nx T x w) :
  ∃ row ins outs,W[x]?=some row/\Ro row (ins++outs)/\(∀ z∈ins,z∈A)/\(∀ z∈outs,z∉A)/\ins.head?=some u/\ins.getLast?=some w:=by
 have nx:∀ p q,Nx T p q↔Adj T p q\/(p=b/\q=a):=λ p q=>by
  obtain⟨I,rfl⟩:=Fc.head_split hd
  cases I with
  | nil =>
   cases lt
   show Adj ([a]++[a]) p q↔_;constructor
   ·rintro(⟨rfl,rfl⟩ | z)
    ·exact .inr ⟨rfl,rfl⟩
    ·exact z.elim
   ·rintro(z | ⟨rfl,rfl⟩)
    ·exact z.elim
    ·exact .inl ⟨rfl,rfl⟩
  | cons y I =>
   obtain⟨J,e⟩:=Fc.last_split (l:=y::I) (x:=b) (by rw[ou]at lt;exact lt);rw[e];exact nxP J a b p q
 have o:∀ p q,Nx T p q->E W p q/\p∈A/\q∈A/\(nxt W (p,q)).2∉A:=λ p q f=>by
  refine⟨?_,TT.sub _ (kW f).1,TT.sub _ (kW f).2,?_⟩
  ·rcases(nx p q).mp f with z | ⟨rfl,rfl⟩
   ·exact TT.path _ _ z
   ·exact B
  ·rcases(nx p q).mp f with z | ⟨rfl,rfl⟩
   ·exact h.up _ _ z
   ·rw[bc];exact cA
 have O:∀ p q,p∈A->q∈A->E W p q->(nxt W (p,q)).2∉A->Nx T p q:=λ p q h1 N v H=>(nx p q).mpr (h.all p q h1 N v H);obtain⟨row,s,mw⟩:=(o x w m).1;obtain⟨g,i,e⟩:=yx mw;have C:Ro row ((i++g)++[w]):=⟨g++[w],i,by rw[e];simp,by simp⟩;have nd:=S.nd _ _ s;have M:=C.nd.mp nd;have st:∀ p q,Nx ((i++g)++[w]) p q->R W x p q:=λ p q f=>⟨row,s,(C.nx p q).mpr f⟩;have U:=(o x w m).2.1;have X:=(o x w m).2.2.1
 have g1:∀ p q,Nx ((i++g)++[w]) p q->p∈A->q∉A->p=w:=λ p q f hp G=>by
  obtain⟨n,D,Q⟩:=oO S d (st p q f);exact jZ TT.nd (O x p U hp (zT (st p q f)).1 (by rw[n];exact G)) m
 have Y:∀ p q,Nx ((i++g)++[w]) p q->p∉A->q∈A->q=u:=λ p q f hp G=>by
  obtain⟨n,D,Q⟩:=oO S d (st p q f);exact yM TT.nd (O q x G U (S.sym _ _ (zT (st p q f)).2) (by rw[D];exact hp)) n1
 obtain⟨outs,ins,Z,h1,N,v,H⟩:=kGD (P:=λ z=>z∈A) (u:=u) (w:=w) M (by simp) X (λ p q ad=>g1 p q (yX ad)) (λ p q ad=>Y p q (yX ad)) (λ L j z=>by
  have f:Nx ((i++g)++[w]) w L:=by
   obtain⟨I,e3⟩:=Fc.head_split j
   have:Nx ([w]++(i++g)) w L:=by
    cases hr:i++g with
    | nil =>
     rw[hr]at j;cases j
     exact .inl ⟨rfl,rfl⟩
    | cons y r =>
     rw[hr]at j;cases j
     exact yX (.inl ⟨rfl,rfl⟩)
   exact(jR _ _ _ _).mp this
  obtain⟨n,D,Q⟩:=oO S d (st w L f);have:=(o x w m).2.2.2;rw[n]at this;exact this z)
 refine⟨row,ins,outs,s,C.trans ⟨outs,ins,Z,rfl⟩,N,h1,v,H⟩
end
end Tri
namespace Fc
open Cyc Rnd Tri
section
variable {W:Rows}
def inside(G:Good W){A T B M D:List Nat}{a b c x y v u p q:Nat}(h:Bd W A T a b)(TT:Top W A T)(L:E W b a)(bc:(nxt W (b,a)).2=c)(cA:c∉A)(hd:T.head?=some a)(lt:T.getLast?=some b)
  (e:T=B++(x::M++[y])++D) (vA:v∉A) (vc:v≠c) (ex:E W v x) (ey:E W v y) (ad:Adj (x::M++[y]) p q) (nu:(nxt W (p,q)).2=u) (uv:u≠v):u≠c/\∀ z∈B++D,¬ E W u z:=by
 have S:=(Wb.of G).toNb;have g:=(jY G).1;have af:=TT.nd;rw[e]at af;have d1:=dc.mp af;have d2:=dc.mp d1.1;have sT:∀ z∈x::M++[y],z∈A:=λ z C=>TT.sub z (by rw[e];exact dw _ (dj _ C))
 have Y:(v::(x::M)++[y]).Nodup:=by
  show(v::(x::M++[y])).Nodup;exact gj.mpr ⟨λ z=>vA (sT v z),d2.2.1⟩
 have aq:∀ z,z∉A->z≠v->z∉v::(x::M)++[y]:=λ z C hv hc=>by
  rcases eK.mp hc with r | r
  ·exact hv r
  ·exact C (sT z r)
 have aT:∀ i j,Adj (x::M++[y]) i j->Adj T i j:=λ i j ha=>by
  rw[e,dh];have e2:B++(x::M++[y]++D)=B++x::(M++[y]++D):=by simp
  rw[e2];refine(jN B x _ i j).mpr (.inr ?_);have:=nR D ha;simpa using this
 have nC:∀ i j,Nx (v::(x::M)++[y]) i j↔(i=v/\j=x)\/Adj (x::M++[y]) i j\/(i=y/\j=v):=λ i j=>by
  rw[nxP (x::M) v y i j];show((i=v/\j=x)\/Adj (x::M++[y]) i j)\/_↔_;rw[or_assoc]
 have ce:∀ i j,Nx (v::(x::M)++[y]) i j->E W i j:=λ i j hn=>by
  rcases(nC i j).mp hn with⟨rfl,rfl⟩ | z | ⟨rfl,rfl⟩
  ·exact ex
  ·exact TT.path _ _ (aT _ _ z)
  ·exact S.sym _ _ ey
 obtain⟨f,c1,sy,ab⟩:=kSZ S G.con (kJU G) Y (by simp) ce;have a7:Nx (v::(x::M)++[y]) v x:=(nC _ _).mpr (.inl ⟨rfl,rfl⟩);have aa:Nx (v::(x::M)++[y]) y v:=(nC _ _).mpr (.inr (.inr ⟨rfl,rfl⟩));have fw:∀ i j,Nx (v::(x::M)++[y]) i j->f i j=f v x:=λ i j hn=>kQE S Y c1 ce sy hn a7;have bw:∀ i j,Nx (v::(x::M)++[y]) i j->f j i≠f v x:=λ i j hn z=>ab i j hn ((fw i j hn).trans z.symm)
 have a2:∀{k i n z:Nat},Nx (v::(x::M)++[y]) i k->Nx (v::(x::M)++[y]) k n->E W k z->z≠i->z≠n->f k z=f z k:=λ hp hn U n1 n2=>sy _ _ U (λ s=>n2 (jZ Y s hn)) (λ s=>n1 (yM Y s hp))
 have a6:Nx (v::(x::M)++[y]) p q:=(nC _ _).mpr (.inr (.inl ad));obtain⟨N,m1,m2,m3,a8,b0⟩:=qZ S g (ce p q a6);rw[m1]at nu;have nu:N=u:=nu;subst nu
 have uA:N∉A:=by
  have:=h.up p q (aT _ _ ad);rw[m1]at this;exact this
 have uC:=aq N uA uv
 have up:∀ z,E W N z->f z N=f v x:=λ z U=>by
  have s1:=c1 p q N (ce p q a6) m1;have s2:=sy q N a8 (λ s=>uC (kW s).2) (λ s=>uC (kW s).1);have s3:=tP S c1 sy uC (S.sym _ _ a8) U;have s4:=sy N z U (λ s=>uC (kW s).1) (λ s=>uC (kW s).2);rw[<-s4,<-s3,<-s2,s1];exact fw p q a6
 obtain⟨py,ac⟩ : ∃ py,Adj (x::M++[y]) py y:=by
  obtain⟨z,C⟩:=cS (l:=x::M++[y]) (x:=y) (by simp);exact⟨z,C⟩
 have al:Nx (v::(x::M)++[y]) py y:=(nC _ _).mpr (.inr (.inl ac))
 have am:∀ w,Nx T y w->f y w≠f v x:=λ w hw=>by
  obtain⟨row,a5,o,Q,ro,Z,ag,s,ht⟩:=h.row S g TT L bc cA hd lt (yX (aT _ _ ac)) hw;have a1:(a5++o).Nodup:=ro.nd.mp (S.nd _ _ Q);obtain⟨I,rfl⟩:=head_split s;obtain⟨a9,O,mv⟩:=S.sym _ _ ey;rw[Q]at O
  cases O
  have vo:v∈o:=by
   rcases ck.mp ((ro.mem v).mp mv) with z | z
   ·exact absurd (Z v z) vA
   ·exact z
  obtain⟨O1,O2,rfl⟩:=yx vo
  cases I with
  | nil =>
   cases ht
   exact bw _ _ al
  | cons i I =>
   have wI:w∈i::I:=by
    rw[ou]at ht;exact uy ht
   have key:=kST S c1 (A:=[py]) (B:=O2) (t:=v) Q (i::I++O1) (by simpa using ro) (λ z C=>by
    have X:z∈i::I++O1:=qb C;refine a2 al aa ⟨row,Q,(ro.mem z).mpr ?_⟩ (λ zp=>?_) (λ zn=>?_)
    ·rcases ck.mp X with r | r
     ·exact dw _ (eD _ r)
     ·exact dj _ (dw _ r)
    ·rw[kj,gj]at a1
     refine a1.1 ?_;rw[<-zp];rcases ck.mp X with r | r
     ·exact dw _ r
     ·exact dj _ (dw _ r)
    ·rw[zn]at X
     rcases ck.mp X with r | r
     ·exact vA (Z v (eD _ r))
     ·have:=(dc.mp (dc.mp a1).2.1).2.2
      exact this v r v (by simp) rfl) w (dw _ wI)
   rw[key];exact bw _ _ aa
 have right:∀ z∈D,∀ w,E W z w->f z w≠f v x:=λ z C w ew=>by
  cases D with
  | nil=>cases C
  | cons d D =>
   have as:Nx T y d:=by
    rw[e,show B++(x::M++[y])++d::D=(B++x::M)++y::d::D by simp];exact nx_mid _ _ _ _
   have:=dJ S c1 sy (β:=f y d) (d::D) y (λ i j ha=>TT.path _ _ (by
    rw[e,show B++(x::M++[y])++d::D=(B++x::M)++y::d::D by simp]
    exact(jN _ y _ i j).mpr (.inr ha))) (λ k H hc=>by
     rcases eK.mp hc with r | r
     ·exact vA (r ▸ TT.sub k (by rw[e];exact dj _ H))
     ·exact d1.2.2 k (dj _ r) k H rfl) (λ aw a0=>by cases a0;rfl) z C w ew
   rw[this];exact am d as
 have ba:f b a≠f v x:=by
  cases hD:D with
  | nil =>
   have yb:y=b:=by
    rw[e,hD,iP,<-dh,iq]at lt;exact bg lt
   have an:Nx T b a:=by
    obtain⟨I,eI⟩:=head_split hd;obtain⟨J,eJ⟩:=last_split lt;rw[eJ]
    have:Nx ([b]++J) b a:=by
     cases J with
     | nil =>
      rw[eJ]at hd;cases hd
      exact .inl ⟨rfl,rfl⟩
     | cons j J =>
      rw[eJ]at hd;cases hd
      exact yX (.inl ⟨rfl,rfl⟩)
    exact(jR _ _ _ _).mp this
   rw[<-yb];exact am a (by rw[yb];exact an)
  | cons d D' =>
   refine right b ?_ a L;rw[e,hD,iq]at lt;rw[hD];refine uy (a:=b) ?_;rw[fe (Ai d D')]at lt ⊢;exact lt
 have left:∀ z∈B,∀ w,E W z w->f z w≠f v x:=λ z C w ew=>by
  have ah:B≠[]:=List.ne_nil_of_mem C;obtain⟨B',p0,eB⟩ : ∃ I u,B=I++[u]:=⟨B.dropLast,B.getLast ah,(eC ah).symm⟩
  have ap:Nx T p0 x:=by
   rw[e,eB,show B'++[p0]++(x::M++[y])++D=B'++p0::x::(M++[y]++D) by simp];exact nx_mid _ _ _ _
  obtain⟨w0,a4⟩ : ∃ w0,Adj (x::M++[y]) x w0:=by
   cases M with
   | nil=>exact⟨y,.inl ⟨rfl,rfl⟩⟩
   | cons m M=>exact⟨m,.inl ⟨rfl,rfl⟩⟩
  have ax:Nx (v::(x::M)++[y]) x w0:=(nC _ _).mpr (.inr (.inl a4))
  have key:f x p0=f x v:=by
   obtain⟨row,a5,o,Q,ro,Z,ag,s,ht⟩:=h.row S g TT L bc cA hd lt ap (yX (aT _ _ a4));have a1:(a5++o).Nodup:=ro.nd.mp (S.nd _ _ Q);obtain⟨J,rfl⟩:=last_split ht;obtain⟨a9,O,mv⟩:=S.sym _ _ ex;rw[Q]at O
   cases O
   have vo:v∈o:=by
    rcases ck.mp ((ro.mem v).mp mv) with z | z
    ·exact absurd (Z v z) vA
    ·exact z
   obtain⟨O1,O2,rfl⟩:=yx vo;have pw:p0≠w0:=λ z=>d2.2.2 p0 (by rw[eB];simp) w0 (qb (qP a4).2) z
   have pJ:p0∈J:=by
    cases J with
    | nil=>exact absurd (bg s).symm pw
    | cons i J=>rw[show p0=i from(bg s).symm];simp
   have a3:Ro row ([]++v::((O2++J)++(w0::O1))):=ro.trans ⟨J++[w0]++O1,v::O2,by simp,by simp⟩;have nd2:=a3.nd.mp (S.nd _ _ Q);rw[qi,gj]at nd2;refine kNB S c1 Q (O2++J) [] (w0::O1) v a3 (λ k H=>?_) p0 (dj _ pJ);refine a2 a7 ax ⟨row,Q,(a3.mem k).mpr (by simp at H ⊢;rcases H with r | r<;>simp[r])⟩ (λ kv=>?_) (λ kw=>?_)
   ·exact nd2.1 (kv ▸ dw _ H)
   ·exact(dc.mp nd2.2).2.2 k H w0 (by simp) kw
  have:=dJ S c1 sy (β:=f x v) B.reverse x (λ i j ha=>S.sym _ _ (TT.path _ _ (by
   rw[e,dh,show B++(x::M++[y]++D)=B++x::(M++[y]++D) by simp];refine(jN _ x _ j i).mpr (.inl ?_);refine kHV (l:=B++[x]) (p:=i) (q:=j) ?_;rw[yg]
   exact ha))) (λ k H hc=>by
    have H:=yn.mp H;rcases eK.mp hc with r | r
    ·exact vA (r ▸ TT.sub k (by rw[e];exact dw _ (dw _ H)))
    ·exact d2.2.2 k H k r rfl) (λ aw a0=>by
     rw[eB,yg]at a0;cases a0
     exact key) z (yn.mpr C) w ew
  rw[this];exact bw _ _ a7
 refine⟨λ uc=>?_,λ z C U=>?_⟩
 ·subst uc
  obtain⟨z,k1,k2,k3,f1,f2⟩:=qZ S g L;rw[k1]at bc;have bc:z=N:=bc;subst bc;have:=c1 b a z L k1;exact ba (this.symm.trans (up a (S.sym _ _ f1)))
 ·rcases ck.mp C with r | r
  ·exact left z r N (S.sym _ _ U) (up z U)
  ·exact right z r N (S.sym _ _ U) (up z U)
end
end Fc
namespace Tri
open Cyc Rnd
theorem nL{row:List Nat}:∀(R:List Nat)(x:Nat)(P rest:List Nat),(P++x::rest).Nodup->(P++x::R).Nodup->(∀ p q,Adj (x::R) p q->Nx (P++x::rest) p q)->∃ Q,rest=R++Q
 | [],x,P,rest,_,_,_=>⟨rest,rfl⟩
 | y::R,x,P,rest,nd,ndR,st=>by
  have h:=st x y (.inl ⟨rfl,rfl⟩)
  cases rest with
  | nil =>
   exfalso;have b:Nx ([x]++P) x y:=(jR P [x] x y).mp h;have c:y∈P++[x]:=(kW h).2;rw[show P++x::y::R=(P++[x])++y::R by simp]at ndR;exact(dc.mp ndR).2.2 y c y (by simp) rfl
  | cons y0 rest =>
   have b:Nx (P++x::y0::rest) x y0:=Fc.nx_mid P x y0 rest;have:=jZ nd h b;subst this
   obtain⟨Q,e⟩:=nL (row:=row) R y (P++[x]) rest (by simpa using nd) (by simpa using ndR) (λ p q a=>by
    have:=st p q (.inr a);simpa using this)
   exact⟨Q,by rw[e];rfl⟩
section
variable {W:Rows}
def Bd.inn(S:Nb W){A T:List Nat}{a b:Nat}(h:Bd W A T a b)(f:a∈T)(has:∀ x∈A,∃ y∈A,E W x y){x y:Nat}(c:x∈A)(l:y∉A)(e:E W x y):x∈T:=by
 refine eW λ g=>l ?_;obtain⟨p,hp,m⟩:=has x c;obtain⟨r,q,nd,mem,pv⟩:=Fc.row_at S (S.e e).1;refine Fc.rot_to nd (P:=λ z=>z∈A) ((mem y).mpr e) ((mem p).mpr m) hp λ w v d _ j i=>?_;refine eW λ o=>g ?_;have n:=pv w v j;rcases h.all w x i c (S.sym _ _ ((mem w).mp d)) (by rw[n];exact o) with z | ⟨_,rfl⟩
 ·exact qb (qP z).2
 ·exact f
def xM{T:List Nat}{m:Nat}(h:m<T.length):T[m]?=some (T.getD m 0):=by rw[av,ae h];rfl
theorem vS:∀{T:List Nat}{m:Nat},m+1<T.length->Adj T (T.getD m 0) (T.getD (m+1) 0)
 | [],_,h=>by simp at h
 | [_],_,h=>by simp at h
 | a::b::r,0,_=>.inl ⟨rfl,rfl⟩
 | a::b::r,m+1,h=>.inr (by
  have:=vS (T:=b::r) (m:=m) (by simpa using h);simpa using this)
theorem gM:∀{T:List Nat}{p q:Nat},Adj T p q->∃ m,m+1<T.length/\p=T.getD m 0/\q=T.getD (m+1) 0
 | [],_,_,h=>h.elim
 | [_],_,_,h=>h.elim
 | a::b::r,p,q,h=>by
  rcases h with⟨rfl,rfl⟩ | h
  ·exact⟨0,by simp,rfl,rfl⟩
  ·obtain⟨m,h1,c,d⟩:=gM (T:=b::r) h
   exact⟨m+1,by simpa using h1,by simpa using c,by simpa using d⟩
def bB(T:List Nat)(i k:Nat):List Nat:=(T.drop i).take (k+1-i)
def uQ{T:List Nat}{i k:Nat}(h:i<=k)(a:k<T.length):(bB T i k).length=k+1-i:=by
 unfold bB;rw[cx,iN];omega
def zB{T:List Nat}{i k j:Nat}(h:i<=k)(b:k<T.length)(a:j<k+1-i):(bB T i k).getD j 0=T.getD (i+j) 0:=by
 unfold bB;rw[av,zr,if_pos a,BX,av]
def kCR{T:List Nat}{i k:Nat}(h:i<=k)(a:k<T.length):T=T.take i++bB T i k++T.drop (k+1):=by
 unfold bB;have e:T.drop (k+1)=(T.drop i).drop (k+1-i):=by rw[AE];congr 1;omega
 rw[e,dh,fk,fk]
def rA{T:List Nat}{i k:Nat}(h:i<k)(b:k<T.length):∃ M,bB T i k=T.getD i 0::M++[T.getD k 0]:=by
 have l:=uQ (fv h) b;have d:=zB (j:=0) (fv h) b (by omega);have a:=zB (j:=k-i) (fv h) b (by omega);rw[show i+(k-i)=k by omega]at a;generalize bB T i k=L at l d a
 cases L with
 | nil=>simp at l;omega
 | cons x L =>
  have c:L≠[]:=λ z=>by rw[z]at l;simp at l;omega
  refine⟨L.dropLast,?_⟩;have f:x=T.getD i 0:=d
  have g:L.getLast c=T.getD k 0:=by
   rw[<-a,List.getLast_eq_getElem,av];have m:L.length=k-i:=by simp at l;omega
   have:k-i=(L.length-1)+1:=by have:=vt.mpr c;omega
   rw[this,List.getElem?_cons_succ,ae]
   rfl
  rw[<-f,<-g,kj,eC]
def kOC{T:List Nat}{i k l:Nat}(h1:i<=l)(b:l<=k)(a:k<T.length):T.getD l 0∈bB T i k:=by
 have:=zB (T:=T) (i:=i) (k:=k) (j:=l-i) (by omega) a (by omega);rw[show i+(l-i)=l by omega]at this;rw[<-this];refine cv (xM ?_);rw[uQ (by omega) a];omega
def kMW{T:List Nat}{i k x:Nat}(h:i<=k)(a:k<T.length)(c:x∈bB T i k):∃ l,i<=l/\l<=k/\x=T.getD l 0:=by
 obtain⟨j,b,rfl⟩:=eZ.mp c;have l:=uQ h a;refine⟨i+j,by omega,by omega,?_⟩;rw[<-zB h a (by omega),av,ae b]
 rfl
structure Nxt(W:Rows)(A:List Nat)(c v:Nat)(row R Q:List Nat):Prop where
 lt:v<W.length
 no:v∉A
 nc:v≠c
 er:W[v]?=some row
 ro:Ro row (R++Q)
 hR:∀ x∈R,x∈A
 hQ:∀ x∈Q,x∉A
 two:2<=R.length
 ne:Q≠[]
def mY{T:List Nat}(nd:T.Nodup){i j:Nat}(hi:i<T.length)(b:j<T.length)(e:T.getD i 0=T.getD j 0):i=j:=by
 have h1:=xM hi;have a:=xM b;rw[e,<-a]at h1;exact(xp hi nd).mp h1
def kUZ(S:Nb W)(d:∀ t∈kS W,(nxt W (nxt W t)).2=t.1){A T:List Nat}{a b c:Nat}(h:Bd W A T a b)(TT:Top W A T)(bc:(nxt W (b,a)).2=c)(aT:a∈T)(has:∀ x∈A,∃ y∈A,E W x y)
  {u lo hi:Nat} (uA:u∉A) (uc:u≠c) (j:lo<hi) (g:hi<T.length) (U:∀ m,lo<=m->m<hi->(nxt W (T.getD m 0,T.getD (m+1) 0)).2=u) (only:∀ l,l<T.length->E W u (T.getD l 0)->lo<=l/\l<=hi):∃ v row R Q,Nxt W A c v row R Q:=by
 have H:∀ m,lo<=m->m<hi->R W u (T.getD m 0) (T.getD (m+1) 0):=λ m h1 h2=>by
  have e:=TT.path _ _ (vS (T:=T) (m:=m) (by omega));obtain⟨z,m1,m2,m3,J,e2⟩:=qZ S d e;have:=U m h1 h2;rw[m1]at this;have this:z=u:=this;subst this;obtain⟨q,r,n,_⟩:=uD S J;rw[m2]at n;cases n
  exact r
 obtain⟨row,i,G⟩:=H lo (be _) j;have nd:=S.nd _ _ i;have cl:=uQ (T:=T) (fv j) g
 have o:(bB T lo hi).Nodup:=by
  have:=TT.nd;rw[kCR (fv j) g]at this;exact(dc.mp (dc.mp this).1).2.1
 have D:∀ p q,Adj (bB T lo hi) p q->Nx row p q:=λ p q ad=>by
  obtain⟨m,h1,rfl,rfl⟩:=gM ad;rw[zB (fv j) g (by omega),zB (fv j) g (by omega)];obtain⟨a0,B,s⟩:=H (lo+m) (by omega) (by omega);rw[i]at B
  cases B
  exact s
 obtain⟨M,L⟩:=rA j g;obtain⟨r1,Y,e0⟩:=yx (kW G).1;have f:Ro row ([]++T.getD lo 0::(Y++r1)):=⟨r1,T.getD lo 0::Y,e0,by simp⟩;obtain⟨Q,eQ⟩:=nL (row:=row) (M++[T.getD hi 0]) (T.getD lo 0) [] (Y++r1) (f.nd.mp nd) (by rw[L]at o;exact o) (λ p q ad=>(f.nx p q).mp (D p q (by rw[L];exact ad)))
 have C:Ro row (bB T lo hi++Q):=by
  rw[L];rw[eQ]at f;simpa using f
 have X:=C.nd.mp nd;refine⟨u,row,bB T lo hi,Q,⟨(ak.mp i).1,uA,uc,i,C,λ x N=>?_,λ x N xA=>?_,by omega,λ z=>?_⟩⟩
 ·obtain⟨l,_,_,rfl⟩:=kMW (fv j) g N
  exact TT.sub _ (cv (xM (by omega)))
 ·have eu:E W u x:=⟨row,i,(C.mem x).mpr (dj _ N)⟩
  have xT:=h.inn S aT has xA uA (S.sym _ _ eu);obtain⟨l,O,I⟩:=eZ.mp xT;have I:x=T.getD l 0:=by rw[av,ae O,<-I];rfl
  rw[I]at eu;obtain⟨o1,o2⟩:=only l O eu;exact(dc.mp X).2.2 x (by rw[I];exact kOC o1 o2 g) x N rfl
 ·rw[z,iP,L]at C
  have s:Nx row (T.getD hi 0) (T.getD lo 0):=(C.nx _ _).mpr ((nxP M _ _ _ _).mpr (.inr ⟨rfl,rfl⟩));obtain⟨t1,t2,Z⟩:=oO S d (x:=u) ⟨row,i,s⟩
  have eh:E W (T.getD hi 0) (T.getD lo 0):=by
   obtain⟨z,_,m2,_,J,e2⟩:=qZ S d (x:=u) (y:=T.getD hi 0) ⟨row,i,(kW s).1⟩;rw[t1]at *;have:=J
   have q:z=T.getD lo 0:=by
    obtain⟨z',k1,_⟩:=qZ S d (x:=u) (y:=T.getD hi 0) ⟨row,i,(kW s).1⟩;exact eW λ _=>by simp_all
   exact q ▸ J
  have mem:∀ l,l<T.length->T.getD l 0∈A:=λ l O=>TT.sub _ (cv (xM O));rcases h.all _ _ (mem hi g) (mem lo (by omega)) eh (by rw[Z];exact uA) with q | ⟨q1,q2⟩
  ·obtain⟨m,h1,h2,h3⟩:=gM q
   have i1:=mY TT.nd g (by omega) h2;have i2:=mY TT.nd (by omega) h1 h3;omega
  ·rw[q1,q2]at Z
   rw[Z]at bc;exact uc bc
def inT(G:Good W){A T:List Nat}{a b c v u i k m:Nat}(h:Bd W A T a b)(TT:Top W A T)(g:E W b a)(D:(nxt W (b,a)).2=c)(I:c∉A)(H:T.head?=some a)(lt:T.getLast?=some b)
  (f:i<k) (d:k<T.length) (C:v∉A) (B:v≠c) (ex:E W v (T.getD i 0)) (x:E W v (T.getD k 0)) (J:i<=m) (mk:m<k) (y:(nxt W (T.getD m 0,T.getD (m+1) 0)).2=u) (s:u≠v) :
  u≠c/\∀ l,l<T.length->E W u (T.getD l 0)->i<=l/\l<=k:=by
 obtain⟨M,n⟩:=rA f d;have e:=kCR (fv f) d
 have ad:Adj (T.getD i 0::M++[T.getD k 0]) (T.getD m 0) (T.getD (m+1) 0):=by
  have:=vS (T:=bB T i k) (m:=m-i) (by rw[uQ (fv f) d];omega);rw[zB (fv f) d (by omega),zB (fv f) d (by omega),show i+(m-i)=m by omega,show i+(m-i+1)=m+1 by omega,n]at this;exact this
 rw[n]at e;obtain⟨h1,o⟩:=Fc.inside G h TT g D I H lt e C B ex x ad y s;refine⟨h1,λ l p j=>?_⟩;rcases iV l i with q | q
 ·refine absurd j (o _ (dw _ ?_))
  refine cv (i:=l) ?_;rw[zr,if_pos q];exact xM p
 ·rcases iV k l with r | r
  ·refine absurd j (o _ (dj _ ?_))
   refine cv (i:=l-(k+1)) ?_;rw[BX,show k+1+(l-(k+1))=l by omega];exact xM p
  ·exact⟨q,r⟩
def kQG{P:Nat->Prop}{t m:Nat}(v:P m)(mt:m+1<t)(i:P (m+1)):∃ lo hi,lo<=m/\m+1<=hi/\hi<t/\P lo/\P hi/\∀ l,l<t->P l->lo<=l/\l<=hi:=by
 have low:∀ n,n<=m->(∃ l,l<=n/\P l)->∃ lo,lo<=n/\P lo/\∀ l,P l->lo<=l:=by
  intro n
  induction n with
  | zero =>
   rintro _ ⟨l,h1,a⟩;exact⟨0,be _,(by rw[show 0=l by omega];exact a),λ l _=>iA _⟩
  | succ n ih =>
   rintro j ⟨l,h1,a⟩;by_cases c:∃ l,l<=n/\P l
   ·obtain⟨lo,g,h,f⟩:=ih (by omega) c
    exact⟨lo,by omega,h,f⟩
   ·have:l=n+1:=by
     rcases iV l (n+1) with q | q
     ·exact absurd ⟨l,by omega,a⟩ c
     ·omega
    refine⟨n+1,be _,this ▸ a,λ b o=>?_⟩;rcases iV b (n+1) with q | q
    ·exact absurd ⟨b,by omega,o⟩ c
    ·exact q
 have high:∀ d n,n+d+1=t->(∃ l,n<=l/\l<t/\P l)->∃ hi,n<=hi/\hi<t/\P hi/\∀ l,l<t->P l->l<=hi:=by
  intro d
  induction d with
  | zero =>
   rintro n j ⟨l,h1,a,g⟩;exact⟨l,h1,a,g,λ b o _=>by omega⟩
  | succ d ih =>
   rintro n j ⟨l,h1,a,g⟩;by_cases c:∃ l,n+1<=l/\l<t/\P l
   ·obtain⟨hi,h,f,p,s⟩:=ih (n+1) (by omega) c
    exact⟨hi,by omega,f,p,s⟩
   ·refine⟨l,h1,a,g,λ b h f=>?_⟩
    rcases iV l b with q | q
    ·exact absurd ⟨b,by omega,h,f⟩ c
    ·exact q
 obtain⟨lo,r,A,C⟩:=low m (be _) ⟨m,be _,v⟩;obtain⟨hi,u,B,x,y⟩:=high (t-m-2) (m+1) (by omega) ⟨m+1,be _,mt,i⟩;exact⟨lo,hi,r,u,B,A,x,λ l h1 a=>⟨C l a,y l h1 a⟩⟩
def kIO(G:Good W){A T:List Nat}{a b c:Nat}(h:Bd W A T a b)(TT:Top W A T)(B:E W b a)(bc:(nxt W (b,a)).2=c)(cA:c∉A)(hd:T.head?=some a)(lt:T.getLast?=some b)
  (has:∀ x∈A,∃ y∈A,E W x y) {z:Nat} (zl:z<W.length) (zA:z∉A) (zc:z≠c):∃ v row R Q,Nxt W A c v row R Q:=by
 have S:=(Wb.of G).toNb;have d:=(jY G).1;have aT:a∈T:=Dz hd;have bT:b∈T:=uy lt;have ab:a≠b:=λ q=>(S.e B).2.2 q;have mem:∀ l,l<T.length->T.getD l 0∈A:=λ l H=>TT.sub _ (cv (xM H));have C:∀ m,m+1<T.length->Adj T (T.getD m 0) (T.getD (m+1) 0):=λ m D=>vS D
 have a0:∀ m u,m+1<T.length->(nxt W (T.getD m 0,T.getD (m+1) 0)).2=u->u∉A/\E W u (T.getD m 0)/\E W u (T.getD (m+1) 0):=λ m u D e=>by
  obtain⟨z,m1,m2,m3,e1,e2⟩:=qZ S d (TT.path _ _ (C m D));have up:=h.up _ _ (C m D);rw[m1]at e up;have e:z=u:=e;subst e;exact⟨up,e2,S.sym _ _ e1⟩
 refine eW λ no=>?_
 have a1:∀ m u,m+1<T.length->(nxt W (T.getD m 0,T.getD (m+1) 0)).2=u->u≠c->(∀ l,E W u (T.getD l 0)->l<m->∀ g,l<=g->g<m->(nxt W (T.getD g 0,T.getD (g+1) 0)).2=u)->(∀ l,l<T.length->E W u (T.getD l 0)->m+1<l->∀ g,m+1<=g->g<l->(nxt W (T.getD g 0,T.getD (g+1) 0)).2=u)->False:=λ m u D eu M a2 a8=>by
  obtain⟨uA,X,U⟩:=a0 m u D eu;obtain⟨lo,hi,l1,l2,l3,l4,l5,l6⟩:=kQG (P:=λ l=>E W u (T.getD l 0)) X D U;refine no (kUZ S d h TT bc aT has uA M (lo:=lo) (hi:=hi) (by omega) l3 (λ g O N=>?_) l6);rcases xj g m with r | r | r
  ·exact a2 lo l4 (by omega) g O r
  ·rw[r];exact eu
  ·exact a8 hi l3 l5 (by omega) g (by omega) N
 have s:∀ n v i k,k-i=n->i<k->k<T.length->v∉A->v≠c->E W v (T.getD i 0)->E W v (T.getD k 0)->∀ m,i<=m->m<k->(nxt W (T.getD m 0,T.getD (m+1) 0)).2=v:=by
  intro n
  induction n using Au with
  | _ n ih =>
   intro v i k en ik kt vA vc ex ey m im mk;refine eW λ ne=>?_;obtain⟨uA,X,U⟩:=a0 m _ (by omega) rfl;obtain⟨M,on⟩:=inT G h TT B bc cA hd lt ik kt vA vc ex ey im mk rfl ne;refine a1 m _ (by omega) rfl M (λ l j lm g O N=>?_) (λ l H j lm g O N=>?_)
   ·have:=on l (by omega) j
    exact ih (m-l) (by omega) _ l m rfl lm (by omega) uA M j X g O N
   ·have:=on l H j
    exact ih (l-(m+1)) (by omega) _ (m+1) l rfl lm H uA M U j g O N
 have Y:∀ m,m+1<T.length->(nxt W (T.getD m 0,T.getD (m+1) 0)).2=c:=λ m D=>by
  refine eW λ M=>?_;obtain⟨uA,X,U⟩:=a0 m _ D rfl;refine a1 m _ D rfl M (λ l j lm g O N=>?_) (λ l H j lm g O N=>?_)
  ·exact s _ _ l m rfl lm (by omega) uA M j X g O N
  ·exact s _ _ (m+1) l rfl lm H uA M U j g O N
 obtain⟨cz,k1,k2,k3,f1,f2⟩:=qZ S d B;have ah:=bc;rw[k1]at bc;have bc:cz=c:=bc
 subst bc
 have cT:∀ x,E W cz x->x∈T:=λ x ex=>by
  obtain⟨r,er,nd,mm,pv⟩:=Fc.row_at S (S.e ex).1;refine Fc.rot_to nd (P:=λ z=>z∈T) ((mm x).mpr ex) ((mm a).mpr (S.sym _ _ f1)) aT λ w v hw _ hv wT=>?_;have n:=pv w v hv;obtain⟨l,H,j⟩:=eZ.mp wT;have j:w=T.getD l 0:=by rw[av,ae H,<-j];rfl
  cases l with
  | zero =>
   have wa:w=a:=by
    rw[j,av,<-List.head?_eq_getElem?,hd];rfl
   rw[wa,k2]at n;cases n
   exact bT
  | succ l =>
   obtain⟨z',m1,m2,m3,e1,e2⟩:=qZ S d (TT.path _ _ (C l H));have:=Y l H;rw[m1]at this;have this:z'=cz:=this;subst this;rw[j,m2]at n;cases n
   exact cv (xM (by omega))
 have tc:∀ x y,x∈T->E W x y->y∈A\/y=cz:=λ x y hx e=>by
  obtain⟨u,X⟩:=kRB hx;obtain⟨w,U⟩:=dF hx;obtain⟨row,a6,f,er,ro,a7,ac,hh,ht⟩:=h.row S d TT B (by rw[k1]) cA hd lt X U;obtain⟨aa,a3,my⟩:=e;rw[er]at a3
  cases a3
  rcases ck.mp ((ro.mem y).mp my) with q | q
  ·exact .inl (a7 y q)
  ·right
   have a9:(a6++f).Nodup:=ro.nd.mp (S.nd _ _ er)
   have th:∀ p q,Nx T p q->nxt W (p,q)=(q,cz):=λ p q hn=>by
    have:Adj T p q\/(p=b/\q=a):=by
     obtain⟨I,rfl⟩:=Fc.head_split hd
     cases I with
     | nil =>
      cases lt
      exact absurd rfl ab
     | cons y I =>
      obtain⟨J,e⟩:=Fc.last_split (l:=y::I) (x:=b) (by rw[ou]at lt;exact lt);rw[e]at hn ⊢;exact(nxP J a b p q).mp hn
    rcases this with z | ⟨rfl,rfl⟩
    ·obtain⟨m,h1,rfl,rfl⟩:=gM z
     exact wb rfl (Y m h1)
    ·exact k1
   obtain⟨I,eI⟩:=Fc.last_split ht;obtain⟨J,eJ⟩:=Fc.head_split hh
   cases f with
   | nil=>cases q
   | cons o f =>
    have hn:Nx row w o:=(ro.nx _ _).mpr (by
     rw[eI,dh];exact Fc.nx_mid I w o f)
    obtain⟨t1,t2,t3⟩:=oO S d (x:=x) ⟨row,er,hn⟩;have t4:=th x w U;rw[t1]at t4;have oc:o=cz:=congrArg yc t4;subst oc;obtain⟨L,lst,eL⟩ : ∃ L lst,o::f=L++[lst]:=⟨(o::f).dropLast,(o::f).getLast (Ai _ _),(eC _).symm⟩
    have a4:Nx row lst u:=(ro.nx _ _).mpr (by
     rw[eL,eJ];refine(jR _ _ _ _).mpr ?_;rw[dh];exact Fc.nx_mid L lst u J)
    obtain⟨af,a5,ag⟩:=oO S d (x:=x) ⟨row,er,a4⟩;have t5:=th u x X;rw[a5]at t5;have lc:lst=o:=congrArg yc t5;subst lc
    cases L with
    | nil =>
     rw[eL]at q;exact bu.mp q
    | cons l0 L =>
     have e0:lst=l0:=(Fh eL).1;have nd3:=(dc.mp a9).2.1;rw[eL,<-e0,kj,gj]at nd3;exact absurd (by simp) nd3.1
 have Z:∀ x,Reach W a x->x∈A\/x=cz:=λ x r=>by
  induction r with
  | here=>exact .inl (TT.sub a aT)
  | more _ e ih =>
   rename_i p q _
   rcases ih with r | r
   ·by_cases qA:q∈A
    ·exact .inl qA
    ·exact tc p q (h.inn S aT has r qA e) e
   ·rw[r]at e
    exact .inl (TT.sub q (cT q e))
 rcases Z z ((Reach.symm S.sym (G.con a (S.e B).2.1)).trans (G.con z zl)) with q | q
 ·exact zA q
 ·exact zc q
end
structure OI(W:Rows)(a b c:Nat)(O:List Nat)(Fs Ts:List (List Nat)):Prop where
 go:goF W O (O.length-2)=some (Fs,Ts)
 two:2<=O.length
 e2:O.take 2=[a,b]
 nd:O.Nodup
 nc:c∉O
 lt:∀ x∈O,x<W.length
section
variable {W:Rows} {a b c:Nat}
def kCN{x y:Nat}(h:y∈W.getD x []):E W x y:=by
 rw[av]at h
 cases w:W[x]? with
 | none=>rw[w]at h;cases h
 | some row=>rw[w]at h;exact⟨row,w,h⟩
def OI.start(S:Nb W)(d:E W a b)(h:c≠a)(g:c≠b):OI W a b c [a,b] [] [[a,b]]:=by
 have:=S.e d;refine⟨rfl,by simp,rfl,by simp;exact λ q=>this.2.2 q.symm,by simp[h,g],λ x f=>?_⟩;simp at f;rcases f with rfl | rfl
 ·exact this.1
 ·exact this.2.1
def OI.full{O:List Nat}{f d:List (List Nat)}(I:OI W a b c O f d):O.take (O.length-2+2)=O:=by
 rw[tz I.two,gn]
def OI.top(S:Nb W)(d:E W a b){O:List Nat}{g f:List (List Nat)}(I:OI W a b c O g f):Top W O (f.getLastD []):=by
 have:=cF I.nd S.sym (by rw[I.e2];exact cW S d) (by have:=I.two;omega) I.go;rwa[I.full]at this
def OI.bd(S:Nb W)(d:∀ t∈kS W,(nxt W (nxt W t)).2=t.1)(f:E W a b)(i:(nxt W (b,a)).2=c){O:List Nat}{h g:List (List Nat)}(I:OI W a b c O h g):Bd W O (g.getLastD []) a b:=by
 have:=kTE S d I.nd I.e2 f i I.nc (by have:=I.two;omega) I.go;rwa[I.full]at this
def kHB(S:Nb W)(d:E W a b){c:List Nat}(p:c.Nodup)(s:c.take 2=[a,b]):∀{i:Nat}{fs ts:List (List Nat)},i+2<=c.length->goF W c i=some (fs,ts)->((ts.getLastD []).head?=some a/\(ts.getLastD []).getLast?=some b)/\∀ x∈c.take (i+2),∃ y∈c.take (i+2),E W x y:=by
 have h0:Top W (c.take 2) (c.take 2):=by rw[s];exact cW S d
 intro i
 induction i with
 | zero =>
  intro fs ts _ h;unfold goF at h;have h:=bg h;injection h with h1 h2
  rw[<-h2];show(((c.take 2)).head?=_/\((c.take 2)).getLast?=_)/\∀ x∈c.take 2,∃ y∈c.take 2,E W x y;rw[s];refine⟨⟨rfl,rfl⟩,λ x n=>?_⟩;simp at n;rcases n with rfl | rfl
  ·exact⟨b,by simp,d⟩
  ·exact⟨a,by simp,S.sym _ _ d⟩
 | succ i ih =>
  intro fs ts T h;obtain⟨Q,N,e⟩:=uY (i:=i) (j:=1) h;obtain⟨st,z,O,H⟩:=wZ e h;have TT:=cF p S.sym h0 (by omega) e;obtain⟨⟨o,m⟩,A⟩:=ih (by omega) e;have I:c[i+2]?=some (c.getD (i+2) 0):=by rw[av,ae (by omega)];rfl
  have J:c.take (i+1+2)=c.take (i+2)++[c.getD (i+2) 0]:=by rw[iL,I];rfl
  obtain⟨B,f,M,l,C,u,r,mem,L⟩:=cY TT.nd z
  have g:ts.getLastD []=B++[f,c.getD (i+2) 0,l]++C:=by
   rw[H,cB,u];exact bO r TT.nd
  rw[g,J];rw[r]at o m;refine⟨⟨?_,?_⟩,λ x n=>?_⟩
  ·cases B with
   | nil=>exact o
   | cons b0 B=>exact o
  ·cases C with
   | nil =>
    simp only[iP,iq]at m ⊢;simpa using m
   | cons c0 C =>
    rw[iq]at m ⊢;rw[fe (Ai c0 C)]at m ⊢;exact m
  ·rcases ck.mp n with q | q
   ·obtain⟨y,D,G⟩:=A x q
    exact⟨y,dw _ D,G⟩
   ·have v:=(mem f).mp (by rw[u];simp)
    refine⟨f,dw _ v.1,?_⟩;rw[bu.mp q];exact kCN v.2
def OI.next(G:Good W)(d:E W a b)(g:(nxt W (b,a)).2=c){O:List Nat}{j s:List (List Nat)}(I:OI W a b c O j s)(more:O.length+1<W.length):∃ v row R Q,Nxt W O c v row R Q:=by
 have S:=(Wb.of G).toNb;have f:=(jY G).1;obtain⟨⟨h1,p⟩,h⟩:=kHB S d I.nd I.e2 (by have:=I.two;omega) I.go;rw[I.full]at h
 obtain⟨z,r,l,m⟩ : ∃ z,z<W.length/\z∉O/\z≠c:=by
  refine eW λ i=>?_
  have:=eO (sh (n:=W.length)) (l₂:=c::O) λ x o=>by
   refine eW λ nx=>i ⟨x,jt.mp o,λ q=>nx (eD _ q),λ q=>nx (q ▸ fc ..)⟩
  rw[gv,iC]at this;omega
 exact kIO G (I.bd S f d g) (I.top S d) (S.sym _ _ d) g I.nc h1 p h r l m
def OI.more(S:Nb W)(d:∀ t∈kS W,(nxt W (nxt W t)).2=t.1)(f:E W a b)(j:(nxt W (b,a)).2=c){O R Q row:List Nat}{v:Nat}{h g:List (List Nat)}(I:OI W a b c O h g)(N:Nxt W O c v row R Q) :
  ∃ Ts',OI W a b c (O++[v]) (h++[R]) Ts':=by
 have st:=kRU S d (I.bd S d f j) (I.top S f) I.nd j N.nc N.no N.er N.ro N.hR N.hQ N.two;have two:=I.two
 have l:goF W (O++[v]) (O.length-2)=some (h,g):=by
  rw[<-I.go];refine mU ?_;rw[tz two,gn,ya rfl]
 have m:=mW (st:=R) l (by
  rw[tz two,ya rfl,av,cu];exact st)
 refine⟨g++[poF (g.getLastD []) R ((O++[v]).getD (O.length-2+2) 0)],⟨?_,by rw[bj];omega,by rw[wo two];exact I.e2,?_,?_,λ x i=>?_⟩⟩
 ·rw[bj,fj,show O.length+1-2=O.length-2+1 by omega]
  exact m
 ·exact dc.mpr ⟨I.nd,by simp,λ x i y n z=>N.no (by rw[<-bu.mp n,<-z];exact i)⟩
 ·intro q
  rcases ck.mp q with q | q
  ·exact I.nc q
  ·exact N.nc (bu.mp q).symm
 ·rcases ck.mp i with q | q
  ·exact I.lt x q
  ·rw[bu.mp q];exact N.lt
def OI.last(G:Good W)(o:E W a b)(Y:(nxt W (b,a)).2=c){O:List Nat}{Fs D:List (List Nat)}(I:OI W a b c O Fs D)(full:O.length+1=W.length) :
  ∃ row Ts',W[c]?=some row/\Ro row (D.getLastD [])/\(D.getLastD []).head?=some a/\zG W a b c (O++[c])=some (Fs++[D.getLastD []],Ts')/\(O++[c]).Perm (cq W.length):=by
 have S:=(Wb.of G).toNb;have g:=(jY G).1;have TT:=I.top S o;have h:=I.bd S g o Y;obtain⟨⟨u,lt⟩,has⟩:=kHB S o I.nd I.e2 (by have:=I.two;omega) I.go;rw[I.full]at has;have two:=I.two;obtain⟨d,k1,k2,k3,f1,f2⟩:=qZ S g (S.sym _ _ o);rw[k1]at Y;have Y:d=c:=Y;subst Y;have cl:d<W.length:=(S.e f2).1
 have pm:(O++[d]).Perm (cq W.length):=by
  have nd:(O++[d]).Nodup:=dc.mpr ⟨I.nd,by simp,λ x s y hy z=>I.nc (by rw[<-bu.mp hy,<-z];exact s)⟩
  have sub:∀ x∈O++[d],x∈cq W.length:=λ x s=>by
   rcases ck.mp s with q | q
   ·exact jt.mpr (I.lt x q)
   ·rw[bu.mp q];exact jt.mpr cl
  refine(ua nd sh).mpr λ x=>⟨sub x,λ s=>eW λ X=>?_⟩
  have:=eO (gj.mpr ⟨X,nd⟩) (l₂:=cq W.length) λ y hy=>by
   rcases eK.mp hy with q | q
   ·rw[q];exact s
   ·exact sub y q
  rw[iC,bj,fj,gv]at this;omega
 have only:∀ x,x<W.length->x∉O->x=d:=λ x s X=>by
  have:=pm.mem_iff.mpr (jt.mpr s);rcases ck.mp this with q | q
  ·exact absurd q X
  ·exact bu.mp q
 generalize hT:D.getLastD []=T at *;have aT:a∈T:=Dz u;have bT:b∈T:=uy lt;have L:b≠a:=(S.e o).2.2
 have lT:2<=T.length:=by
  match T,u,lt with
  | [],u,_=>cases u
  | [x],u,lt =>
   cases u
   cases lt
   exact absurd rfl L
  | _::_::_,_,_=>simp
 have U:∀ p q,Adj T p q->nxt W (p,q)=(q,d)/\R W d p q:=λ p q ad=>by
  obtain⟨z,m1,m2,m3,e1,v⟩:=qZ S g (TT.path _ _ ad);have up:=h.up p q ad;rw[m1]at up;have:=only z (S.e e1).2.1 up;subst this;obtain⟨y,r,n,_⟩:=uD S e1;rw[m2]at n;cases n
  exact⟨m1,r⟩
 obtain⟨row,H,ma⟩:=S.sym _ _ f1;have nd:=S.nd _ _ H
 have mem:∀ x,x∈row↔x∈T:=λ x=>by
  constructor
  ·intro s
   have ex:E W d x:=⟨row,H,s⟩;have xl:=S.e ex;have xO:x∈O:=eW λ X=>xl.2.2 (only x xl.2.1 X);exact h.inn S aT has xO I.nc (S.sym _ _ ex)
  ·intro s
   obtain⟨l,hl,Z⟩:=eZ.mp s;have Z:x=T.getD l 0:=by rw[av,ae hl,<-Z];rfl
   have:∃ p q,R W d p q/\(x=p\/x=q):=by
    rcases iV (l+1) T.length with q | q
    ·exact⟨_,_,(U _ _ (vS q)).2,.inl Z⟩
    ·have:=vS (T:=T) (m:=l-1) (by omega)
     rw[show l-1+1=l by omega]at this;exact⟨_,_,(U _ _ this).2,.inr Z⟩
   obtain⟨p,q,⟨A,f,hn⟩,hp⟩:=this;rw[H]at f
   cases f
   rcases hp with rfl | rfl
   ·exact(kW hn).1
   ·exact(kW hn).2
 have N:∀ p q,Adj T p q->Nx row p q:=λ p q ad=>by
  obtain⟨A,f,hn⟩:=(U p q ad).2;rw[H]at f
  cases f
  exact hn
 obtain⟨I',eT⟩:=Fc.head_split u;obtain⟨r1,r2,e0⟩:=yx ma;have i:Ro row ([]++a::(r2++r1)):=⟨r1,a::r2,e0,by simp⟩;obtain⟨Q,eQ⟩:=nL (row:=row) I' a [] (r2++r1) (i.nd.mp nd) (by have:=TT.nd;rw[eT]at this;exact this) (λ p q ad=>(i.nx p q).mp (N p q (by rw[eT];exact ad)))
 have Q0:Q=[]:=by
  cases Q with
  | nil=>rfl
  | cons q Q =>
   exfalso;have nd2:=i.nd.mp nd;rw[eQ,qi,show a::(I'++q::Q)=(a::I')++q::Q from rfl,<-eT]at nd2;have qr:q∈row:=(i.mem q).mpr (by rw[eQ];simp);exact(dc.mp nd2).2.2 q ((mem q).mp qr) q (by simp) rfl
 have ro:Ro row T:=by
  rw[eQ,Q0,iP,qi,<-eT]at i;exact i
 obtain⟨M,eM⟩ : ∃ M,T=a::M++[b]:=by
  obtain⟨J,eJ⟩:=Fc.last_split lt;rw[eJ]at u
  cases J with
  | nil=>cases u;exact absurd rfl L
  | cons j J =>
   cases u
   exact⟨J,eJ⟩
 have st:stF W T O d=some (a::M++[b]):=kAM (B:=[]) (C:=[]) TT.nd I.nd (by rw[eM];simp) TT.sub (λ q=>by
   rw[<-eM];constructor
   ·intro hq
    refine⟨TT.sub q hq,Fc.mem_row ⟨row,H,(mem q).mpr hq⟩⟩
   ·rintro⟨_,hq⟩
    obtain⟨A,f,hr⟩:=kCN hq;rw[H]at f
    cases f
    exact(mem q).mp hr) (λ t ht=>by
   rw[<-eM]at ht;rw[(U t.1 t.2 (bE (a:=t.1) (b:=t.2) ht)).1])
 rw[<-eM]at st
 have go:goF W (O++[d]) (O.length-2)=some (Fs,D):=by
  rw[<-I.go];refine mU ?_;rw[tz two,gn,ya rfl]
 have on:=mW (st:=T) go (by
  rw[tz two,ya rfl,av,cu,hT];exact st)
 suffices e:zG W a b d (O++[d])=some (Fs++[T],D++[poF (D.getLastD []) T ((O++[d]).getD (O.length-2+2) 0)]) from⟨row,_,H,ro,u,e,pm⟩
 unfold zG
 have g0:(O++[d])[0]?=some a/\(O++[d])[1]?=some b:=by
  have v:=I.e2
  match O,two,v with
  | x::y::r,_,v =>
   simp at v;exact⟨by rw[v.1];rfl,by rw[v.2];rfl⟩
 rw[if_pos ⟨g0.1,g0.2,by simp⟩,bj,fj,show O.length+1-2=O.length-2+1 by omega];exact on
def zM(row A:List Nat):List Nat:=(cq row.length).filter λ k=>decide (row.getD k 0∈A) && !decide ((if k=0 then row.getLastD 0 else row.getD (k-1) 0)∈A)
def vY(row A:List Nat):List Nat:=if(zM row A).length≠1 then[] else(row.drop ((zM row A).headD 0)++row.take ((zM row A).headD 0)).filter λ q=>decide (q∈A)
def mem_begs{row A:List Nat}{k:Nat}:k∈zM row A↔k<row.length/\row.getD k 0∈A/\(if k=0 then row.getLastD 0 else row.getD (k-1) 0)∉A:=by
 unfold zM;simp
def tM{row:List Nat}{k:Nat}(h:k<row.length):Nx row (if k=0 then row.getLastD 0 else row.getD (k-1) 0) (row.getD k 0):=by
 by_cases c:k=0
 ·rw[if_pos c,c]
  have a:row≠[]:=λ z=>by rw[z]at h;simp at h
  obtain⟨J,l,e⟩ : ∃ J l,row=J++[l]:=⟨row.dropLast,row.getLast a,(eC a).symm⟩;rw[e];have b:(J++[l]).getLastD 0=l:=by rw[jf,iq];rfl
  rw[b];refine(jR [l] J _ _).mp ?_
  cases J with
  | nil=>exact .inl ⟨rfl,rfl⟩
  | cons j J=>exact yX (.inl ⟨rfl,rfl⟩)
 ·rw[if_neg c]
  have:=vS (T:=row) (m:=k-1) (by omega);rw[show k-1+1=k by omega]at this;exact yX this
theorem kGS{P:Nat->Prop}:∀{l:List Nat},(∀ x y,Adj l x y->¬ P x->¬ P y)->∃ R Q,l=R++Q/\(∀ x∈R,P x)/\∀ x∈Q,¬ P x
 | [],_=>⟨[],[],rfl,(λ _ h=>by cases h),(λ _ h=>by cases h)⟩
 | [x],_=>by
  by_cases c:P x
  ·exact⟨[x],[],rfl,λ y d=>by rw[bu.mp d];exact c,λ _ h=>by cases h⟩
  ·exact⟨[],[x],rfl,(λ _ h=>by cases h),λ y d=>by rw[bu.mp d];exact c⟩
 | x::y::l,st=>by
  obtain⟨R,Q,e,h1,f⟩:=kGS (l:=y::l) λ p q a=>st p q (.inr a);by_cases c:P x
  ·exact⟨x::R,Q,by rw[e];rfl,λ z b=>by
    rcases eK.mp b with rfl | b
    ·exact c
    ·exact h1 z b,f⟩
  ·have g:=st x y (.inl ⟨rfl,rfl⟩) c
   cases R with
   | cons r R =>
    have:y=r:=(Fh e).1;exact absurd (h1 r (by simp)) (this ▸ g)
   | nil=>exact⟨[],x::Q,by rw[e];rfl,(λ _ h=>by cases h),λ z b=>by
     rcases eK.mp b with rfl | b
     ·exact c
     ·exact f z b⟩
def kCK{A R Q:List Nat}(h1:∀ x∈R,x∈A)(b:∀ x∈Q,x∉A):(R++Q).filter (λ q=>decide (q∈A))=R:=by
 rw[si,DG.mpr λ x a=>by simpa using h1 x a,AH.mpr λ x a=>by simpa using b x a,iP]
def kDS{row A:List Nat}(nd:row.Nodup)(h:1<(vY row A).length):∃ Q,Ro row (vY row A++Q)/\(∀ x∈vY row A,x∈A)/\(∀ x∈Q,x∉A)/\Q≠[]:=by
 unfold vY at h ⊢;by_cases c:(zM row A).length≠1
 ·rw[if_pos c]at h
  simp at h
 rw[if_neg c]at h ⊢;obtain⟨k,m⟩ : ∃ k,zM row A=[k]:=CY.mp (Classical.not_not.mp c);have f:=mem_begs.mp (by rw[m];exact bu.mpr rfl:k∈zM row A);rw[m]at h ⊢;show ∃ Q,Ro row ((row.drop k++row.take k).filter _++Q)/\(∀ x∈(row.drop k++row.take k).filter _,_)/\_;have a:Ro row (row.drop k++row.take k):=⟨row.take k,row.drop k,(fk k row).symm,rfl⟩;have nd2:=a.nd.mp nd
 obtain⟨n,l⟩ : ∃ n,row.drop k++row.take k=row.getD k 0::n:=by
  have d:=f.1;clear f h;rw[Bc d];refine⟨row.drop (k+1)++row.take k,?_⟩
  have:row.getD k 0=row[k]:=by
   rw[av,ae d]
   rfl
  rw[this]
  rfl
 have i:∀ x y,Adj (row.drop k++row.take k) x y->¬ x∈A->¬ y∈A:=λ x y ad v r=>by
  have p:Nx row x y:=(a.nx x y).mpr (yX ad);obtain⟨j,g,b⟩:=eZ.mp (kW p).2;have b:y=row.getD j 0:=by rw[av,ae g,<-b];rfl
  have o:=tM g;rw[<-b]at o;have u:=yM nd p o;have:j∈zM row A:=mem_begs.mpr ⟨g,by rw[<-b];exact r,by rw[<-u];exact v⟩;rw[m]at this;have:j=k:=bu.mp this;subst this;have t:=(qP ad).2;rw[l]at t nd2;rw[gj]at nd2;exact nd2.1 (b ▸ t)
 obtain⟨R,Q,e,h1,q⟩:=kGS (P:=λ z=>z∈A) i;rw[e,kCK (A:=A) h1 q];rw[e]at a;refine⟨Q,a,h1,q,λ z=>?_⟩;have s:=kW (tM f.1);have:=(a.mem _).mp s.1;rw[z,iP]at this;exact f.2.2 (h1 _ this)
def kLY{row A R Q:List Nat}(nd:row.Nodup)(g:Ro row (R++Q))(h1:∀ x∈R,x∈A)(j:∀ x∈Q,x∉A)(B:R≠[])(v:Q≠[]):(vY row A).length=R.length:=by
 have nd2:=g.nd.mp nd
 obtain⟨x,b,rfl⟩ : ∃ x b,R=x::b:=by
  cases R with
  | nil=>exact absurd rfl B
  | cons x R=>exact⟨x,R,rfl⟩
 obtain⟨c,y,rfl⟩ : ∃ c y,Q=c++[y]:=⟨Q.dropLast,Q.getLast v,(eC v).symm⟩;have s:Nx row y x:=(g.nx y x).mpr ((jR [y] (x::b++c) _ _).mp (by exact yX (.inl ⟨rfl,rfl⟩)) |> λ h=>by simpa using h)
 have key:∀ k,k∈zM row A↔k=row.idxOf x:=λ k=>by
  have M:x∈row:=(kW s).2;have i:row.idxOf x<row.length:=fq M;have o:row.getD (row.idxOf x) 0=x:=by rw[av,ae i,BW];rfl
  rw[mem_begs];constructor
  ·rintro⟨u,n,D⟩
   have f:=tM u;have d:=(g.nx _ _).mp f
   have I:row.getD k 0=x:=by
    refine eW λ H=>D ?_;have m:=(kW d).2
    have inR:row.getD k 0∈x::b:=by
     rcases ck.mp m with q | q
     ·exact q
     ·exact absurd n (j _ q)
    have inT:row.getD k 0∈(x::b).tail:=by
     rcases eK.mp inR with q | q
     ·exact absurd q H
     ·exact q
    obtain⟨p,hp⟩:=cS (l:=x::b) inT;have:=yM nd2 d (Fc.adj_nx (c++[y]) hp);rw[this];exact h1 p (qP hp).1
   exact mY nd u i (by rw[I,o])
  ·rintro rfl
   refine⟨i,by rw[o];exact h1 x (by simp),?_⟩;have f:=tM i;rw[o]at f;rw[yM nd f s];exact j y (by simp)
 have L:(zM row A).length=1:=by
  have a:(zM row A).Nodup:=sh.filter _;have G:zM row A≠[]:=λ z=>by have:=(key (row.idxOf x)).mpr rfl;rw[z]at this;cases this
  match hb:zM row A,a,G with
  | [k],_,_=>rfl
  | k::n::r,a,_ =>
   have J:=(key k).mp (by rw[hb];simp);have C:=(key n).mp (by rw[hb];simp);rw[gj]at a;exact absurd (by rw[J,C];simp) a.1
 unfold vY;rw[if_neg (by rw[L];simp)];generalize(zM row A).headD 0=k;have p1:(row.drop k++row.take k).Perm ((x::b)++(c++[y])):=(Ro.perm ⟨row.take k,row.drop k,(fk k row).symm,rfl⟩ : row.Perm (row.drop k++row.take k)).symm.trans g.perm;have:=(p1.filter λ q=>decide (q∈A)).length_eq;rw[this,kCK h1 j]
end
end Tri
namespace L2
open PySem
section
variable {X:Cx}
def kPG{o:iH}{b:TE}(d:PE X o b):PE X o (λ σ H Q=>∃ P:V->Hp->Prop,b σ H P/\∀ x H1,P x H1->Q x H1):=λ a s σ H Q I ⟨P,h,m⟩=>thn (d a s σ H P I h) λ v i ⟨x,H1,f,g,c⟩=>⟨x,H1,f,g,m x H1 c⟩
inductive kCE(R:It->Hp->Prop)(x:V)(H1:Hp):Prop
 | mk:∀ d kvs,(x=.ref d)->(Rd H1 d (.dK kvs))->(∀(o:Obj)(H4:Hp),H4 d=some (.frz o (.dK kvs))->(∀ b u,b≠d->H1 b=some u->H4 b=some u)->(H1 d=some (.dK kvs)\/H4=H1)->R (Itm d o) H4)->kCE R x H1
def kQB(c:TE):TI:=λ a H R=>c a H λ x b=>kCE R x b
def kJA{o:iH}{n:TE}{a c i:Pos}{l:List iH} {x1} (B:PE X o n)
  (g:attributeBase o "items" X.env (eval o X.env)=eval o X.env:=by rfl) (f:(a.endLine == c.line)=true:=by rfl):PI X (.Tuple l x1 i) (.Call (.Attribute o "items" a) [] [] c) (kQB n):=by
 intro j s y H R I h;refine kBL (kPG B) g f j s y H R I ⟨_,h,?_⟩;rintro x A ⟨d,m,rfl,v,q⟩;refine⟨d,m,rfl,?_⟩;rcases v with e | ⟨p,e⟩
 ·exact .inl ⟨e,λ o=>q o _ kA (λ b u r e=>by rw[kM r];exact e) (.inl e)⟩
 ·exact .inr ⟨p,e,q p A e (λ _ _ _ e=>e) (.inr rfl)⟩
end
end L2
namespace Prf
open PySem L2 Own Tri Cyc Rnd
def top(i:Nat):kr:=PySem.Challenge.pw_restdraw_k61_walked_place_by_place.main.body.getD i (.Pass ⟨0,0,0,0⟩)
abbrev aF:kr:=top 7
def hZ:FnScope ["pair","x","y"] ["pair"] (kN aF):=qJ
abbrev lU:kr:=top 9
def kBE:FnScope ["thing"] ["thing"] (kN lU):=qJ
abbrev fG:kr:=top 10
def sK:FnScope ["thing","many"] ["thing","many"] (kN fG):=qJ
abbrev lH:kr:=top 11
def kAY:FnScope ["web"] ["web"] (kN lH):=qJ
abbrev kLS:kr:=top 12
def kOU:FnScope ["web"] ["web"] (kN kLS):=qJ
abbrev kBH:kr:=top 13
def kIT:FnScope ["web","step","p","q","row"] ["web","step"] (kN kBH):=qJ
abbrev aG:kr:=top 14
def lC:FnScope ["web","step","steps","further"] ["web","step"] (kN aG):=qJ
abbrev kGC:kr:=top 15
def kLR:FnScope ["web","told","seen","step","steps"] ["web"] (kN kGC):=qJ
abbrev pD:kr:=top 16
def kDQ:FnScope ["web"] ["web"] (kN pD):=qJ
abbrev uH:kr:=top 17
def fV:FnScope ["web"] ["web"] (kN uH):=qJ
abbrev zX:kr:=top 19
def aU:FnScope ["web","some"] ["web"] (kN zX):=qJ
abbrev fH:kr:=top 20
def sL:FnScope ["web","p","q","r"] ["web","p","q","r"] (kN fH):=qJ
abbrev pE:kr:=top 21
def kDR:FnScope ["web","thing","a","b","c"] ["web","thing"] (kN pE):=qJ
abbrev wQ:kr:=top 22
def bI:FnScope ["web","base","face"] ["web","base"] (kN wQ):=qJ
abbrev lV:kr:=top 24
def kBF:FnScope ["web","base","thing","a","b","c"] ["web","base","thing"] (kN lV):=qJ
abbrev vV:kr:=top 25
def cZ:FnScope ["web","top","ahead","place","below","stretch","start"] ["web","top","ahead","place"] (kN vV):=qJ
abbrev lI:kr:=top 26
def kAZ:FnScope ["top","stretch","place","start","end"] ["top","stretch","place"] (kN lI):=qJ
abbrev kLT:kr:=top 27
def kOV:FnScope ["web","base","thing","found","tops","at","stretch"] ["web","base","thing"] (kN kLT):=qJ
abbrev uG:kr:=top 28
def fU:FnScope ["web","base","order","both"] ["web","base","order"] (kN uG):=qJ
abbrev aH:kr:=top 30
def lD:FnScope ["spots","hung","places","by","gone"] ["spots","hung","places","by"] (kN aH):=qJ
abbrev dU:kr:=top 31
def rV:FnScope ["left","right","x","y","further","higher","way"] ["left","right"] (kN dU):=qJ
abbrev lY:kr:=top 32
def kBG:FnScope ["order","found","tops","spots","hung","told","v","stretch","top","right"] ["order","found","tops"] (kN lY):=qJ
abbrev kGB:kr:=top 33
def kLQ:FnScope ["web","base","order","found","tops"] ["web","base","order"] (kN kGB):=qJ
abbrev kLU:kr:=top 34
def kOW:FnScope ["web","base","order","found","tops","spots"] ["web","base","order"] (kN kLU):=qJ
abbrev fE:kr:=top 35
def sH:FnScope ["some"] ["some"] (kN fE):=qJ
abbrev oY:kr:=top 37
def kDO:FnScope ["_law_script","_law_k","_law_cell"] ["_law_script","_law_k"] (kN oY):=qJ
abbrev dZ:kr:=top 38
def rZ:FnScope ["_law_pot_here","_law_many","_law_digit_here"] ["_law_pot_here","_law_many"] (kN dZ):=qJ
abbrev fA:kr:=top 39
def sA:FnScope ["_law_rows","_law_p","_law_q","_law_row"] ["_law_rows","_law_p","_law_q"] (kN fA):=qJ
abbrev bM:kr:=top 40
def nY:FnScope ["_law_rows","_law_p","_law_v","_law_new","_law_row"] ["_law_rows","_law_p","_law_v","_law_new"] (kN bM):=qJ
abbrev oZ:kr:=top 41
def kDP:FnScope ["_law_rows","_law_p","_law_q","_law_r","_law_new"] ["_law_rows","_law_p","_law_q"] (kN oZ):=qJ
abbrev lN:kr:=top 42
def kBC:FnScope ["_law_rows","_law_p","_law_q","_law_r","_law_s"] ["_law_rows","_law_p","_law_q"] (kN lN):=qJ
abbrev lJ:kr:=top 43
def kBA:FnScope ["_law_pot_here","_law_rows","_law_p"] ["_law_pot_here","_law_rows"] (kN lJ):=qJ
abbrev uI:kr:=top 44
def fW:FnScope ["_law_pot_here","_law_n","_law_rows","_law_k","_law_p","_law_q"] ["_law_pot_here","_law_n"] (kN uI):=qJ
abbrev dY:kr:=top 45
def rY:FnScope ["_law_pot_here","_law_n","_law_found","_law_k"] ["_law_pot_here","_law_n"] (kN dY):=qJ
abbrev oW:kr:=top 46
def kDM:FnScope ["_law_rows","_law_names_here","_law_found","_law_p","_law_row","_law_called","_law_k"] ["_law_rows","_law_names_here"] (kN oW):=qJ
abbrev lQ:kr:=top 47
def kBD:FnScope ["_law_pot_here","_law_web_here","_law_a","_law_c"] ["_law_pot_here","_law_web_here"] (kN lQ):=qJ
abbrev oX:kr:=top 48
def kDN:FnScope ["_law_web_here","_law_ahead_here","_law_v","_law_row","_law_begins"] ["_law_web_here","_law_ahead_here","_law_v"] (kN oX):=qJ
abbrev aI:kr:=top 49
def lE:FnScope ["_law_pot_here","_law_web_here","_law_base_here","_law_order","_law_runs","_law_k","_law_some","_law_v","_law_row","_law_first"] ["_law_pot_here","_law_web_here","_law_base_here"] (kN aI):=qJ
abbrev dX:kr:=top 50
def rX:FnScope ["_law_hung","_law_points","_law_some","_law_by","_law_p","_law_q"] ["_law_hung","_law_points","_law_some","_law_by"] (kN dX):=qJ
abbrev lM:kr:=top 51
def kBB:FnScope ["_law_one","_law_other","_law_wide"] ["_law_one","_law_other"] (kN lM):=qJ
abbrev bK:kr:=top 52
def nW:FnScope ["_law_order","_law_runs","_law_points","_law_hung","_law_ring","_law_found","_law_k","_law_v","_law_run_here","_law_at","_law_p"] ["_law_order","_law_runs"] (kN bK):=qJ
abbrev dW:kr:=top 53
def rW:FnScope ["_law_number_here"] ["_law_number_here"] (kN dW):=qJ
abbrev wR:kr:=top 54
def bJ:FnScope ["_law_some","_law_due","_law_one"] ["_law_some","_law_due"] (kN wR):=qJ
abbrev bL:kr:=top 55
def nX:FnScope ["_law_pot_here","_law_small","_law_great"] ["_law_pot_here"] (kN bL):=qJ
abbrev aJ:kr:=top 56
def lG:FnScope ["_law_pot_here","_law_found","_law_k"] ["_law_pot_here"] (kN aJ):=qJ
abbrev vW:kr:=top 57
def dA:FnScope ["_law_some"] ["_law_some"] (kN vW):=qJ
abbrev kGA:kr:=top 58
def sc_law:FnScope ["_law_script","_law_pot_here","_law_n","_law_web_here","_law_base_here","_law_order","_law_runs","_law_due","_law_found","_law_k","_law_last"] ["_law_script"] (kN kGA):=qJ
structure FxG(K:bb)(mg:Str->Option ar):Prop where
 X:∃ h:iK,K.In h/\h.Ns gw mg
 d0:jF K "whole_point" aF
 d1:jF K "is_whole" lU
 d2:jF K "are_whole" fG
 d3:jF K "steps_of" lH
 d4:jF K "ties" kLS
 d5:jF K "behind" kBH
 d6:jF K "steps_round" aG
 d7:jF K "faces" kGC
 d8:jF K "is_flat" pD
 d9:jF K "must_be_flat" uH
 d10:jF K "uncornered_face" zX
 d11:jF K "are_round" fH
 d12:jF K "is_base" pE
 d13:jF K "must_have_base" wQ
 d14:jF K "has_ends" lV
 d15:jF K "stretch_under" vV
 d16:jF K "put_over" lI
 d17:jF K "laid" kLT
 d18:jF K "must_be_laid" uG
 d19:jF K "moved_right" aH
 d20:jF K "spot_over" dU
 d21:jF K "grids_by" lY
 d22:jF K "grids" kGB
 d23:jF K "grid" kLU
 d24:jF K "as_points" fE
 d25:jF K "_law_pot" oY
 d26:jF K "_law_digit" dZ
 d27:jF K "_law_ahead" fA
 d28:jF K "_law_behind" bM
 d29:jF K "_law_add" oZ
 d30:jF K "_law_flip" lN
 d31:jF K "_law_step" lJ
 d32:jF K "_law_cornered" uI
 d33:jF K "_law_names" dY
 d34:jF K "_law_web" oW
 d35:jF K "_law_base" lQ
 d36:jF K "_law_run" oX
 d37:jF K "_law_ordered" aI
 d38:jF K "_law_shift" dX
 d39:jF K "_law_over" lM
 d40:jF K "_law_walked" bK
 d41:jF K "_law_whole" dW
 d42:jF K "_law_are_points" wR
 d43:jF K "_law_number" bL
 d44:jF K "_law_further" aJ
 d45:jF K "_law_are_drawn" vW
 d46:jF K "law" kGA
 y0:jl K gw "len" = some none
 y1:jl K gw "max" = some none
 y2:jl K gw "abs" = some none
 y3:jl K gw "range" = some none
 y4:jl K gw "enumerate" = some none
 y5:jl K gw "min" = some none
 y6:jl K gw "tuple" = some none
 y7:jl K gw "sorted" = some none
 y8:jl K gw "isinstance" = some none
 y9:jl K gw "bool" = some none
 y10:jl K gw "int" = some none
 y11:jl K gw "all" = some none
 y12:jl K gw "list" = some none
 y13:jl K gw "zip" = some none
def FxG.z{K:bb}{mg:Str->Option ar}(B:FxG K mg){n:Str}(y:jl K gw n=some none):mg n=none:=by
 obtain⟨h,x,g⟩:=B.X;exact PySem.W.mg_none_of x g y
def Bad(c:Cn):Prop:=FxG c.K c.mg/\∃ f a,Fun c.K "law" "law" kGA f a/\¬ FnOk c.P c.w c.K c.mg c.base CX0 11 f a ["_law_script"] (oS c.K)
noncomputable def c0:Cn:=Classical.epsilon Bad
noncomputable def P:eY:=c0.P
noncomputable def w:iG:=c0.w
noncomputable def K:bb:=c0.K
noncomputable def mg:Str->Option ar:=c0.mg
noncomputable def base:iK:=c0.base
abbrev Fx:=FxG K mg
abbrev Hs:=Own.Has P w K mg base
def kC{H:Hp}{p:au}(h:H p=none)(o:HO):Same H (upd H p o):=λ b u q=>by rw[kM (kO q h)];exact q
def SameBut(a:au)(H H':Hp):Prop:=∀ b o,b≠a->H b=some o->H' b=some o
inductive kQU(K:bb)(vs:List V)(H:Hp)(Q:VK)(Y:XK):Prop
 | mk:∀(a:au)(ns:List Int)(k:Int),(vs=[.ref a,.int k])->(SqL K H a (ns.map V.int))->(ns.length<=63)->(0<=k)->(k<=63)->(∀(p:au)(x y:Int)(H':Hp),0<=x->Same H H'->H p=none->H' p=some (.lst [.int x,.int y])->Q (.ref p) H')->kQU K vs H Q Y
def PotAt(H:Hp)(a:au):Prop:=∃ x y:Int,H a=some (.lst [.int x,.int y])/\0<=x
inductive kFS(vs:List V)(H:Hp)(Q:VK)(Y:XK):Prop
 | mk:∀(a:au)(m:Int),(vs=[.ref a,.int m])->(PotAt H a)->(0<m)->(m.natAbs<2 ^ 9000)->(∀(d:Int)(H':Hp),0<=d->d<m->SameBut a H H'->PotAt H' a->Q (.int d) H')->kFS vs H Q Y
def vn(n:Nat):V:=.int (n:Int)
def ci(n:Nat):Int:=n
structure RowsAt(H:Hp)(r:au)(A:List au)(L:Rows):Prop where
 top:H r=some (.lst (A.map V.ref))
 len:A.length=L.length
 nd:A.Nodup
 out:r∉A
 row:∀(i:Nat)(a:au)(ns:List Nat),A[i]?=some a->L[i]?=some ns->H a=some (.lst (ns.map vn))
def xD(a:List Nat):a.map vn=(a.map ci).map V.int:=by
 rw[vw]
 rfl
def qO{a:List Nat}{n:Nat}(h:n∈a):cU (a.map ci) (n:Int) (a.idxOf n):=by
 have c:=fq h;refine⟨?_,λ m f e=>?_⟩
 ·rw[az,ae c,BW c]
  rfl
 ·have b:m<a.length:=by omega
  rw[az,ae b]at e
  have d:a[m]=n:=by
   have z:((a[m]:Nat):Int)=(n:Int):=bg e;omega
  have q:=List.not_of_lt_findIdx (p:=(· == n)) (xs:=a) f;rw[d]at q;simp at q
def RowsAt.at{H:Hp}{r:au}{A:List au}{L:Rows}(x:RowsAt H r A L){i:Nat}{c:List Nat}(h:L[i]?=some c):∃ a,A[i]?=some a/\H a=some (.lst (c.map vn))/\atI (A.map V.ref) (i:Int)=some (.ref a):=by
 have b:i<A.length:=by rw[x.len];exact(ak.mp h).1
 refine⟨A[i],ae b,x.row i _ c (ae b) h,jB ?_⟩;rw[az,ae b]
 rfl
inductive kFV(vs:List V)(H:Hp)(Q:VK)(Y:XK):Prop
 | mk:∀(r b:au)(xs:List V)(p q:Nat)(row:List Nat)(v:Nat),(vs=[.ref r,vn p,vn q])->((H r=some (.lst xs)/\H b=some (.lst (row.map vn))\/H r=some (.tup xs)/\H b=some (.tup (row.map vn))))->(atI xs (q:Int)=some (.ref b))->(p∈row)->(xP row p=some v)->(Q (vn v) H)->kFV vs H Q Y
def kAC{row:List Nat}{p v:Nat}(hp:p∈row)(h:xP row p=some v):atI (row.map vn) ((row.idxOf p:Int)-1)=some (vn v):=by
 have b:=fq hp;unfold xP at h;by_cases h0:row.idxOf p=0
 ·rw[if_pos h0]at h
  rw[h0]
  have e:row=row.dropLast++[v]:=by
   have a:row≠[]:=λ z=>by rw[z]at hp;cases hp
   rw[fe a]at h;rw[<-bg h];exact(eC a).symm
  rw[e,cy];exact yB _ _
 ·rw[if_neg h0]at h
  have e:((row.idxOf p:Int)-1)=((row.idxOf p-1:Nat):Int):=by omega
  rw[e];exact jB (by rw[az,h];rfl)
section
def at0{x y:V}:atI [x,y] 0=some x:=rfl
def at1{x y:V}:atI [x,y] 1=some y:=rfl
def zK(B:Fx):Hs "_law_ahead" ["_law_rows","_law_p","_law_q"] 1 (kFV):=by
 refine qK B.X B.d27 sA λ f j A c s H m Q E i l h=>?_;obtain⟨r,b,n,p,q,row,v,rfl,⟨h1,a⟩ | ⟨h1,a⟩,g,hp,d,k⟩:=h
 ·refine⟨_,(kE (pst 3 i (pix qB (pv 0) (pv 2)))
   (kL (kU (pix qB (pv 3) (kX yL (jG jb jc yN (pv 3) (p1 (pv 1))) kJ))))),?_⟩
  try dsimp only[qX]
  refine⟨_,rfl,_,rfl,r,_,_,_,rfl,rfl,SqL.of h1,g,?_⟩;refine⟨_,rfl,_,rfl,.inl ⟨rfl,_,SqL.of a⟩,_,rfl,b,row.map ci,p,row.idxOf p,rfl,rfl,by rw[a,xD],qO hp,_,_,rfl,rfl,?_⟩;exact⟨b,_,_,_,rfl,rfl,SqL.of a,kAC hp d,k⟩
 ·refine⟨_,(kE (pst 3 i (pix kZ (pv 0) (pv 2)))
   (kL (kU (pix kZ (pv 3) (kX yL (kBN zd ze zf dG (pv 3) (p1 (pv 1))) kJ))))),?_⟩
  try dsimp only[qX]
  refine⟨_,rfl,_,rfl,r,_,_,_,rfl,rfl,SqT.of h1,g,?_⟩;refine⟨_,rfl,_,rfl,.inr (.inl ⟨rfl,.inr ⟨_,a⟩⟩),_,rfl,b,row.map ci,p,row.idxOf p,rfl,rfl,SqT.of (by rw[a,xD]),qO hp,_,_,rfl,rfl,?_⟩;exact⟨b,_,_,_,rfl,rfl,SqT.of a,kAC hp d,k⟩
theorem RowsAt.set{H:Hp}{r:au}{A:List au}{L:Rows}(x:RowsAt H r A L){i:Nat}{a:au}(h:A[i]?=some a)(f:List Nat):RowsAt (upd H a (.lst (f.map vn))) r A (L.set i f):=by
 have l:r≠a:=λ z=>x.out (z ▸ cv h);have o:i<L.length:=by rw[<-x.len];exact(ak.mp h).1
 refine⟨by rw[kM l];exact x.top,by rw[Am];exact x.len,x.nd,x.out,λ j b g c d=>?_⟩;rcases wF o d with⟨rfl,rfl⟩ | ⟨m,d⟩
 ·rw[h]at c
  cases c
  exact kA
 ·have n:b≠a:=λ z=>by
   subst z;have:=(xp (ak.mp c).1 x.nd).mp (c.trans h.symm);exact m this
  rw[kM n];exact x.row j b g c d
def ButRows(r:au)(A:List au)(H H':Hp):Prop:=∀ b o,b≠r->b∉A->H b=some o->H' b=some o
inductive kAV(vs:List V)(H:Hp)(Q:VK)(Y:XK):Prop
 | mk:∀(r:au)(A:List au)(L:Rows)(p v n:Nat)(row:List Nat),(vs=[.ref r,vn p,vn v,vn n])->(RowsAt H r A L)->(L[p]?=some row)->(v∈row)->(row.length<=1000)->(∀ H',ButRows r A H H'->RowsAt H' r A (L.set p (jQ row v n))->Q .non H')->kAV vs H Q Y
def xV(B:Fx):Hs "_law_behind" ["_law_rows","_law_p","_law_v","_law_new"] 1 (kAV):=by
 refine qK B.X B.d28 nY λ f y A d s H G Q E u C h=>?_;obtain⟨r,D,L,p,v,n,row,rfl,X,hp,i,x,k⟩:=h
 refine⟨_,(kE (pst 4 u (pix qB (pv 0) (pv 1)))
   (kL (qM (jG Bs Bt pO (pv 4) (p2 (kX qY (jG jb jc yN (pv 4) (p1 (pv 2))) kJ) (pv 3)))))),?_⟩
 try dsimp only[qX]
 obtain⟨a,g,c,m⟩:=X.at hp;have I:=fq i;refine⟨_,rfl,_,rfl,r,_,_,_,rfl,rfl,SqL.of X.top,m,?_⟩;refine⟨_,rfl,.inl ⟨rfl,_,SqL.of c⟩,_,rfl,.inl ⟨rfl,_,SqL.of c⟩,_,rfl,a,row.map ci,v,row.idxOf v,rfl,rfl,by rw[c,xD],qO i,_,_,rfl,rfl,_,rfl,a,_,_,_,rfl,rfl,c,by omega,by omega,by rw[aj];exact kQ x,?_⟩
 have e:Fn ((row.idxOf v:Int)+1).toNat (row.map vn)++vn n::Gh ((row.idxOf v:Int)+1).toNat (row.map vn)=(jQ row v n).map vn:=by
  have z:((row.idxOf v:Int)+1).toNat=row.idxOf v+1:=by omega
  rw[z];unfold jQ;rw[cy,uz,gm,yj]
 have q:=k (upd H a (.lst ((jQ row v n).map vn))) (λ b o _ l h=>by
  have j:b≠a:=λ z=>l (by rw[z];exact cv g);rw[kM j];exact h) (X.set g _)
 rw[<-e]at q;exact q
def ButRows.trans{r:au}{A:List au}{H d c:Hp}(x:ButRows r A H d)(y:ButRows r A d c):ButRows r A H c:=λ b o h1 a h=>y b o h1 a (x b o h1 a h)
def dB{L:Rows}(G:Good L){p:Nat}{row:List Nat}(h:L[p]?=some row):row.length<=6*L.length:=by
 have q:=zI L p row [] h;have t:=G.tot;simp only[tm]at q;omega
def RowsAt.app{H:Hp}{r:au}{A:List au}{L:Rows}(x:RowsAt H r A L){a:au}(h:H a=none)(n:List Nat):RowsAt (upd (upd H a (.lst (n.map vn))) r (.lst (A.map V.ref++[V.ref a]))) r (A++[a]) (L++[n]):=by
 have l:r≠a:=kO x.top h
 have j:∀ b,b∈A->b≠a:=λ b d=>by
  obtain⟨i,f,rfl⟩:=eZ.mp d;have g:i<L.length:=by rw[<-x.len];exact f
  exact kO (x.row i _ _ (ae f) (ae g)) h
 refine⟨by rw[kA,cy];rfl,by simp[x.len],?_,?_,λ i b q d f=>?_⟩
 ·rw[dc]
  exact⟨x.nd,by simp,λ b d c o=>by simp at o;rw[o];exact j b d⟩
 ·intro z
  rcases ck.mp z with z | z
  ·exact x.out z
  ·exact l (by simpa using z)
 ·by_cases p:i<A.length
  ·rw[bf p]at d
   rw[bf (by rw[<-x.len];exact p)]at f;have m:=cv d;have s:b≠r:=λ z=>x.out (by rw[<-z];exact m);rw[kM s,kM (j b m)];exact x.row i b q d f
  ·have e:i=A.length:=by
    have:=(ak.mp d).1;simp at this;omega
   subst e;rw[bz (be _)]at d;rw[bz (by rw[x.len];exact be _)]at f;rw[x.len]at f;simp at d f;subst d f;rw[kM l.symm,kA]
inductive kQV(vs:List V)(H:Hp)(Q:VK)(Y:XK):Prop
 | mk:∀(r:au)(A:List au)(L:Rows)(p q:Nat),(vs=[.ref r,vn p,vn q])->(RowsAt H r A L)->(Good L)->(L.length<=150)->(E L p q)->(∀(x:au)(L':Rows)(H':Hp),H x=none->ButRows r A H H'->RowsAt H' r (A++[x]) L'->Good L'->L'.length=L.length+1->Q .non H')->kQV vs H Q Y
def kEC(B:Fx):Hs "_law_add" ["_law_rows","_law_p","_law_q"] 2 (kQV):=by
 refine qK B.X B.d29 kDP λ f a0 A J s H vs Q E nN v h=>?_;obtain⟨r,a,L,p,q,rfl,X,G,hL,U,k⟩:=h
 refine⟨_,(kE (pst 3 nN (pf (zK B) v (kI (pv 0) (kI (pv 1) (kI (pv 2) kY)))))
   (kE (pst 4 nN (kR kP rfl (B.z B.y0) eV (p1 (pv 0))))
   (kE (qM (pf (xV B) v (kI (pv 0) (kI (pv 1) (kI (pv 2) (kI (pv 4) kY))))))
   (kE (qM (pf (xV B) v (kI (pv 0) (kI (pv 2) (kI (pv 3) (kI (pv 4) kY))))))
   (kE (qM (pf (xV B) v (kI (pv 0) (kI (pv 3) (kI (pv 1) (kI (pv 4) kY))))))
   (kL (qM (jG iR iS jW (pv 0) (p1 (qU (kI (pv 1) (kI (pv 2) (kI (pv 3) kY))))))))))))),?_⟩
 try dsimp only[qX]
 obtain⟨d,m,O⟩:=G.sym U;obtain⟨u,hp,mp⟩:=U;obtain⟨t,ht⟩:=vH O;have f:=zJ (G.nd q d m) O ht;have S:R L q t p:=⟨d,m,f⟩;have Fr:=G.tri _ _ _ S;obtain⟨y,j,nr⟩:=id Fr;have gd:=kOH G hp m j f;obtain⟨lq,lt,lp,tq,pq⟩:=wS G S;obtain⟨_,_,_,pt,_⟩:=wS G Fr;have mr:=(kW nr).1;have c:(a.map V.ref).length=L.length:=by rw[aj];exact X.len
 obtain⟨aX,_,C,N⟩:=X.at m;refine⟨_,rfl,_,rfl,_,rfl,r,aX,_,p,q,d,t,rfl,.inl ⟨X.top,C⟩,N,O,ht,?_⟩;refine⟨_,rfl,r,_,rfl,.inl (SqL.of X.top),?_⟩;refine⟨_,rfl,_,rfl,_,rfl,_,rfl,r,a,L,p,q,(a.map V.ref).length,u,rfl,X,hp,mp,(by have:=dB G hp;omega),λ H1 b1 X1=>?_⟩;have D:(L.set p (jQ u q (a.map V.ref).length))[q]?=some d:=by rw[eo pq];exact m
 refine⟨_,rfl,_,rfl,_,rfl,_,rfl,r,a,_,q,t,(a.map V.ref).length,d,rfl,X1,D,(kW f).1,(by have:=dB G m;omega),λ H2 b2 X2=>?_⟩;have I:((L.set p (jQ u q (a.map V.ref).length)).set q (jQ d t (a.map V.ref).length))[t]?=some y:=by rw[eo (λ z=>tq z.symm),eo pt];exact j
 refine⟨_,rfl,_,rfl,_,rfl,_,rfl,r,a,_,t,p,(a.map V.ref).length,y,rfl,X2,I,mr,(by have:=dB G j;omega),λ H3 b3 l=>?_⟩;refine⟨_,rfl,.inl ⟨rfl,_,SqL.of l.top⟩,_,rfl,_,rfl,_,rfl,yS3,λ x n=>?_⟩;have T:r≠x:=kO l.top n;have g:=b1.trans (b2.trans b3)
 have xn:H x=none:=by
  cases e:H x with
  | none=>rfl
  | some o =>
   have xA:x∉a:=λ z=>by
    obtain⟨i,Z,rfl⟩:=eZ.mp z;have M:i<(((L.set p (jQ u q (a.map V.ref).length)).set q (jQ d t (a.map V.ref).length)).set t (jQ y p (a.map V.ref).length)).length:=by rw[<-l.len];exact Z
    rw[l.row i _ _ (ae Z) (ae M)]at n;cases n
   rw[g x o (λ z=>T z.symm) xA e]at n;cases n
 refine⟨r,_,_,rfl,rfl,(by rw[kM T];exact l.top),(by rw[c];exact kQ (by omega)),?_⟩;have Y:=l.app n [p,q,t];rw[c]at Y;refine k x (bD L p q t u d y) _ xn (λ b o h1 h2 h=>?_) Y gd (by simp[bD]);have bx:b≠x:=λ z=>by rw[z,xn]at h;cases h
 rw[kM h1,kM bx];exact g b o h1 h2 h
def kOB(a:List Int)(lo hi:Option Int):∃ ms:List Int,yA (a.map V.int) lo hi=ms.map V.int/\ms.length<=a.length:=by
 refine⟨(a.drop (HT.sIx (a.map V.int).length 0 lo)).take (HT.sIx (a.map V.int).length (a.map V.int).length hi-HT.sIx (a.map V.int).length 0 lo),?_,?_⟩
 ·unfold yA
  rw[uz,yj]
 ·rw[cx,iN]
  omega
def kJW(a:List Int):∃ c:Int,atI (a.map V.int++[V.int 0]) 0=some (V.int c):=by
 cases a with
 | nil=>exact⟨0,rfl⟩
 | cons x r=>exact⟨x,jB (j:=0) rfl⟩
def xJ{n:Nat}(h:n<=20000):n<sizeLine:=ji h (by rw[Ad];decide)
def kUC{n:Nat}(h:n<=1000):n<=sizeLine:=fv (kQ h)
def kEB(B:Fx):Hs "_law_pot" ["_law_script","_law_k"] 1 (kQU K):=by
 refine qK B.X B.d25 kDO λ f G A d s H M Q E D J h=>?_;obtain⟨a,i,k,rfl,m,r,N,I,q⟩:=h
 refine⟨_,(kE (pst 2 D (pix qB (kX vK (qD xE (pv 0) (qC (pv 1)) (qC (kX qY (pv 1) kJ))) (qU (p1 kJ))) kJ))
   (kL (kU (qU (p2 (kR (kKE rfl) rfl (B.z B.y1) GD (p2 kJ (kX yL (pv 2) (kX kDZ kJ kJ)))) (kX qY (kX mH (kX qY (kX qY (kR kOF rfl (B.z B.y2) GE (p1 (pv 2))) (kX sX kJ (pv 1))) kJ) kJ) kJ)))))),?_⟩
 try dsimp only[qX]
 obtain⟨x,em,L⟩:=kOB i (some k) (some (k+1));obtain⟨c,o⟩:=kJW x;refine⟨_,rfl,_,rfl,k,rfl,_,rfl,_,_,rfl,rfl,k+1,rfl,a,_,rfl,m,λ p1 h1=>?_⟩;refine⟨yS1,λ p2 l=>?_⟩;have b:p1≠p2:=kO kA l;refine⟨p1,p2,_,_,rfl,rfl,(by rw[kM b];exact kA),kA,(by rw[em,aj,fj];exact kUC (by omega)),λ y u=>?_⟩;refine⟨y,_,_,_,rfl,rfl,SqL.of kA,(by rw[em];exact o),?_⟩;have C:Same H (upd H p1 (.lst (yA (i.map V.int) (some k) (some (k+1))))):=kC h1 _;have p:=kC l (.lst [V.int 0]);have v:=kC u (.lst (yA (i.map V.int) (some k) (some (k+1))++[V.int 0]));have g:=C.trans (p.trans v);refine⟨_,rfl,_,_,rfl,rfl,⟨by decide,by decide,by decide⟩,_,_,rfl,rfl,_,_,rfl,_,rfl,c,rfl,_,rfl,_,_,rfl,rfl,.inl ⟨by decide,by decide⟩,_,_,rfl,rfl,_,_,rfl,rfl,_,_,rfl,rfl,(by show(0:Int)<2147483629;decide),_,_,rfl,rfl,yS2,λ n j=>?_⟩;refine q n _ _ _ ?_ (g.trans (kC j _)) (g.free j) kA
 split<;>omega
def SameBut.trans{a:au}{H c d:Hp}(x:SameBut a H c)(y:SameBut a c d):SameBut a H d:=λ b o n h=>y b o n (x b o n h)
def SameBut.of{a:au}{H H':Hp}(h:Same H H'):SameBut a H H':=λ b o _ e=>h b o e
def kHN{a:au}{H:Hp}{o:HO}:SameBut a H (upd H a o):=λ b u n h=>by rw[kM n];exact h
def qE(B:Fx):Hs "_law_digit" ["_law_pot_here","_law_many"] 1 (kFS):=by
 refine qK B.X B.d26 rZ λ f n A g s H r Q E l o h=>?_;obtain⟨a,m,rfl,⟨x,y,b,i⟩,d,j,q⟩:=h
 refine⟨_,(kE (yE (qN kRA (pix qB (pv 0) kJ) kJ (jE _)) (kE (pst 2 l (kX mH (pix qB (pv 0) kJ) (pv 1)))
   (kE (yC (kX Own.op_fdivW (pix qB (pv 0) kJ) (pv 1)) (kDW (pv 0) kJ hJ))
   (kL (kU (pv 2))))) jC)
   (kE (yC (kX mH (kX qY (kX sX (pix qB (pv 0) kJ) kJ) kJ) kJ) (kDW (pv 0) kJ hJ))
   (kL (kU (kX mH (kX gI (kX mH (kX sX (pix qB (pv 0) kJ) (pix qB (pv 0) kJ)) kJ) kJ) (pv 1)))))),?_⟩
 try dsimp only[qX]
 refine⟨_,rfl,a,_,_,_,rfl,rfl,SqL.of b,at0,_,_,rfl,rfl,_,rfl,?_⟩;refine kJO (λ c=>?_) (λ c=>?_)
 ·refine⟨_,rfl,a,_,_,_,rfl,rfl,SqL.of b,at0,_,rfl,_,_,rfl,rfl,d,?_⟩
  refine⟨_,rfl,a,_,_,_,rfl,rfl,SqL.of b,at0,_,rfl,_,_,rfl,rfl,⟨by omega,j⟩,?_⟩;refine⟨_,rfl,a,_,_,0,rfl,rfl,b,rfl,?_⟩;refine⟨_,rfl,?_⟩;refine q _ _ (Ck _ (by omega)) (BY _ d) kHN ⟨_,_,kA,?_⟩;rw[BJ _ (by omega)];exact Int.ediv_nonneg i (by omega)
 ·refine⟨_,rfl,a,_,_,_,rfl,rfl,SqL.of b,at1,_,_,rfl,rfl,.inr ⟨by decide,by decide⟩,_,_,rfl,rfl,_,_,rfl,rfl,(by show(0:Int)<2147483647;decide),?_⟩
  refine⟨_,rfl,a,_,_,1,rfl,rfl,b,rfl,?_⟩;have p:0<=(y*48271+39373) % 2147483647:=Ck _ (by decide);have u:(y*48271+39373) % 2147483647<2147483647:=BY _ (by decide);refine⟨_,rfl,a,_,_,_,rfl,rfl,SqL.of kA,at1,_,rfl,a,_,_,_,rfl,rfl,SqL.of kA,at1,_,_,rfl,rfl,.inl ⟨?_,?_⟩,_,_,rfl,rfl,(by show(0:Int)<2147483629;decide),_,_,rfl,rfl,⟨by decide,by decide⟩,_,rfl,_,_,rfl,rfl,d,?_⟩
  ·show -(2 ^ 64)<(y*48271+39373) % 2147483647
   omega
  ·show(y*48271+39373) % 2147483647<2 ^ 64
   omega
  ·exact q _ _ (Ck _ (by omega)) (BY _ d) kHN ⟨_,_,kA,i⟩
def keep{H d a:Hp}{p:au}(g:Same H d)(n:H p=none)(b:SameBut p d a):Same H a:=λ c o e=>b c o (kO e n) (g c o e)
def PotAt.kept{H H':Hp}{p:au}(h:PotAt H p)(g:Same H H'):PotAt H' p:=by
 obtain⟨x,y,e,z⟩:=h;exact⟨x,y,g _ _ e,z⟩
def aB{i:Int}(h:i.natAbs<2 ^ 200):i.natAbs<2 ^ 9000:=cw h (Cz (by decide) (by decide))
def PotAt.other{H:Hp}{a l:au}{o:HO}(h:PotAt H a)(n:a≠l):PotAt (upd H l o) a:=by
 obtain⟨x,y,e,z⟩:=h;exact⟨x,y,by rw[kM n];exact e,z⟩
def kTB(s:Nat)(row:List Nat):inV (vn s) (row.map vn)=decide (s∈row):=by
 unfold inV;rw[iQ,EJ,decide_eq_true_iff];constructor
 ·rintro⟨x,b,e⟩
  obtain⟨n,a,rfl⟩:=iJ.mp b;have:((n:Int) == (s:Int))=true:=e
  have:n=s:=by
   have:=eq_of_beq this;omega
  subst this;exact a
 ·intro h
  exact⟨vn s,iJ.mpr ⟨s,h,rfl⟩,(beq_self_eq_true (s:Int))⟩
def kQF(row:List Nat):(row.map vn).all aN=true:=by
 rw[GA,wk];intro x _
 rfl
def kNS(row:List Nat)(q:Nat):((row.map ci).eraseIdx (row.idxOf q)).map V.int=(xB row q).map vn:=by
 unfold xB;rw[xD,vM ci]
def kIQ{L:Rows}{i j:Nat}{r:List Nat}{row:List Nat}(h:L[j]?=some row)(n:i≠j):(L.set i r)[j]?=some row:=by rw[eo n];exact h
inductive kLK(vs:List V)(H:Hp)(Q:VK)(Y:XK):Prop
 | mk:∀(r:au)(A:List au)(L:Rows)(p q:Nat),(vs=[.ref r,vn p,vn q])->(RowsAt H r A L)->(Good L)->(L.length<=150)->(E L p q)->(∀(L':Rows)(H':Hp),ButRows r A H H'->RowsAt H' r A L'->Good L'->L'.length=L.length->Q .non H')->kLK vs H Q Y
def kBR(B:Fx):Hs "_law_flip" ["_law_rows","_law_p","_law_q"] 2 (kLK):=by
 refine qK B.X B.d30 kBC λ f a6 A Y s H vs Q E nN y h=>?_;obtain⟨r,A1,L,p,q,rfl,X,G,hL,hE,k⟩:=h
 refine⟨_,(kE (pst 3 nN (pf (zK B) y (kI (pv 0) (kI (pv 1) (kI (pv 2) kY)))))
   (kE (pst 4 nN (pf (zK B) y (kI (pv 0) (kI (pv 2) (kI (pv 1) kY)))))
   (kL (yE (PW.pt (sO (qN mG (pv 3) (pv 4) (jE _)) (sN (qN vJ (pv 4) (pix qB (pv 0) (pv 3)) rfl)))) (kE (qM (jG Bu Bv pN (pix qB (pv 0) (pv 1)) (p1 (pv 2))))
   (kE (qM (jG Bu Bv pN (pix qB (pv 0) (pv 2)) (p1 (pv 1))))
   (kE (qM (pf (xV B) y (kI (pv 0) (kI (pv 3) (kI (pv 1) (kI (pv 4) kY))))))
   (kL (qM (pf (xV B) y (kI (pv 0) (kI (pv 4) (kI (pv 2) (kI (pv 3) kY)))))))))) jC)))),?_⟩
 try dsimp only[qX]
 obtain⟨d,v,C⟩:=G.sym hE;obtain⟨a,hp,mp⟩:=hE;obtain⟨t,ht⟩:=vH C;obtain⟨u,hu⟩:=vH mp;have f:=zJ (G.nd q d v) C ht;have f':=zJ (G.nd p a hp) mp hu;have Fq:R L q t p:=⟨d,v,f⟩;have Fp:R L p u q:=⟨a,hp,f'⟩;have Ft:=G.tri _ _ _ Fq;have Fu:=G.tri _ _ _ Fp;obtain⟨J,g,nt⟩:=id Ft;obtain⟨ru,j,nu⟩:=id Fu;obtain⟨lq,lt,lp,tq,pq⟩:=wS G Fq;obtain⟨_,lu,_,a5,qp⟩:=wS G Fp;obtain⟨_,_,_,pt,qt⟩:=wS G Ft;obtain⟨_,_,_,qu,pu⟩:=wS G Fu;obtain⟨aX,_,N,a1⟩:=X.at v;refine⟨_,rfl,_,rfl,_,rfl,r,aX,_,p,q,d,t,rfl,.inl ⟨X.top,N⟩,a1,C,ht,?_⟩;obtain⟨aY,_,Z,a2⟩:=X.at hp;refine⟨_,rfl,_,rfl,_,rfl,r,aY,_,q,p,a,u,rfl,.inl ⟨X.top,Z⟩,a2,mp,hu,?_⟩;have stay:=k L H (λ _ _ _ _ h=>h) X G rfl;refine⟨_,rfl,_,rfl,rfl,_,rfl,?_⟩;refine kJO (λ c=>?_) (λ c=>xH stay);have tu:t≠u:=λ z=>by subst z;simp[vn]at c
 obtain⟨at',a7,U,D⟩:=X.at g;refine⟨_,rfl,_,rfl,_,rfl,r,_,_,_,rfl,rfl,SqL.of X.top,D,at',_,rfl,.inl (SqL.of U),rfl,kQF _,_,rfl,?_⟩;rw[kTB];refine kJO (λ c2=>?_) (λ c2=>stay);have ut:u∉J:=λ z=>by simp[z]at c2
 have gd:=kJV G hp v g j f f' tu ut
 obtain⟨I,x,m,T⟩:=X.at hp;refine⟨_,rfl,_,rfl,r,_,_,_,rfl,rfl,SqL.of X.top,T,.inl ⟨rfl,_,SqL.of m⟩,_,rfl,I,a.map ci,q,a.idxOf q,rfl,rfl,(by rw[m,xD]),qO mp,?_⟩;rw[kNS];have M:=X.set x (xB a q);have a3:=kIQ (i:=p) (r:=xB a q) v pq;obtain⟨O,n,l,a4⟩:=M.at a3;refine⟨_,rfl,_,rfl,r,_,_,_,rfl,rfl,SqL.of M.top,a4,.inl ⟨rfl,_,SqL.of l⟩,_,rfl,O,d.map ci,p,d.idxOf p,rfl,rfl,(by rw[l,xD]),qO C,?_⟩;rw[kNS];have X2:=M.set n (xB d p)
 have b2:ButRows r A1 H (upd (upd H I (.lst ((xB a q).map vn))) O (.lst ((xB d p).map vn))):=λ b o h1 h2 h=>by
  rw[kM (λ z=>h2 (by rw[z];exact cv n)),kM (λ z=>h2 (by rw[z];exact cv x))];exact h
 generalize upd (upd H I (.lst ((xB a q).map vn))) O (.lst ((xB d p).map vn))=H2 at *;have a0:=kIQ (i:=q) (r:=xB d p) (kIQ (i:=p) (r:=xB a q) g pt) qt;refine⟨_,rfl,_,rfl,_,rfl,_,rfl,r,A1,_,t,p,u,J,rfl,X2,a0,(kW nt).1,(by have:=dB G g;omega),λ H3 b3 X3=>?_⟩;have S:=kIQ (i:=t) (r:=jQ J p u) (kIQ (i:=q) (r:=xB d p) (kIQ (i:=p) (r:=xB a q) j pu) qu) tu;refine⟨_,rfl,_,rfl,_,rfl,_,rfl,r,A1,_,u,q,t,ru,rfl,X3,S,(kW nu).1,(by have:=dB G j;omega),λ H4 b4 X4=>?_⟩;exact k _ H4 (b2.trans (b3.trans b4)) X4 gd (by simp[zS])
structure Some'(L:Rows):Prop where
 pos:0<L.length
 le:L.length<=150
 ne:∀(p:Nat)(row:List Nat),L[p]?=some row->row≠[]/\row.length<=1000
def RowsAt.but{H H':Hp}{r a:au}{A:List au}{L:Rows}(x:RowsAt H r A L)(h1:a≠r)(f:a∉A)(g:SameBut a H H'):RowsAt H' r A L :=
 ⟨g _ _ h1.symm x.top,x.len,x.nd,x.out,λ i b d c h=>g _ _ (λ z=>f (z ▸ cv c)) (x.row i b d c h)⟩
def kEZ{row:List Nat}{j:Nat}(h:j<row.length):atI (row.map vn) (j:Int)=some (vn row[j]):=jB (by rw[az,ae h];rfl)
inductive kLG(vs:List V)(H:Hp)(Q:VK)(Y:XK):Prop
 | mk:∀(a r:au)(A:List au)(L:Rows),(vs=[.ref a,.ref r])->(PotAt H a)->(RowsAt H r A L)->(a≠r)->(a∉A)->(Some' L)->(∀(t:au)(p q:Nat)(H':Hp),SameBut a H H'->PotAt H' a->H t=none->H' t=some (.tup [vn p,vn q])->E L p q->Q (.ref t) H')->kLG vs H Q Y
def WebAt(H:Hp)(t:au)(W:Rows):Prop:=∃ b:List au,H t=some (.tup (b.map V.ref))/\b.length=W.length/\∀(j:Nat)(a:au)(row:List Nat),b[j]?=some a->W[j]?=some row->H a=some (.tup (row.map vn))
def WebAt.at{H:Hp}{t:au}{W:Rows}(h:WebAt H t W):∃ ts:List au,H t=some (.tup (ts.map V.ref))/\ts.length=W.length/\∀(q:Nat)(row:List Nat),W[q]?=some row->∃ b,atI (ts.map V.ref) (q:Int)=some (.ref b)/\H b=some (.tup (row.map vn)):=by
 obtain⟨ts,h1,a,d⟩:=h;refine⟨ts,h1,a,λ q row e=>?_⟩;have c:q<ts.length:=by rw[a];exact(ak.mp e).1
 exact⟨ts[q],jB (by rw[az,ae c];rfl),d q _ row (ae c) e⟩
def kDU{H:Hp}{a b:au}{o:HO}(hp:PotAt H a)(e:H b=some o)(n:∀ xs,o≠.lst xs):b≠a:=λ z=>by
 obtain⟨x,y,h,_⟩:=hp;rw[z,h]at e;exact n _ (bg e).symm
def WebAt.pot{H H':Hp}{a t:au}{W:Rows}(h:WebAt H t W)(g:SameBut a H H')(hp:PotAt H a):WebAt H' t W:=by
 obtain⟨i,h1,l,c⟩:=h;exact⟨i,g _ _ (kDU hp h1 (by simp)) h1,l,λ j b row f d=>g _ _ (kDU hp (c j b row f d) (by simp)) (c j b row f d)⟩
def WebAt.kept{H H':Hp}{t:au}{W:Rows}(h:WebAt H t W)(g:Same H H'):WebAt H' t W:=by
 obtain⟨c,h1,d,b⟩:=h;exact⟨c,g _ _ h1,d,λ j a row i f=>g _ _ (b j a row i f)⟩
inductive kFI(vs:List V)(H:Hp)(Q:VK)(Y:XK):Prop
 | mk:∀(a r:au)(W:Rows),(vs=[.ref a,.ref r])->(PotAt H a)->(WebAt H r W)->(0<W.length)->(W.length<=150)->((∀(p:Nat)(row:List Nat),W[p]?=some row->row≠[]/\row.length<=1000))->(∀(t:au)(p q:Nat)(H':Hp),SameBut a H H'->PotAt H' a->H t=none->H' t=some (.tup [vn p,vn q])->E W p q->Q (.ref t) H')->kFI vs H Q Y
def kOQ:Sp:=λ a H Q E=>kLG a H Q E\/kFI a H Q E
def uN(B:Fx):Hs "_law_step" ["_law_pot_here","_law_rows"] 2 (kOQ):=by
 refine qK B.X B.d31 kBA λ f a7 A a0 s H vs Q E nN N h=>?_;rcases h with h | h
 ·obtain⟨a,r,A1,L,rfl,M,X,C,n,S,k⟩:=h
  refine⟨_,(kE (pst 2 nN (pf (qE B) N (p2 (pv 0) (kR kP rfl (B.z B.y0) eV (p1 (pv 1))))))
   (kL (kU (qG (p2 (pv 2) (pix qB (pix qB (pv 1) (pv 2)) (pf (qE B) N (p2 (pv 0) (kR kP rfl (B.z B.y0) eV (p1 (pix qB (pv 1) (pv 2)))))))))))),?_⟩
  try dsimp only[qX]
  have lA:((A1.map V.ref).length:Int)=L.length:=by rw[aj,X.len]
  have sp:=S.pos;have sl:=S.le;refine⟨_,rfl,_,rfl,r,_,rfl,.inl (SqL.of X.top),a,_,rfl,M,(by omega),aB (by rw[lA];exact ji (m:=150) (by omega) (by decide)),λ d H1 Y d1 l p1=>?_⟩;rw[lA]at d1;obtain⟨p,rfl⟩:=ow Y;have hp:p<L.length:=by omega
  have O:=X.but C n l;have b:=ae hp;obtain⟨ap,e1,e2,e3⟩:=O.at b;obtain⟨u,U⟩:=S.ne p _ b;have G:0<L[p].length:=vt.mpr u;have D:((L[p].map vn).length:Int)=L[p].length:=by rw[aj]
  refine⟨_,rfl,_,rfl,_,rfl,r,_,_,_,rfl,rfl,SqL.of O.top,e3,_,rfl,_,rfl,_,rfl,r,_,_,_,rfl,rfl,SqL.of O.top,e3,ap,_,rfl,.inl (SqL.of e2),a,_,rfl,p1,(by omega),aB (by rw[D];exact ji (m:=1000) (by omega) (by decide)),λ d' H2 c0 T i p2=>?_⟩;rw[D]at T;obtain⟨j,rfl⟩:=ow c0;have v:j<L[p].length:=by omega
  have X2:=O.but C n i;have a3:ap≠a:=λ z=>n (z ▸ cv e1);refine⟨ap,_,_,_,rfl,rfl,SqL.of (i _ _ a3 e2),kEZ v,yS2,λ t g=>?_⟩;have J:=kC g (.tup [vn p,vn L[p][j]])
  have q:H t=none:=by
   cases e:H t with
   | none=>rfl
   | some o =>
    have Z:t≠a:=λ z=>by
     obtain⟨x,y,w,_⟩:=p2;rw[z,w]at g;cases g
    rw[(l.trans i) t o Z e]at g;cases g
  exact k t p L[p][j] _ (l.trans (i.trans (.of J))) (p2.kept J) q kA ⟨_,b,iO v⟩
 ·obtain⟨a,r,W,rfl,M,hW,w0,w1,wl,k⟩:=h
  refine⟨_,(kE (pst 2 nN (pf (qE B) N (p2 (pv 0) (kR kP rfl (B.z B.y0) eV (p1 (pv 1))))))
   (kL (kU (qG (p2 (pv 2) (pix kZ (pix kZ (pv 1) (pv 2)) (pf (qE B) N (p2 (pv 0) (kR kP rfl (B.z B.y0) eV (p1 (pix kZ (pv 1) (pv 2)))))))))))),?_⟩
  try dsimp only[qX]
  obtain⟨ts,h1,a1,h3⟩:=hW.at;have eL:((ts.map V.ref).length:Int)=(W.length:Int):=by rw[aj,a1]
  refine⟨_,rfl,_,rfl,r,_,rfl,.inr (SqT.of h1),a,_,rfl,M,(by omega),aB (by rw[eL];exact ji (m:=150) (by omega) (by decide)),λ d H1 Y d1 l p1=>?_⟩;rw[eL]at d1;obtain⟨p,rfl⟩:=ow Y;have hp:p<W.length:=by omega
  have W1:=hW.pot l M;obtain⟨a6,I,a5,a2⟩:=W1.at;have b:=ae hp;obtain⟨b1,f1,f2⟩:=a2 p W[p] b;obtain⟨u,U⟩:=wl p _ b;have G:0<W[p].length:=vt.mpr u;have D:((W[p].map vn).length:Int)=W[p].length:=by rw[aj]
  refine⟨_,rfl,_,rfl,_,rfl,r,_,_,_,rfl,rfl,SqT.of I,f1,_,rfl,_,rfl,_,rfl,r,_,_,_,rfl,rfl,SqT.of I,f1,b1,_,rfl,.inr (SqT.of f2),a,_,rfl,p1,(by omega),aB (by rw[D];exact ji (m:=1000) (by omega) (by decide)),λ c H2 c0 T i p2=>?_⟩;rw[D]at T;obtain⟨j,rfl⟩:=ow c0;have v:j<W[p].length:=by omega
  have a4:=i _ _ (kDU p1 f2 (by simp)) f2;refine⟨b1,_,_,_,rfl,rfl,SqT.of a4,kEZ v,yS2,λ t g=>?_⟩;have J:=kC g (.tup [vn p,vn W[p][j]])
  have q:H t=none:=by
   cases e:H t with
   | none=>rfl
   | some o =>
    have Z:t≠a:=λ z=>by
     obtain⟨x,y,w,_⟩:=p2;rw[z,w]at g;cases g
    rw[(l.trans i) t o Z e]at g;cases g
  exact k t p W[p][j] _ (l.trans (i.trans (.of J))) (p2.kept J) q kA ⟨_,b,iO v⟩
def dM{L:Rows}(G:Good L)(h:L.length<=150):Some' L :=
 ⟨by have:=G.three;omega,h,λ p row e=>⟨G.ne p row e,by have:=dB G e;omega⟩⟩
structure New(H:Hp)(a r:au)(A:List au):Prop where
 top:H r=none
 all:∀ x∈A,H x=none
 pot:a≠r/\a∉A
def New.but{H f d:Hp}{a r:au}{A:List au}(n:New H a r A)(s:SameBut a H f)(b:ButRows r A f d):SameBut a H d:=λ c o g e =>
 b c o (kO e n.top) (λ z=>by rw[n.all c z]at e;cases e) (s c o g e)
def PotAt.rows{H H':Hp}{a r:au}{A:List au}(h:PotAt H a)(h1:a≠r)(c:a∉A)(b:ButRows r A H H'):PotAt H' a:=by
 obtain⟨x,y,e,z⟩:=h;exact⟨x,y,b _ _ h1 c e,z⟩
inductive gY(vs:List V)(H:Hp)(Q:VK)(Y:XK):Prop
 | mk:∀(a:au)(n:Nat),(vs=[.ref a,vn n])->(PotAt H a)->(3<=n)->(n<=40)->(∀(r:au)(A:List au)(L:Rows)(H':Hp),SameBut a H H'->PotAt H' a->RowsAt H' r A L->Good L->L.length=n->New H a r A->Q (.ref r) H')->gY vs H Q Y
def kEO{H:Hp}{c d f r:au}(G:H c=none)(A:upd H c (.lst [vn 1,vn 2]) d=none)(u:upd (upd H c (.lst [vn 1,vn 2])) d (.lst [vn 2,vn 0]) f=none)
  (h:upd (upd (upd H c (.lst [vn 1,vn 2])) d (.lst [vn 2,vn 0])) f (.lst [vn 0,vn 1]) r=none) :
  RowsAt (upd (upd (upd (upd H c (.lst [vn 1,vn 2])) d (.lst [vn 2,vn 0])) f (.lst [vn 0,vn 1])) r (.lst [.ref c,.ref d,.ref f])) r [c,d,f] [[1,2],[2,0],[0,1]]/\Same H (upd (upd (upd (upd H c (.lst [vn 1,vn 2])) d (.lst [vn 2,vn 0])) f (.lst [vn 0,vn 1])) r (.lst [.ref c,.ref d,.ref f])):=by
 have C:=kC G (.lst [vn 1,vn 2]);have j:=kC A (.lst [vn 2,vn 0]);have g:=kC u (.lst [vn 0,vn 1]);have m:=kC h (.lst [.ref c,.ref d,.ref f]);have h1:=m _ _ (g _ _ (j _ _ (kA (H:=H) (a:=c) (o:=.lst [vn 1,vn 2]))));have D:=m _ _ (g _ _ (kA (H:=upd H c (.lst [vn 1,vn 2])) (a:=d) (o:=.lst [vn 2,vn 0])));have B:=m _ _ (kA (H:=upd (upd H c (.lst [vn 1,vn 2])) d (.lst [vn 2,vn 0])) (a:=f) (o:=.lst [vn 0,vn 1]));have q:c≠d:=kO (kA (H:=H) (a:=c) (o:=.lst [vn 1,vn 2])) A;have v:c≠f:=kO (j _ _ (kA (H:=H) (a:=c) (o:=.lst [vn 1,vn 2]))) u;have p:d≠f:=kO (kA (H:=upd H c (.lst [vn 1,vn 2])) (a:=d) (o:=.lst [vn 2,vn 0])) u;have x:c≠r:=kO (g _ _ (j _ _ (kA (H:=H) (a:=c) (o:=.lst [vn 1,vn 2])))) h;have n:d≠r:=kO (g _ _ (kA (H:=upd H c (.lst [vn 1,vn 2])) (a:=d) (o:=.lst [vn 2,vn 0]))) h;have s:f≠r:=kO (kA (H:=upd (upd H c (.lst [vn 1,vn 2])) d (.lst [vn 2,vn 0])) (a:=f) (o:=.lst [vn 0,vn 1])) h;refine⟨⟨kA,rfl,?_,?_,λ i b I l y=>?_⟩,C.trans (j.trans (g.trans m))⟩
 ·simp[q,v,p]
 ·simp[x.symm,n.symm,s.symm]
 ·match i with
  | 0=>cases l;cases y;exact h1
  | 1=>cases l;cases y;exact D
  | 2=>cases l;cases y;exact B
  | i+3=>simp at l
def fY(B:Fx):Hs "_law_cornered" ["_law_pot_here","_law_n"] 3 (gY):=by
 refine qK B.X B.d32 fW λ f a6 A a3 s H vs Q E C T h=>?_;obtain⟨a,n,rfl,ha,n3,a7,k⟩:=h
 refine⟨_,(kE (pst 2 C (qU (kI (qU (p2 kJ kJ)) (kI (qU (p2 kJ kJ)) (kI (qU (p2 kJ kJ)) kY)))))
   (kE (uJ (xC rfl (B.z B.y3) (p1 (kX yL (pv 1) kJ))) (pgn 3 C) (kE (yC (pf (uN B) T (p2 (pv 0) (pv 2))) (jK (n:=2) rfl (kT (pgn 4 C) (kT (pgn 5 C) qV))))
   (kL (qM (pf (kEC B) T (kI (pv 2) (kI (pv 4) (kI (pv 5) kY))))))))
   (kE (uJ (xC rfl (B.z B.y3) (p1 (pf (qE B) T (p2 (pv 0) (kX Own.op_mulW kJ (pv 1)))))) (pgn 3 C) (kE (yC (pf (uN B) T (p2 (pv 0) (pv 2))) (jK (n:=2) rfl (kT (pgn 4 C) (kT (pgn 5 C) qV))))
   (kL (qM (pf (kBR B) T (kI (pv 2) (kI (pv 4) (kI (pv 5) kY))))))))
   (kL (kU (pv 2)))))),?_⟩
 try dsimp only[qX]
 refine⟨yS2,λ l1 m1=>⟨yS2,λ N m2=>⟨yS2,λ O m3=>⟨yS3,λ r m4=>?_⟩⟩⟩⟩;obtain⟨X0,g0⟩:=kEO m1 m2 m3 m4;have p0:=ha.kept g0
 have S:New H a r [l1,N,O]:=by
  obtain⟨x,y,j,_⟩:=ha;have g1:=kC m1 (.lst [vn 1,vn 2]);have g2:=kC m2 (.lst [vn 2,vn 0]);have g3:=kC m3 (.lst [vn 0,vn 1]);have f2:=g1.free m2;have f3:=(g1.trans g2).free m3;have f4:=(g1.trans (g2.trans g3)).free m4;refine⟨f4,λ x l=>?_,kO j f4,λ z=>?_⟩
  ·simp at l
   rcases l with rfl | rfl | rfl
   ·exact m1
   ·exact f2
   ·exact f3
  ·simp at z
   rcases z with rfl | rfl | rfl
   ·rw[m1]at j;cases j
   ·rw[f2]at j;cases j
   ·rw[f3]at j;cases j
 generalize a2:upd (upd (upd (upd H l1 (.lst [vn 1,vn 2])) N (.lst [vn 2,vn 0])) O (.lst [vn 0,vn 1])) r (.lst [.ref l1,.ref N,.ref O])=H1 at *;have Y:upd (upd (upd (upd H l1 (.lst [.int 1,.int 2])) N (.lst [.int 2,.int 0])) O (.lst [.int 0,.int 1])) r (.lst [.ref l1,.ref N,.ref O])=H1:=a2;rw[Y]
 refine⟨_,rfl,_,_,rfl,rfl,_,rfl,by omega,by omega,yG (lo:=0) (n:=((n:Int)-3).toNat) (λ i I Z=>∃(x y z:Option V)(A:List au)(L:Rows),I=[some (.ref a),some (vn n),some (.ref r),x,y,z]/\RowsAt Z r A L/\Good L/\L.length=3+i/\SameBut a H Z/\PotAt Z a/\New H a r A)
  ⟨none,none,none,_,_,rfl,X0,kEP,rfl,.of g0,p0,S⟩ ?_ ?_⟩
 ·rintro i I Z hi ⟨x,y,z,u,L,rfl,X,G,hl,s2,p2,c⟩
  have g:L.length<=150:=by omega
  refine⟨_,rfl,_,rfl,.inl ⟨a,r,u,L,rfl,p2,X,c.pot.1,c.pot.2,dM G g,λ t p q H3 M p3 nt ht hE=>?_⟩⟩;have X3:=X.but c.pot.1 c.pot.2 M;refine⟨t,_,rfl,SqT.of ht,rfl,_,_,rfl,_,_,rfl,rfl,?_⟩;refine⟨_,rfl,_,rfl,_,rfl,r,u,L,p,q,rfl,X3,G,g,hE,λ nx L' D l b4 J G' a1=>?_⟩;have U:=c.but (s2.trans M) b4;have p4:=p3.rows c.pot.1 c.pot.2 b4
  have a4:H nx=none:=by
   cases e:H nx with
   | none=>rfl
   | some o =>
    have na:nx≠a:=λ z=>by
     obtain⟨v,w,j,_⟩:=p3;rw[z,j]at l;cases l
    rw[(s2.trans M) nx o na e]at l;cases l
  refine⟨_,_,_,u++[nx],L',rfl,J,G',by omega,U,p4,c.top,λ b hb=>?_,c.pot.1,λ z=>?_⟩
  ·rcases ck.mp hb with w | w
   ·exact c.all b w
   ·rw[bu.mp w];exact a4
  ·rcases ck.mp z with w | w
   ·exact c.pot.2 w
   ·have e:=bu.mp w
    obtain⟨v,w',j,_⟩:=p3;rw[<-e,j]at l;cases l
 ·rintro I Z ⟨x,y,z,u,L,rfl,X,G,hl,s2,p2,c⟩
  have hn:L.length=n:=by omega
  refine⟨_,rfl,_,rfl,_,_,rfl,rfl,⟨aB (by decide),aB (ji (m:=40) (by show((n:Int)).natAbs<=40;omega) (by decide))⟩,a,_,rfl,p2,(by show(0:Int)<2*(n:Int);omega),aB (ji (m:=80) (by show(2*(n:Int)).natAbs<=80;omega) (by decide)),λ d H3 d0 d1 M p3=>?_⟩;have a5:d<2*(n:Int):=d1
  refine⟨d,rfl,by omega,by omega,yG (lo:=0) (n:=d.toNat) (λ i I D=>∃(x y z:Option V)(L:Rows),I=[some (.ref a),some (vn n),some (.ref r),x,y,z]/\RowsAt D r u L/\Good L/\L.length=n/\SameBut a H D/\PotAt D a)
   ⟨_,_,_,L,rfl,X.but c.pot.1 c.pot.2 M,G,hn,s2.trans M,p3⟩ ?_ ?_⟩
  ·rintro i I D hi ⟨x,y,z,L4,rfl,J,G4,a0,U,p4⟩
   have g:L4.length<=150:=by omega
   refine⟨_,rfl,_,rfl,.inl ⟨a,r,u,L4,rfl,p4,J,c.pot.1,c.pot.2,dM G4 g,λ t p q H5 s5 p5 nt ht hE=>?_⟩⟩;have X5:=J.but c.pot.1 c.pot.2 s5;refine⟨t,_,rfl,SqT.of ht,rfl,_,_,rfl,_,_,rfl,rfl,?_⟩;refine⟨_,rfl,_,rfl,_,rfl,r,u,L4,p,q,rfl,X5,G4,g,hE,λ L' H6 b6 X6 G' a1=>?_⟩;exact⟨_,_,_,L',rfl,X6,G',by omega,c.but (U.trans s5) b6,p5.rows c.pot.1 c.pot.2 b6⟩
  ·rintro I D ⟨x,y,z,L4,rfl,J,G4,a0,U,p4⟩
   exact⟨_,rfl,k r u L4 D U p4 J G4 a0 c⟩
inductive kFM(vs:List V)(H:Hp)(Q:VK)(Y:XK):Prop
 | mk:∀(a:au)(n:Nat),(vs=[.ref a,vn n])->(PotAt H a)->(n<=150)->(∀(l:au)(ns:List Nat)(H':Hp),SameBut a H H'->PotAt H' a->H l=none->l≠a->H' l=some (.lst (ns.map vn))->ns.Perm (cq n)->Q (.ref l) H')->kFM vs H Q Y
def kMK{b:List Nat}{i d:Nat}(h:b.Perm (cq i)):(b.take d++i::b.drop d).Perm (cq (i+1)):=by
 rw[BP]
 have e:(b.take d++i::b.drop d).Perm (i::b):=by
  have:=CD (a:=i) (l₁:=b.take d) (l₂:=b.drop d);rw[fk]at this;exact this
 exact e.trans ((List.Perm.cons i h).trans (List.perm_append_singleton i _).symm)
def tH(B:Fx):Hs "_law_names" ["_law_pot_here","_law_n"] 2 (kFM):=by
 refine qK B.X B.d33 rY λ f T A q s H vs Q E L N h=>?_;obtain⟨a,n,rfl,D,Y,k⟩:=h
 refine⟨_,(kE (pst 2 L (qU kY))
   (kE (uJ (xC rfl (B.z B.y3) (p1 (pv 1))) (pgn 3 L) (kL (qM (jG Bs Bt pO (pv 2) (p2 (pf (qE B) N (p2 (pv 0) (kX qY (pv 3) kJ))) (pv 3))))))
   (kL (kU (pv 2))))),?_⟩
 try dsimp only[qX]
 refine⟨yS0,λ l j=>?_⟩
 have u:l≠a:=by
  obtain⟨x,y,z,_⟩:=D;exact(kO z j).symm
 have J:=kC j (.lst [])
 refine⟨_,rfl,(n:Int),rfl,by omega,by omega,yG (lo:=0) (n:=(n:Int).toNat) (λ i r g=>∃(x:Option V)(c:List Nat),r=[some (.ref a),some (vn n),some (.ref l),x]/\g l=some (.lst (c.map vn))/\c.Perm (cq i)/\SameBut a H g/\PotAt g a)
  ⟨none,[],rfl,kA,.nil,.of J,D.kept J⟩ ?_ ?_⟩
 ·rintro i r g hi ⟨x,c,rfl,p,hp,C,p2⟩
  have O:c.length=i:=by rw[hp.length_eq,gv]
  refine⟨_,rfl,.inl ⟨rfl,_,SqL.of p⟩,_,rfl,_,rfl,_,_,rfl,rfl,a,_,rfl,p2,(by omega),aB (ji (m:=151) (by omega) (by decide)),λ d U M Z I S=>?_⟩;have v:=I _ _ u p;refine⟨_,rfl,l,_,_,_,rfl,rfl,v,M,(by omega),(by rw[aj,O];exact kQ (by omega)),?_⟩;refine⟨_,c.take d.toNat++i::c.drop d.toNat,rfl,?_,kMK hp,(λ b o G e=>?_),S.other u.symm⟩
  ·rw[cy,uz,gm,yj,show vn i=V.int (0+(i:Int)) by rw[wz];rfl]
   exact kA
  ·rw[kM (kO e j)]
   exact I b o G (C b o G e)
 ·rintro r g ⟨x,c,rfl,p,hp,C,p2⟩
  exact⟨_,rfl,k l c g C p2 j u p hp⟩
def xZ(xs:List V){k:Nat}(h:k<=xs.length):yA xs (some (k:Int)) none=xs.drop k:=by
 unfold yA;rw[HT.sIx_none,HT.sIx_nat,kq h,ki];rw[iN];exact be _
def vQ(xs:List V){k:Nat}(h:k<=xs.length):yA xs none (some (k:Int))=xs.take k:=by
 unfold yA;rw[HT.sIx_none,HT.sIx_nat,kq h,Cw,CW]
def kOK(L:Rows)(a:List Nat)(W:Rows)(p:Nat):Prop:=∀ row,L[p]?=some row->∃ n M,a[p]?=some n/\M∈row.map (λ q=>a.getD q 0)/\(∀ i∈row.map (λ q=>a.getD q 0),M<=i)/\W[n]?=some (rot (row.map λ q=>a.getD q 0) M)
inductive kQS(vs:List V)(H:Hp)(Q:VK)(Y:XK):Prop
 | mk:∀(r l:au)(A:List au)(L:Rows)(ns:List Nat),(vs=[.ref r,.ref l])->(RowsAt H r A L)->(H l=some (.lst (ns.map vn)))->(ns.Perm (cq L.length))->(Some' L)->((∀(p:Nat)(row:List Nat),L[p]?=some row->∀ x∈row,x<L.length))->(∀(t:au)(W:Rows)(H':Hp),Same H H'->WebAt H' t W->W.length=L.length->(∀ p,p<L.length->kOK L ns W p)->Q (.ref t) H')->kQS vs H Q Y
def kPY{n j:Nat}(h:j<n):ixN n (j:Int)=some j:=by
 unfold ixN;rw[if_pos (by omega),if_pos (by omega),iU]
def qF{H a:Hp}{D:au}{o:HO}(n:H D=none)(g:Same H a):Same H (upd a D o):=λ b u e=>by
 rw[kM (kO e n)];exact g b u e
def kMA(n:Nat)(e:au):(gk n [V.ref e]).flatten=(gk n e).map V.ref:=by
 induction n with
 | zero=>rfl
 | succ n ih=>rw[wc,wc,xi,ih];rfl
end
section
def kLV{n k:Nat}(h:k<=n):HT.sIx n n (some (k:Int))=k:=by rw[HT.sIx_nat,kq h]
end
section
def wH(s:Nat)(row:List Nat):inV (vn s) (row.map vn)=decide (s∈row):=by
 unfold inV;rw[iQ,EJ,decide_eq_true_iff];constructor
 ·rintro⟨y,b,e⟩
  obtain⟨n,a,rfl⟩:=iJ.mp b;have:(n:Int)=s:=by simpa[eqV,vn] using e
  rw[show s=n by omega];exact a
 ·intro h
  exact⟨vn s,iJ.mpr ⟨s,h,rfl⟩,by simp[eqV,vn]⟩
def yZ(row:List Nat):(row.map vn).all aN=true:=by
 rw[wk];intro y a;obtain⟨n,b,rfl⟩:=iJ.mp a
 rfl
inductive oV(vs:List V)(H:Hp)(Q:VK)(Y:XK):Prop
 | mk:∀(t z:au)(W:Rows)(p q:Nat),(vs=[.ref t,.ref z])->(WebAt H t W)->(H z=some (.tup [vn p,vn q]))->(Nb W)->(E W p q)->(∀(y:au)(H':Hp),Same H H'->H y=none->H' y=some (.tup [vn (nxt W (p,q)).1,vn (nxt W (p,q)).2])->Q (.ref y) H')->oV vs H Q Y
def kPB{W:Rows}(S:Nb W){q v p:Nat}(h:R W q v p):∃ row,W[q]?=some row/\p∈row/\xP row p=some v:=by
 obtain⟨row,e,n⟩:=h;exact⟨row,e,(kW n).2,sP (S.nd _ _ e) n⟩
def pL(B:Fx):Hs "behind" ["web","step"] 1 (oV):=by
 refine qK B.X B.d5 kIT λ f D A c s H J Q E d G h=>?_;obtain⟨t,z,W,p,q,rfl,j,o,S,x,k⟩:=h
 refine⟨_,(kE (yC (pv 1) (jK (n:=2) rfl (kT (pgn 2 d) (kT (pgn 3 d) qV))))
   (kE (pst 4 d (pix kZ (pv 0) (pv 3)))
   (kL (kU (qG (p2 (pv 3) (pix kZ (pv 4) (kX yL (kBN zd ze zf dG (pv 4) (p1 (pv 2))) kJ)))))))),?_⟩
 try dsimp only[qX]
 obtain⟨v,u,i,_⟩:=uD S x;obtain⟨row,r,hp,C⟩:=kPB S u;obtain⟨I,h1,_,m⟩:=j.at;obtain⟨b,l,a⟩:=m q row r;rw[i]at k;refine⟨_,rfl,z,_,rfl,SqT.of o,rfl,_,_,rfl,_,_,rfl,rfl,?_⟩;refine⟨_,rfl,_,rfl,t,_,_,_,rfl,rfl,SqT.of h1,l,?_⟩;refine⟨_,rfl,_,rfl,_,rfl,.inr (.inl ⟨rfl,.inr ⟨_,a⟩⟩),_,rfl,b,row.map ci,p,row.idxOf p,rfl,rfl,SqT.of (by rw[a,xD]),qO hp,_,_,rfl,rfl,b,_,_,_,rfl,rfl,SqT.of a,kAC hp C,yS2,λ y g=>?_⟩;exact k y _ (kC g _) g kA
def prD(x y:Nat):CP:=.tuple [.int (x:Int),.int (y:Int)]
def mE(x y:Nat):lj (prD x y)=true:=by
 first | rfl | simp[prD,lj,kl,jg,pe,kg]
def kGK(x y u v:Nat):ig (prD x y) (prD u v)=decide (x=u/\y=v):=by
 have e:∀ i j:Nat,((i:Int) == (j:Int))=decide (i=j):=λ i j=>by
  rw[iQ,beq_iff_eq,decide_eq_true_iff];omega
 simp[prD,ig,iM,e]
def kNV{K:bb}{H:Hp}{z:au}{x y:Nat}(h:H z=some (.tup [vn x,vn y])):Dt K H (prD x y) (.ref z):=by
 unfold prD Dt;exact⟨z,_,rfl,SqT.of h,by simp only[DtAll,Dt];exact⟨_,_,rfl,rfl,_,_,rfl,rfl,rfl⟩⟩
def PairsAt(H:Hp)(s:au)(T:List (Nat×Nat)):Prop:=∃ a:List au,H s=some (.lst (a.map V.ref))/\a.length=T.length/\∀(i:Nat)(b:au)(t:Nat×Nat),a[i]?=some b->T[i]?=some t->H b=some (.tup [vn t.1,vn t.2])
def PairsAt.kept{H H':Hp}{s:au}{T:List (Nat×Nat)}(h:PairsAt H s T)(g:Same H H'):PairsAt H' s T:=by
 obtain⟨f,h1,c,a⟩:=h;exact⟨f,g _ _ h1,c,λ i b t j d=>g _ _ (a i b t j d)⟩
def PairsAt.app{H H':Hp}{s b:au}{a:List au}{T:List (Nat×Nat)}{t:Nat×Nat}(h1:H s=some (.lst (a.map V.ref)))(h:a.length=T.length)(m:∀(i:Nat)(b:au)(t:Nat×Nat),a[i]?=some b->T[i]?=some t->H b=some (.tup [vn t.1,vn t.2]))(g:H b=some (.tup [vn t.1,vn t.2])) :
  PairsAt (upd H s (.lst (a.map V.ref++[.ref b]))) s (T++[t]):=by
 refine⟨a++[b],by rw[cy];exact kA,by simp[h],λ i c u d f=>?_⟩;have j:c≠s->upd H s (.lst (a.map V.ref++[.ref b])) c=H c:=λ z=>kM z;by_cases l:i<a.length
 ·rw[bf l]at d
  rw[bf (by omega)]at f;have:=m i c u d f;rw[j (wW this h1 (by simp))];exact this
 ·have:i=a.length:=by
   have:=(ak.mp d).1;simp at this;omega
  subst this;rw[cu]at d;rw[h,cu]at f;cases d
  cases f
  rw[j (wW g h1 (by simp))];exact g
def orb(W:Rows)(p q k:Nat):List (Nat×Nat):=(cq k).map λ i=>it (nxt W) i (p,q)
def kMO(W:Rows)(p q k:Nat):orb W p q (k+1)=orb W p q k++[it (nxt W) k (p,q)]:=by
 unfold orb;rw[BP,cy]
 rfl
def sV(W:Rows)(p q k:Nat):(orb W p q k).length=k:=by simp[orb]
structure Turns(W:Rows)(p q k:Nat):Prop where
 pos:0<k
 back:it (nxt W) k (p,q)=(p,q)
 first:∀ j,0<j->j<k->it (nxt W) j (p,q)≠(p,q)
 few:k<=(kS W).length
def kKN{W:Rows}(S:Nb W){p q:Nat}(h:E W p q):∃ k,Turns W p q k:=by
 obtain⟨k,h1,a,b,c⟩:=(mM S.nd S.sym).comes (mem_steps.mpr h);exact⟨k,h1,b,c,a⟩
def bH{W:Rows}(S:Nb W)(h:W.length<=42):(kS W).length<=1764:=by
 rw[yV]
 have:∀(L:List (List Nat))(n:Nat),(∀ r∈L,r.length<=n)->(L.map ip).sum<=L.length*n:=λ L n b=>by
  induction L with
  | nil=>simp
  | cons r L ih =>
   have h1:=b r (by simp);have c:=ih λ r a=>b r (by simp[a]);simp only[gm,Ab,iC,Nat.add_mul,Nat.one_mul];omega
 have h1:=this W W.length λ r a=>by
  obtain⟨i,d,rfl⟩:=eZ.mp a;exact S.len (ae d)
 have c:W.length*W.length<=42*42:=Nat.mul_le_mul h h;omega
inductive kAS(vs:List V)(H:Hp)(Q:VK)(Y:XK):Prop
 | mk:∀(w z:au)(W:Rows)(p q:Nat),(vs=[.ref w,.ref z])->(WebAt H w W)->(Nb W)->(W.length<=42)->(H z=some (.tup [vn p,vn q]))->(E W p q)->(∀(s:au)(k:Nat)(H':Hp),Same H H'->Turns W p q k->PairsAt H' s (orb W p q k)->Q (.ref s) H')->kAS vs H Q Y
def lO:Option HO->Nat
 | some (.lst xs)=>xs.length
 | some (.dK kvs)=>kvs.length
 | _=>0
def kUO(b:Nat)(a:St)(H:Hp):Nat:=match a with
 | [_,_,some (.ref s),_]=>b-lO (H s)
 | _=>0
def uL(B:Fx):Hs "steps_round" ["web","step"] 2 (kAS):=by
 refine qK B.X B.d6 lC λ f a4 A O s0 H vs Q E nN N h=>?_;obtain⟨w,z,W,p,q,rfl,hW,S,a1,hz,hE,k⟩:=h
 refine⟨_,(kE (pst 2 nN (qU (p1 (pv 1))))
   (kE (pst 3 nN (pf (pL B) N (p2 (pv 0) (pv 1))))
   (kE (kMI EU (qN (sW N.units) (pv 3) (pv 1) (jE _)) (kE (qM (jG iR iS jW (pv 2) (p1 (pv 3))))
   (kL (pst 3 nN (pf (pL B) N (p2 (pv 0) (pv 3)))))))
   (kL (kU (pv 2)))))),?_⟩
 try dsimp only[qX]
 obtain⟨n,T⟩:=kKN S hE;have D:=bH S a1;have n9:=T.few;refine⟨_,rfl,yS1,λ s ns=>?_⟩;have gs:=kC ns (.lst [.ref z]);refine⟨_,rfl,_,rfl,w,z,W,p,q,rfl,hW.kept gs,gs _ _ hz,S,hE,λ y H1 g1 ny x=>?_⟩;have a2:=g1 _ _ (kA (H:=H) (a:=s) (o:=.lst [.ref z]));have J:=gs.trans g1
 refine kKL (λ U g=>∃(y:au)(i:Nat)(r:List au),U=[some (.ref w),some (.ref z),some (.ref s),some (.ref y)]/\Same H g/\0<i/\i<=n /\
   g s=some (.lst (r.map V.ref))/\r.length=i/\(∀(j:Nat)(b:au)(t:Nat×Nat),r[j]?=some b->(orb W p q i)[j]?=some t->g b=some (.tup [vn t.1,vn t.2]))/\g y=some (.tup [vn (it (nxt W) i (p,q)).1,vn (it (nxt W) i (p,q)).2])) (kUO (n+1))
  ⟨y,1,[z],rfl,J,by omega,T.pos,a2,rfl,(λ j b t I L=>?_),x⟩ ?_ ?_
 ·match j,I with
  | 0,I =>
   cases I
   have:t=(p,q):=by
    have:(orb W p q 1)[0]?=some (p,q):=rfl;rw[this]at L;exact(bg L).symm
   rw[this];exact J _ _ hz
 ·rintro U g ⟨y,i,r,rfl,Y,i0,i1,C,ls,u,x⟩
  have Z:=Y _ _ hz;refine⟨_,rfl,_,rfl,_,prD p q,kNV x,kNV Z,mE _ _,mE _ _,_,rfl,?_⟩;rw[kGK];by_cases c:it (nxt W) i (p,q)=(p,q)
  ·rw[decide_eq_true (by rw[c];exact⟨rfl,rfl⟩)]
   have:i=n:=by
    rcases iV i n with l | l
    ·exact absurd c (T.first i i0 l)
    ·omega
   subst this;exact⟨_,rfl,k s i g Y T ⟨r,C,by rw[sV];exact ls,u⟩⟩
  ·rw[decide_eq_false (λ z=>c (wb z.1 z.2))]
   have lt:i<n:=by
    rcases iV i n with l | l
    ·exact l
    ·exact absurd (by rw[show i=n by omega];exact T.back) c
   refine⟨_,rfl,.inl ⟨rfl,_,SqL.of C⟩,_,rfl,s,_,_,rfl,rfl,C,(by rw[aj];exact xJ (by omega)),?_⟩;have A1:=PairsAt.app (H':=g) C (by rw[sV];exact ls) u (t:=it (nxt W) i (p,q)) x;rw[<-kMO]at A1;have gu:Same H (upd g s (.lst (r.map V.ref++[V.ref y]))):=qF ns Y;have sy:y≠s:=wW x C (by simp);have M:upd g s (.lst (r.map V.ref++[V.ref y])) y=some (.tup [vn (it (nxt W) i (p,q)).1,vn (it (nxt W) i (p,q)).2]):=by rw[kM sy];exact x
   generalize upd g s (.lst (r.map V.ref++[V.ref y]))=H3 at *;refine⟨_,rfl,_,rfl,w,y,W,_,_,rfl,hW.kept gu,M,S,kGW S hE i,λ y' H4 g4 a3 a0=>?_⟩;obtain⟨G,b1,b2,b3⟩:=A1.kept g4;rw[sV]at b2;refine⟨⟨y',i+1,G,rfl,gu.trans g4,by omega,lt,b1,b2,b3,a0⟩,?_⟩;show n+1-lO (H4 s)<n+1-lO (g s);rw[b1,C];show n+1-(G.map V.ref).length<n+1-(r.map V.ref).length;rw[aj,aj,b2,ls];clear u b3 D;omega
 ·rintro U H1 Q1 Q2 m ⟨v,I,v2,L,d,e,h1,h2,h3,h4,kk,e5,q1⟩
  exact⟨v,I,v2,L,d,e,h1,h2,h3,h4,kk,e5,m _ _ q1⟩
end
section
end
section
theorem kCO{H:Hp}:∀{a:List au}{T:List (Nat×Nat)},a.length=T.length->(∀(i:Nat)(b:au)(t:Nat×Nat),a[i]?=some b->T[i]?=some t->H b=some (.tup [vn t.1,vn t.2]))->DtAll K H (T.map λ t=>prD t.1 t.2) (a.map V.ref)
 | [],[],_,_=>by unfold DtAll;rfl
 | s::a,t::T,hl,h=>by
  rw[gm,gm];unfold DtAll;exact⟨_,_,rfl,kNV (h 0 s t rfl rfl),kCO (by simpa using hl) λ i b u d c=>h (i+1) b u (by simpa using d) (by simpa using c)⟩
 | [],_::_,hl,_=>by simp at hl
 | _::_,[],hl,_=>by simp at hl
end
section
end
section
end
section
def kND(l:List Nat):iM (l.map λ n:Nat=>jw (n:Int)) (l.map λ n:Nat=>jw (n:Int))=true:=by
 induction l with
 | nil=>rfl
 | cons x l ih=>simp[iM,ig,ih]
def kHF{H:Hp}(row:List Nat):DtAll K H (row.map λ n:Nat=>jw (n:Int)) (row.map vn):=by
 induction row with
 | nil=>unfold DtAll;rfl
 | cons x r ih =>
  rw[gm,gm];unfold DtAll;exact⟨_,_,rfl,(by unfold Dt;rfl),ih⟩
end
section
end
section
end
section
end
section
end
section
def kEA(B:Fx):Hs "_law_web" ["_law_rows","_law_names_here"] 1 (kQS):=by
 refine qK B.X B.d34 kDM λ f b6 A ax s H vs Q E nN hr h=>?_;obtain⟨r,l,A1,L,d,rfl,X,hl,hp,S,b4,k⟩:=h
 refine⟨_,(kE (pst 2 nN (kX kSJ (qU (p1 (qG kY))) (kR kP rfl (B.z B.y0) eV (p1 (pv 0)))))
   (kE (uJ (kGM true rfl (B.z B.y4) (p1 (pv 0))) (jK (n:=2) rfl (kT (pgn 3 nN) (kT (pgn 4 nN) qV))) (kE (uU (i:=5) (Nc:=["_law_q","_law_names_here"]) (js:=[none,some 1]) rfl rfl nN rfl (xw rfl) (jP (pv 4)) (CS.of rfl rfl) rfl (λ C a3 a6 fp ab=>(pgc 0)) (λ C a3 a6 fp ab D L=>(qT (jL (pix (show IxR _ (kSA K) from qB) (pv 1) (pv 0))))))
   (kE (pst 6 nN (jG jb jc yN (pv 5) (p1 (kR (kKD rfl) rfl (B.z B.y5) GF (p1 (pv 5))))))
   (kL (yC (jD qR rfl (B.z B.y6) fu (p1 (kX vK (qD xE (pv 5) (qC (pv 6)) jA) (qD xE (pv 5) jA (qC (pv 6)))))) (kDW (pv 2) (pix qB (pv 1) (pv 3)) hJ))))))
   (kL (kU (jD qR rfl (B.z B.y6) fu (p1 (pv 2))))))),?_⟩
 try dsimp only[qX]
 have ap:d.length=L.length:=by rw[hp.length_eq,gv]
 have b1:∀{j:Nat}{n:Nat},d[j]?=some n->n<L.length:=λ{j n} e=>jt.mp (hp.mem_iff.mp (cv e));have al:d.Nodup:=hp.nodup_iff.mpr sh;have lA:((A1.map V.ref).length:Int)=L.length:=by rw[aj,X.len]
 have b5:=S.le;refine⟨yS0,λ e ne=>⟨yS1,λ l1 n1=>?_⟩⟩;have g1:=(kC ne (.tup [])).trans (kC n1 (.lst [.ref e]));have he:=(kC n1 (.lst [.ref e])) _ _ (kA (H:=H) (a:=e) (o:=.tup []));have ag:=kA (H:=upd H e (.tup [])) (a:=l1) (o:=.lst [.ref e]);generalize upd (upd H e (.tup [])) l1 (.lst [.ref e])=H1 at *;refine⟨_,rfl,r,_,rfl,.inl (SqL.of (g1 _ _ X.top)),l1,_,_,rfl,rfl,ag,(by omega),(by omega),(by rw[lA];exact fv (kQ (by simp;omega))),λ f nf=>?_⟩;rw[lA,iU,kMA];have gf:=kC nf (.lst ((gk L.length e).map V.ref));have g2:=g1.trans gf;have am:=gf _ _ he;have aq:=kA (H:=H1) (a:=f) (o:=.lst ((gk L.length e).map V.ref));generalize upd H1 f (.lst ((gk L.length e).map V.ref))=H2 at *
 refine⟨_,rfl,r,rfl,⟨_,SqL.of (g2 _ _ X.top)⟩,kNP (k:=true) (xs:=A1.map V.ref) (λ i J O=>∃(x3 x4 x5 x6:Option V)(u:List au)(W:Rows),J=[some (.ref r),some (.ref l),some (.ref f),x3,x4,x5,x6]/\O f=some (.lst (u.map V.ref))/\u.length=L.length/\W.length=L.length /\
   (∀(j:Nat)(a:au)(row:List Nat),u[j]?=some a->W[j]?=some row->O a=some (.tup (row.map vn)))/\(∀ p,p<i->kOK L d W p)/\Same H O/\H f=none)
  ⟨none,none,none,none,gk L.length e,gk L.length [],rfl,aq,ub,ub,(λ j a row e1 e2=>?_),(λ p aw=>by omega),g2,g1.free nf⟩ ?_ ?_ ?_⟩
 ·have a1:=(DU.mp (cv e1)).2
  have a2:=(DU.mp (cv e2)).2;subst a1 a2;exact am
 ·rintro i J O _ ⟨x3,x4,x5,x6,u,W,rfl,hf,lt,lW,G,hW,g3,v⟩
  exact SqL.of (g3 _ _ X.top)
 ·rintro i x T J O hx nT ⟨x3,x4,x5,x6,u,W,rfl,hf,lt,lW,G,hW,g3,v⟩
  rw[az]at hx;obtain⟨a,ea,rfl⟩:=bh.mp hx;have hi:i<L.length:=by rw[<-X.len];exact(ak.mp ea).1
  have g:=ae hi;have a9:=X.row i a _ ea g;obtain⟨as,b7⟩:=S.ne i _ g;have rb:=b4 i _ g;have gT:=g3.trans (kC nT (.tup [.int i,.ref a]));have af:=(kC nT (.tup [.int i,.ref a])) _ _ hf;have a7:∀(j:Nat)(b:au)(row:List Nat),u[j]?=some b->W[j]?=some row->upd O T (.tup [.int i,.ref a]) b=some (.tup (row.map vn)):=λ j b row w1 w2=>(kC nT (.tup [.int i,.ref a])) _ _ (G j b row w1 w2);refine⟨T,_,rfl,SqT.of kA,rfl,_,_,rfl,_,_,rfl,rfl,?_⟩;generalize upd O T (.tup [.int i,.ref a])=H4 at *
  generalize b8:L[i]=row at *
  refine⟨_,rfl,a,rfl,⟨_,SqL.of (gT _ _ a9)⟩,λ D nD=>?_⟩;refine jI (xs:=row.map vn) (λ j J Z=>∃ x:Option V,J=[x,some (.ref l)]/\Z D=some (.lst (((row.take j).map λ q=>d.getD q 0).map vn))/\Same H4 Z) ⟨none,rfl,kA,kC nD _⟩ ?_ ?_ ?_
  ·rintro j J Z _ ⟨x,rfl,I,N⟩
   exact SqL.of (N _ _ (gT _ _ a9))
  ·rintro j x J Z hx ⟨y,rfl,I,N⟩
   rw[az]at hx;obtain⟨q,eq,rfl⟩:=bh.mp hx;have hj:j<row.length:=(ak.mp eq).1;have hq:q<d.length:=by rw[ap];exact rb q (cv eq)
   refine⟨_,rfl,_,rfl,l,_,_,_,rfl,rfl,SqL.of (N _ _ (gT _ _ hl)),kEZ hq,_,I,(by rw[aj,aj,cx];exact kQ (by omega)),?_⟩;refine⟨_,rfl,?_,qF nD N⟩;rw[iL,eq];simp only[iw,cy,gm,BB];rw[show d.getD q 0=d[q] by simp[av,hq]];exact kA
  ·rintro J Z ⟨x,rfl,I,N⟩
   rw[aj,gn]at I;generalize hc:(row.map λ q=>d.getD q 0)=c at *;have b0:c.length=row.length:=by rw[<-hc,aj]
   have a4:0<c.length:=by rw[b0];exact vt.mpr as
   refine⟨_,rfl,.inl ⟨rfl,_,SqL.of I⟩,_,rfl,D,c.map ci,rfl,SqL.of (by rw[I,xD]),(by rw[aj];exact a4),λ M hM an=>?_⟩;obtain⟨m,hm,rfl⟩:=iJ.mp hM
   have b3:∀ j∈c,m<=j:=λ j hj=>by
    have:=an (ci j) (iJ.mpr ⟨j,hj,rfl⟩);simp only[ci]at this;omega
   have il:=fq hm
   refine⟨D,c.map ci,m,c.idxOf m,rfl,rfl,(by rw[I,xD]),qO hm,?_⟩
   have lv:(c.map vn).length=c.length:=aj _;refine⟨_,rfl,_,rfl,_,rfl,D,_,rfl,SqL.of I,λ p1 m1=>?_⟩;rw[xZ _ (by rw[lv];omega)];have h1:=kC m1 (.lst ((c.map vn).drop (c.idxOf m)));refine⟨_,rfl,_,rfl,_,rfl,D,_,rfl,SqL.of (h1 _ _ I),λ p2 m2=>?_⟩;rw[vQ _ (by rw[lv];omega)];have h2:=kC m2 (.lst ((c.map vn).take (c.idxOf m)));refine⟨p1,p2,_,_,rfl,rfl,h2 _ _ kA,kA,(by rw[iN,cx,lv];exact fv (kQ (by omega))),λ p3 m3=>?_⟩;have h3:=kC m3 (.lst ((c.map vn).drop (c.idxOf m)++(c.map vn).take (c.idxOf m)));refine⟨p3,_,rfl,.inl ⟨SqL.of kA,λ t m4=>?_⟩⟩;have h4:=kC m4 (.tup ((c.map vn).drop (c.idxOf m)++(c.map vn).take (c.idxOf m)));have er:(c.map vn).drop (c.idxOf m)++(c.map vn).take (c.idxOf m)=(rot c m).map vn:=by unfold rot;rw[cy,yj,uz]
   have hh:=h1.trans (h2.trans (h3.trans h4));have ht:upd (upd (upd (upd Z p1 (.lst ((c.map vn).drop (c.idxOf m)))) p2 (.lst ((c.map vn).take (c.idxOf m)))) p3 (.lst ((c.map vn).drop (c.idxOf m)++(c.map vn).take (c.idxOf m)))) t (.tup ((c.map vn).drop (c.idxOf m)++(c.map vn).take (c.idxOf m))) t=some (.tup ((rot c m).map vn)):=by rw[<-er];exact kA
   generalize upd (upd (upd (upd Z p1 (.lst ((c.map vn).drop (c.idxOf m)))) p2 (.lst ((c.map vn).take (c.idxOf m)))) p3 (.lst ((c.map vn).drop (c.idxOf m)++(c.map vn).take (c.idxOf m)))) t (.tup ((c.map vn).drop (c.idxOf m)++(c.map vn).take (c.idxOf m)))=H6 at *;have g6:=gT.trans (N.trans hh);have Y:=hh _ _ (N _ _ af);have a8:i<d.length:=by omega
   have U:=ae a8;have ah:=b1 U;refine⟨_,rfl,_,rfl,_,rfl,l,_,_,_,rfl,rfl,SqL.of (g6 _ _ hl),kEZ a8,f,_,_,d[i],rfl,rfl,Y,kPY (by rw[aj,lt];exact ah),?_⟩;refine⟨_,_,_,_,u.set d[i] t,W.set d[i] (rot c m),rfl,(by rw[List.map_set];exact kA),(by rw[Am];exact lt),(by rw[Am];exact lW),(λ j b ac e1 e2=>?_),(λ p aw=>?_),qF v g6,v⟩
   ·have bt:b≠f->upd H6 f (.lst ((u.map V.ref).set d[i] (.ref t))) b=H6 b:=λ z=>kM z
    by_cases ej:d[i]=j
    ·subst ej
     rw[jx (by omega)]at e1;rw[jx (by omega)]at e2;cases e1
     cases e2
     rw[bt (wW ht Y (by intro z;cases z))];exact ht
    ·rw[eo ej]at e1 e2
     have hb:=hh _ _ (N _ _ (a7 j b ac e1 e2));rw[bt (wW hb Y (by intro z;cases z))];exact hb
   ·intro a0 aa
    by_cases a5:p=i
    ·subst a5
     have e0:=g.symm.trans aa;cases e0
     refine⟨d[p],m,U,(by rw[hc];exact hm),(λ j hj=>b3 j (by rw[hc]at hj;exact hj)),?_⟩;rw[hc,jx (by omega)]
    ·obtain⟨n',M',w1,w2,w3,w4⟩:=hW p (by omega) a0 aa
     refine⟨n',M',w1,w2,w3,?_⟩
     have:d[i]≠n':=λ z=>by
      have b2:=(ak.mp w1).1;have:=(xp b2 al).mp (w1.trans (by rw[<-z];exact U.symm));exact a5 this
     rw[eo this];exact w4
 ·rintro J O ⟨x3,x4,x5,x6,u,W,rfl,hf,lt,lW,G,hW,g3,v⟩
  rw[aj,X.len]at hW;refine⟨_,rfl,f,_,rfl,.inl ⟨SqL.of hf,λ t nt=>?_⟩⟩;have gt:=kC nt (.tup (u.map V.ref));exact k t W _ (g3.trans gt) ⟨u,kA,by omega,λ j b row w1 w2=>gt _ _ (G j b row w1 w2)⟩ lW hW
def kJE{L W:Rows}{a:List Nat}(hp:a.Perm (cq L.length))(c:W.length=L.length)(h:∀ p,p<L.length->kOK L a W p):Ren L W a:=⟨hp,c,λ p row e=>by
 obtain⟨n,M,h1,_,_,b⟩:=h p (ak.mp e).1 row e;exact⟨n,(row.map λ q=>a.getD q 0).take ((row.map λ q=>a.getD q 0).idxOf M),(row.map λ q=>a.getD q 0).drop ((row.map λ q=>a.getD q 0).idxOf M),h1,(fk _ _).symm,b⟩⟩
end
section
def prZ(t:Nat×Nat):List Int:=[(t.1:Int),(t.2:Int)]
def kDK{H:Hp}{s:au}{T:List (Nat×Nat)}(h:PairsAt H s T):∃ ps:List (au×List Int),H s=some (.lst (ps.map λ q=>V.ref q.1))/\kQM H ps /\
  ∀(l:au)(c:List (au×List Int)),H l=none->c.Perm ps->c.Pairwise (λ a b=>Srt.lexLt b.2 a.2=false)->PairsAt (upd H l (.lst (c.map λ q=>V.ref q.1))) l (Fc.sortP T):=by
 obtain⟨j,h1,S,J⟩:=h
 have f:(j.zip (T.map prZ)).map (λ q=>V.ref q.1)=j.map V.ref:=by
  rw[show(λ q:au×List Int=>V.ref q.1)=V.ref∘Cu from rfl,<-vw,CI (by rw[aj];omega)]
 have mem:∀ q∈j.zip (T.map prZ),∃ t:Nat×Nat,q.2=prZ t/\H q.1=some (.tup [vn t.1,vn t.2]):=λ q r=>by
  obtain⟨i,y,rfl⟩:=eZ.mp r;rw[AZ,aj]at y;refine⟨T[i]'(by omega),by simp,?_⟩;have:=J i (j[i]'(by omega)) (T[i]'(by omega)) (ae _) (ae _);simpa using this
 refine⟨j.zip (T.map prZ),by rw[f];exact h1,λ q r=>?_,λ l c I B O=>?_⟩
 ·obtain⟨t,e,n⟩:=mem q r
  rw[e];exact⟨n,by simp[prZ]⟩
 ·have back:∃ g:List (Nat×Nat),c.map (·.2)=g.map prZ/\g.Perm T:=by
   have Q:(c.map (·.2)).Perm (T.map prZ):=by
    have:=B.map (λ q:au×List Int=>q.2);rwa[AW (by rw[aj];omega)]at this
   obtain⟨m,a,b⟩:=Srt.perm_back Q rfl;exact⟨m,b,a⟩
  obtain⟨g,p,G⟩:=back
  have v:g.Pairwise (λ a b=>Fc.leP a b=true):=by
   have x:(c.map (·.2)).Pairwise (λ a b=>Srt.lexLt b a=false):=md.mpr O;rw[p]at x;refine(md.mp x).imp λ{a b} M=>?_;rw[<-Fc.leP_leL,Fc.leL_iff];exact M
  have A:=Fc.sortP_is G v
  have D:c.length=g.length:=by
   have:=congrArg ip p;simpa using this
  refine⟨c.map (·.1),by rw[vw];exact kA,by rw[<-A,aj,D],λ i b t f o=>?_⟩;rw[<-A]at o;have y:=(ak.mp o).1;have d:i<c.length:=by omega
  rw[az,ae d]at f;have f:c[i].1=b:=bg f
  have u:c[i].2=prZ t:=by
   have:=congrArg (λ l=>l[i]?) p;rw[az,az,o,ae d]at this;exact bg this
  obtain⟨L,N,n⟩:=mem c[i] (B.mem_iff.mp (iO d))
  have C:L=t:=by
   rw[N]at u;unfold prZ at u;injection u with z1 z2
   injection z2 with z2 _
   exact wb (by omega) (by omega)
  rw[<-f,kM (kO n I),n,C]
inductive kFH(vs:List V)(H:Hp)(Q:VK)(Y:XK):Prop
 | mk:∀(t:au)(W:Rows),(vs=[.ref t])->(WebAt H t W)->(Nb W)->(W.length<=42)->(∀(s:au)(H':Hp),Same H H'->H s=none->PairsAt H' s (Fc.stepsS W)->Q (.ref s) H')->kFH vs H Q Y
def kDI(W:Rows)(i:Nat)(hi:i<W.length):kS (W.take (i+1))=kS (W.take i)++(W[i].map λ q=>(i,q)):=by
 unfold kS;rw[cx,cx,kq (by omega),kq (by omega),BP,kb]
 congr 1
 ·rw[EK,EK]
  congr 1
  refine yi λ p hp=>?_;have:=jt.mp hp;simp only[av];rw[qk (by omega),qk (by omega)]
 ·rw[qw]
  simp only[av];rw[qk (by omega),ae hi]
  rfl
def Nb.take_len{W:Rows}(S:Nb W)(h:W.length<=42)(i:Nat):(kS (W.take i)).length<=1764:=by
 have a:=bH S h
 have:(kS (W.take i)).length<=(kS W).length:=by
  rw[yV,yV]
  conv=>rhs;rw[<-fk i W]
  rw[cy,EV];omega
 omega
def fK(B:Fx):Hs "steps_of" ["web"] 1 (kFH):=by
 refine qK B.X B.d3 kAY λ f a3 A a0 s0 H vs Q E nN hr h=>?_;obtain⟨t,W,rfl,hW,S,a2,k⟩:=h;refine⟨_,(kL (kU (kR bC rfl (B.z B.y7) vk (p1 (sU (Nc:=["p","row","q"]) (js:=[none,none,none]) rfl rfl (kGM false rfl (B.z B.y4) (p1 (pv 0))) (CS.of rfl rfl) rfl (λ C c d fp g=>(show PG _ _ (mZ K 2 _) from jK rfl (kT (pgc 0) (kT (pgc 1) qV)))) (λ C c d fp g=>(show PI _ _ _ (kUV K _) from(yR (pv 1)))) (λ C c d fp g=>(pgc 2)) (λ C c d fp g D L=>(qT (jL (qG (p2 (pv 0) (pv 2))))))))))),?_⟩
 try dsimp only[qX]
 obtain⟨ts,h1,y,h3⟩:=id hW;refine⟨_,rfl,t,rfl,⟨_,SqT.of h1⟩,λ D nD=>?_⟩
 refine kIE (k:=false) (xs:=ts.map V.ref) (λ i n u=>∃(O M m:Option V),n=[O,M,m]/\Same H u/\PairsAt u D (kS (W.take i)))
  ⟨none,none,none,rfl,kC nD _,⟨[],kA,rfl,λ i b t e=>by simp at e⟩⟩ ?_ ?_ ?_
 ·rintro i n u _ ⟨O,M,m,rfl,s,_⟩
  exact SqT.of (s _ _ h1)
 ·rintro i x T n u hx nT ⟨O,M,m,rfl,s,N⟩
  rw[az]at hx;obtain⟨a,ea,rfl⟩:=bh.mp hx;have Y:i<W.length:=by rw[<-y];exact(ak.mp ea).1
  have J:=h3 i a _ ea (ae Y);have rl:=S.len (ae Y);have gT:=kC nT (.tup [.int i,.ref a]);refine⟨T,_,rfl,SqT.of kA,rfl,_,_,rfl,_,_,rfl,rfl,?_⟩;have g3:=s.trans gT;have a1:=N.kept gT;generalize upd u T (.tup [.int i,.ref a])=H3 at *;refine⟨_,rfl,a,rfl,⟨_,SqT.of (g3 _ _ J)⟩,?_⟩;refine xR (xs:=W[i].map vn) (λ j n r=>∃(m:Option V),n=[some (vn i),some (.ref a),m]/\Same H r/\PairsAt r D (kS (W.take i)++((W[i].take j).map λ q=>(i,q)))) ⟨m,rfl,g3,by simpa using a1⟩ ?_ ?_ ?_
  ·rintro j n r _ ⟨m,rfl,I,_⟩
   exact SqT.of (I _ _ J)
  ·rintro j v n r hv ⟨m,rfl,I,p⟩
   rw[az]at hv;obtain⟨q,G,rfl⟩:=bh.mp hv;have hj:=(ak.mp G).1;refine⟨_,rfl,_,rfl,yS2,λ b nb=>?_⟩;have gb:=kC nb (.tup [vn i,vn q]);have hb:=kA (H:=r) (a:=b) (o:=.tup [vn i,vn q]);have Z:=p.kept gb;have g5:=I.trans gb;refine(λ(z:upd r b (.tup [vn i,vn q]) b=some (.tup [vn i,vn q]))=>?_) hb;generalize upd r b (.tup [vn i,vn q])=H5 at *;obtain⟨ss,c1,c2,c3⟩:=id Z;have l1:=Nb.take_len S a2 i
   have l2:ss.length<=1764+42:=by
    rw[c2,bj,aj,cx];omega
   refine⟨_,c1,(by rw[aj];exact xJ (by omega)),?_⟩;have A1:=PairsAt.app (H':=H5) c1 c2 c3 (t:=(i,q)) z;refine⟨_,rfl,qF nD g5,?_⟩;have tk:(W[i].take (j+1)).map (λ q=>(i,q))=(W[i].take j).map (λ q=>(i,q))++[(i,q)]:=by rw[iL,G,cy];rfl
   rw[tk,<-dh];exact A1
  ·rintro n r ⟨m,rfl,I,p⟩
   rw[aj,gn]at p;exact⟨_,_,_,rfl,I,by rw[kDI W i Y];exact p⟩
 ·rintro n u ⟨O,M,m,rfl,s,N⟩
  rw[aj,y,gn]at N;obtain⟨ps,e1,e2,e3⟩:=kDK N;refine⟨D,ps,rfl,.inl (SqL.of e1),e2,λ l U nl pm sr=>?_⟩;exact k l _ (s.trans (kC nl _)) (s.free nl) (e3 l U nl pm sr)
end
section
def RowsT(H:Hp)(s:au)(T:List (List Nat)):Prop:=∃ a:List au,H s=some (.lst (a.map V.ref))/\a.length=T.length/\∀(i:Nat)(b:au)(t:List Nat),a[i]?=some b->T[i]?=some t->H b=some (.tup (t.map vn))
def RowsT.app{H:Hp}{s b:au}{a:List au}{T:List (List Nat)}{t:List Nat}(h1:H s=some (.lst (a.map V.ref)))(h:a.length=T.length)(m:∀(i:Nat)(b:au)(t:List Nat),a[i]?=some b->T[i]?=some t->H b=some (.tup (t.map vn)))(g:H b=some (.tup (t.map vn))) :
  RowsT (upd H s (.lst (a.map V.ref++[.ref b]))) s (T++[t]):=by
 refine⟨a++[b],by rw[cy];exact kA,by simp[h],λ i c u d f=>?_⟩;have j:c≠s->upd H s (.lst (a.map V.ref++[.ref b])) c=H c:=λ z=>kM z;rcases iV i a.length with l | l
 ·rw[bf l]at d
  rw[bf (by omega)]at f;have:=m i c u d f;rw[j (wW this h1 (by simp))];exact this
 ·obtain rfl:i=a.length:=by
   have:=(ak.mp d).1;simp at this;omega
  rw[cu]at d;rw[h,cu]at f;cases d
  cases f
  rw[j (wW g h1 (by simp))];exact g
def kIN{H:Hp}{s:au}{T:List (List Nat)}(h:RowsT H s T)(p:∀ t∈T,t≠[]):∃ ps:List (au×List Int),H s=some (.lst (ps.map λ q=>V.ref q.1))/\kQM H ps /\
  ∀(l:au)(c:List (au×List Int)),H l=none->c.Perm ps->c.Pairwise (λ a b=>Srt.lexLt b.2 a.2=false)->RowsT (upd H l (.lst (c.map λ q=>V.ref q.1))) l (Fc.sortL T):=by
 obtain⟨j,h1,X,M⟩:=h
 have f:(j.zip (T.map Fc.zl)).map (λ q=>V.ref q.1)=j.map V.ref:=by
  rw[show(λ q:au×List Int=>V.ref q.1)=V.ref∘Cu from rfl,<-vw,CI (by rw[aj];omega)]
 have J:∀ t:List Nat,(Fc.zl t).map V.int=t.map vn:=λ t=>by unfold Fc.zl;rw[vw];rfl
 have mem:∀ q∈j.zip (T.map Fc.zl),∃ t:List Nat,t∈T/\q.2=Fc.zl t/\H q.1=some (.tup (t.map vn)):=λ q u=>by
  obtain⟨i,y,rfl⟩:=eZ.mp u;rw[AZ,aj]at y;refine⟨T[i]'(by omega),iO _,by simp,?_⟩;have:=M i (j[i]'(by omega)) (T[i]'(by omega)) (ae _) (ae _);simpa using this
 refine⟨j.zip (T.map Fc.zl),by rw[f];exact h1,λ q u=>?_,λ l c L C S=>?_⟩
 ·obtain⟨t,m,e,n⟩:=mem q u
  rw[e,J];refine⟨n,λ z=>p t m ?_⟩;unfold Fc.zl at z;exact DH.mp z
 ·have back:∃ g:List (List Nat),c.map (·.2)=g.map Fc.zl/\g.Perm T:=by
   have U:(c.map (·.2)).Perm (T.map Fc.zl):=by
    have:=C.map (λ q:au×List Int=>q.2);rwa[AW (by rw[aj];omega)]at this
   obtain⟨m,a,b⟩:=Srt.perm_back U rfl;exact⟨m,b,a⟩
  obtain⟨g,r,I⟩:=back
  have v:g.Pairwise (λ a b=>Fc.leL a b=true):=by
   have x:(c.map (·.2)).Pairwise (λ a b=>Srt.lexLt b a=false):=md.mpr S;rw[r]at x;refine(md.mp x).imp λ{a b} O=>?_;rw[Fc.leL_iff];exact O
  have B:=Fc.sortL_is I v
  have G:c.length=g.length:=by
   have:=congrArg ip r;simpa using this
  refine⟨c.map (·.1),by rw[vw];exact kA,by rw[<-B,aj,G],λ i b t f o=>?_⟩;rw[<-B]at o;have y:=(ak.mp o).1;have d:i<c.length:=by omega
  rw[az,ae d]at f;have f:c[i].1=b:=bg f
  have A:c[i].2=Fc.zl t:=by
   have:=congrArg (λ l=>l[i]?) r;rw[az,az,o,ae d]at this;exact bg this
  obtain⟨N,m,Q,n⟩:=mem c[i] (C.mem_iff.mp (iO d))
  have D:N=t:=by
   rw[Q]at A;exact Fc.zl_inj A
  rw[<-f,kM (kO n L),n,D]
inductive kLF(vs:List V)(H:Hp)(Q:VK)(Y:XK):Prop
 | mk:∀(t:au)(W:Rows),(vs=[.ref t])->(WebAt H t W)->(Nb W)->(W.length<=42)->(∀(s:au)(H':Hp),Same H H'->H s=none->PairsAt H' s (Fc.tiesS W)->Q (.ref s) H')->kLF vs H Q Y
def gR{W:Rows}(S:Nb W)(h:W.length<=42):(Fc.stepsS W).length<=1764:=by
 have:=bH S h;rw[show(Fc.stepsS W).length=(kS W).length from(Fc.sortP_perm _).length_eq];exact this
def kPL(B:Fx):Hs "ties" ["web"] 2 (kLF):=by
 refine qK B.X B.d4 kOU λ f a0 A G s0 H vs Q E nN hr h=>?_;obtain⟨t,W,rfl,hW,S,n,k⟩:=h;refine⟨_,(kL (kU (xG (Nc:=["p","q"]) (js:=[none,none]) rfl rfl (jP (pf (fK B) hr (p1 (pv 0)))) (CS.of rfl rfl) rfl (λ C m p fp l=>(show PG _ _ (mZ K 2 _) from jK rfl (kT (pgc 0) (kT (pgc 1) qV)))) (λ C m p fp l D L=>(zQ (qN kMP (pv 0) (pv 1) (jE _)) (jL (qG (p2 (pv 0) (pv 1))))))))),?_⟩
 try dsimp only[qX]
 have l1:=gR S n;refine⟨_,rfl,t,W,rfl,hW,S,n,λ s H1 T ns pr=>?_⟩;obtain⟨ss,h1,Z,h3⟩:=id pr;refine⟨s,rfl,⟨_,SqL.of h1⟩,λ D J=>?_⟩
 refine jI (xs:=ss.map V.ref) (λ i v g=>∃(r u:Option V),v=[r,u]/\Same H1 g/\PairsAt g D (((Fc.stepsS W).take i).filter λ t=>decide (t.1<t.2)))
  ⟨none,none,rfl,kC J _,⟨[],kA,rfl,λ i b t e=>by simp at e⟩⟩ ?_ ?_ ?_
 ·rintro i v g _ ⟨r,u,rfl,j,_⟩
  exact SqL.of (j _ _ h1)
 ·rintro i x v g Y ⟨r,u,rfl,j,d⟩
  rw[az]at Y;obtain⟨b,U,rfl⟩:=bh.mp Y;have hi:i<(Fc.stepsS W).length:=by rw[<-Z];exact(ak.mp U).1
  have N:=ae hi;have hb:=h3 i b _ U N;have tk:(Fc.stepsS W).take (i+1)=(Fc.stepsS W).take i++[(Fc.stepsS W)[i]]:=by rw[iL,N];rfl
  generalize(Fc.stepsS W)[i]=t at *;refine⟨b,_,rfl,SqT.of (j _ _ hb),rfl,_,_,rfl,_,_,rfl,rfl,?_⟩;refine⟨_,rfl,_,rfl,_,_,rfl,rfl,_,rfl,?_⟩;rw[tk];refine kJO (λ z=>?_) (λ z=>?_)
  ·have z:=of_decide_eq_true z
   refine⟨_,rfl,_,rfl,yS2,λ c nc=>?_⟩;have O:=kC nc (.tup [vn t.1,vn t.2]);have hc:=kA (H:=g) (a:=c) (o:=.tup [vn t.1,vn t.2]);have I:=d.kept O;have g3:=j.trans O;refine(λ(y:upd g c (.tup [vn t.1,vn t.2]) c=some (.tup [vn t.1,vn t.2]))=>?_) hc;generalize upd g c (.tup [vn t.1,vn t.2])=H3 at *;obtain⟨cs,M,c2,c3⟩:=id I
   have lc:cs.length<=1764:=by
    rw[c2];have:=me (λ t:Nat×Nat=>decide (t.1<t.2)) ((Fc.stepsS W).take i);rw[cx]at this;omega
   refine⟨_,M,(by rw[aj];exact xJ (by omega)),?_⟩;refine⟨_,_,rfl,qF J g3,?_⟩;rw[si,ux,if_pos (by exact decide_eq_true (by omega))];exact PairsAt.app (H':=H3) M c2 c3 y
  ·have z:¬ (t.1:Int)<(t.2:Int):=λ q=>z (decide_eq_true q)
   refine⟨_,_,rfl,j,?_⟩;rw[si,ux,if_neg (by intro q;have:=of_decide_eq_true q;omega)];simpa using d
 ·rintro v g ⟨r,u,rfl,j,d⟩
  rw[aj,Z,gn]at d;exact k D g (T.trans j) (T.free J) d
end
section
def pk(t:Nat×Nat):List Key:=[cm (t.1:Int),cm (t.2:Int)]
def kSG{a b:Nat×Nat}(h:pk a=pk b):a=b:=by
 unfold pk at h;injection h with h1 h2
 injection h2 with h2 _
 have:=rj h1;have:=rj h2;exact wb (by omega) (by omega)
def SeenAt(H:Hp)(d:au)(X:List (Nat×Nat)):Prop:=∃ a:List (List Key×V),H d=some (.dT a)/\(∀ t:Nat×Nat,(jJ a (pk t)).isSome=decide (t∈X))/\a.length<=X.length/\∀ y∈a,∃ t∈X,y.1=pk t
def SeenAt.kept{H H':Hp}{d:au}{X:List (Nat×Nat)}(h:SeenAt H d X)(g:Same H H'):SeenAt H' d X:=by
 obtain⟨c,a,b⟩:=h;exact⟨c,g _ _ a,b⟩
def kAX{H:Hp}{d:au}:SeenAt (upd H d (.dT [])) d []:=⟨[],kA,λ t=>by simp[jJ],be _,λ y a=>nomatch a⟩
def kCC{kvs:List (List Key×V)}{k:List Key}{v:V}{y:List Key×V}(h:y∈qS kvs k v):y.1=k\/∃ z∈kvs,z.1=y.1:=by
 unfold qS at h
 split at h
 ·obtain⟨z,a,rfl⟩:=iJ.mp h
  split
  ·exact .inr ⟨z,a,rfl⟩
  ·exact .inr ⟨z,a,rfl⟩
 ·rcases ck.mp h with z | z
  ·exact .inr ⟨y,z,rfl⟩
  ·exact .inl (by rw[bu.mp z])
def kIR{kvs:List (List Key×V)}{X:List (Nat×Nat)}{t:Nat×Nat}{v:V}(h1:∀ t:Nat×Nat,(jJ kvs (pk t)).isSome=decide (t∈X))(g:kvs.length<=X.length)(d:∀ y∈kvs,∃ t∈X,y.1=pk t) :
  (∀ u:Nat×Nat,(jJ (qS kvs (pk t) v) (pk u)).isSome=decide (u∈X++[t]))/\(qS kvs (pk t) v).length<=(X++[t]).length/\∀ y∈qS kvs (pk t) v,∃ u∈X++[t],y.1=pk u:=by
 refine⟨λ u=>?_,?_,λ y c=>?_⟩
 ·rw[xS]
  by_cases e:pk u=pk t
  ·rw[if_pos e,kSG e]
   simp
  ·rw[if_neg e,h1 u]
   have:u≠t:=λ z=>e (by rw[z]);simp[this]
 ·have:=xL kvs (pk t) v
  rw[bj,fj];omega
 ·rcases kCC c with e | ⟨z,f,e⟩
  ·exact⟨t,by simp,e⟩
  ·obtain⟨u,a,b⟩:=d z f
   exact⟨u,dw _ a,by rw[<-e,b]⟩
theorem pX:∀(more kvs:List (List Key×V))(k:List Key),(jJ (yO kvs more) k).isSome=((jJ kvs k).isSome || (jJ more k).isSome)
 | [],kvs,k=>by simp[yO,jJ]
 | m::more,kvs,k=>by
  have:=pX more (qS kvs m.1 m.2) k;unfold yO at this ⊢;rw[vh,this,xS];by_cases e:m.1=k
  ·rw[if_pos e.symm,jU e]
   simp
  ·rw[if_neg (λ z=>e z.symm),jV e]
theorem pY:∀(more kvs:List (List Key×V)),(yO kvs more).length<=kvs.length+more.length
 | [],kvs=>be _
 | m::more,kvs=>by
  have:=pY more (qS kvs m.1 m.2);have:=xL kvs m.1 m.2;unfold yO at *;rw[vh,iC];omega
theorem nB:∀(more kvs:List (List Key×V))(y:List Key×V),y∈yO kvs more->(∃ z∈kvs,z.1=y.1)\/∃ z∈more,z.1=y.1
 | [],kvs,y,h=>.inl ⟨y,h,rfl⟩
 | m::more,kvs,y,h=>by
  have h:y∈yO (qS kvs m.1 m.2) more:=h;rcases nB more _ y h with⟨z,c,e⟩ | ⟨z,c,e⟩
  ·rcases kCC c with b | ⟨d,a,b⟩
   ·exact .inr ⟨m,fc ..,by rw[<-e,b]⟩
   ·exact .inl ⟨d,a,by rw[b,e]⟩
  ·exact .inr ⟨z,eD _ c,e⟩
theorem SeenAt.upd{H:Hp}{d:au}{X Y:List (Nat×Nat)}{kvs more:List (List Key×V)}(h1:∀ t:Nat×Nat,(jJ kvs (pk t)).isSome=decide (t∈X))(j:kvs.length<=X.length)(i:∀ y∈kvs,∃ t∈X,y.1=pk t)
  (f:∀ t:Nat×Nat,(jJ more (pk t)).isSome=decide (t∈Y)) (l:more.length<=Y.length) (h:∀ y∈more,∃ t∈Y,y.1=pk t):SeenAt (L2.upd H d (.dT (yO kvs more))) d (X++Y):=by
 refine⟨_,kA,λ t=>?_,?_,λ y g=>?_⟩
 ·rw[pX,h1,f,iQ,Ci,decide_eq_true_iff,decide_eq_true_iff,decide_eq_true_iff,ck]
 ·have:=pY more kvs
  rw[bj];omega
 ·rcases nB more kvs y g with⟨z,c,e⟩ | ⟨z,c,e⟩
  ·obtain⟨u,a,b⟩:=i z c
   exact⟨u,dw _ a,by rw[<-e,b]⟩
  ·obtain⟨u,a,b⟩:=h z c
   exact⟨u,dj _ a,by rw[<-e,b]⟩
def oN{W:Rows}{p q k:Nat}(T:Turns W p q k):Fc.per W (p,q)=k:=Fc.per_is T.pos T.back T.first
def kIG{W:Rows}{p q k:Nat}(T:Turns W p q k):orb W p q k=Fc.rnd W (p,q):=by
 unfold orb Fc.rnd;rw[oN T]
end
section
inductive kFR(vs:List V)(H:Hp)(Q:VK)(Y:XK):Prop
 | mk:∀(t:au)(W:Rows),(vs=[.ref t])->(WebAt H t W)->(Nb W)->(W.length<=42)->(∀(s:au)(H':Hp),Same H H'->H s=none->RowsT H' s (Fc.facesS W)->Q (.ref s) H')->kFR vs H Q Y
def kRW{W:Rows}(S:Nb W){t:Nat×Nat}(h:t∈kS W):(Fc.rnd W t).map (·.1)≠[]:=λ z=>by
 have:=Fc.rnd_self S h;rw[DH.mp z]at this;cases this
def kNR{W:Rows}(S:Nb W){T:List (Nat×Nat)}(b:∀ t∈T,t∈kS W):∀ f∈(Fc.fgo W T).1,f≠[]:=λ f a=>by
 obtain⟨R,g,c,_⟩:=(Fc.fgo_ok S T b).reps;rw[c]at a;obtain⟨r,d,rfl⟩:=iJ.mp a;exact kRW S (b r (g r d))
def aR{W:Rows}:∀ t∈Fc.stepsS W,t∈kS W:=λ t h=>(Fc.sortP_perm _).mem_iff.mp h
def kOR{W:Rows}(S:Nb W)(h:W.length<=42){t:Nat×Nat}(a:t∈kS W):t.1<42/\t.2<42:=by
 have:=S.e (mem_steps.mp (show(t.1,t.2)∈kS W from a));omega
def kBW(B:Fx):Hs "faces" ["web"] 3 (kFR):=by
 refine qK B.X B.d7 kLR λ f bc A b5 s0 H vs Q E nN hr h=>?_;obtain⟨t,W,rfl,hW,S,U,k⟩:=h
 refine⟨_,(kE (pst 1 nN (qU kY))
   (kE (pst 2 nN kMM)
   (kE (uJ (jP (pf (fK B) hr (p1 (pv 0)))) (pgn 3 nN) (kL (yE (kSC (kJB (jS hr) (pv 3) (pv 2))) (kE (pst 4 nN (pf (uL B) hr (p2 (pv 0) (pv 3))))
   (kE (qM (kBN PySem.F.plainAttrs_dict Br PySem.F.type_dict_update (kPP (jS hr)) (pv 2) (p1 (kPH (Nc:=["one"]) (js:=[none]) rfl rfl (jP (pv 4)) (CS.of rfl rfl) rfl (λ C M N fp O=>(pgc 0)) (λ C M N fp O D L=>(qT (gG (jS hr) (pv 0) fI)))))))
   (kL (qM (jG iR iS jW (pv 1) (p1 (jD qR rfl (B.z B.y6) fu (p1 (xG (Nc:=["p","q"]) (js:=[none,none]) rfl rfl (jP (pv 4)) (CS.of rfl rfl) rfl (λ C M N fp O=>(show PG _ _ (mZ K 2 _) from jK rfl (kT (pgc 0) (kT (pgc 1) qV)))) (λ C M N fp O D L=>(qT (jL (pv 0))))))))))))) jC)))
   (kL (kU (kR bC rfl (B.z B.y7) vk (p1 (pv 1)))))))),?_⟩
 try dsimp only[qX]
 have l1:=gR S U;have l0:=bH S U;refine⟨yS0,λ l nl=>?_⟩;have gl:=kC nl (.lst []);have hl:=kA (H:=H) (a:=l) (o:=.lst []);refine λ d nd=>?_;have gd:=kC nd (.dT []);have hd:=kAX (H:=upd H l (.lst [])) (d:=d);have af:l≠d:=λ z=>by rw[<-z,hl]at nd;cases nd
 have a0:=gd _ _ hl;have g1:=gl.trans gd;have b0:H d=none:=gl.free nd;refine(λ(a5:SeenAt (upd (upd H l (.lst [])) d (.dT [])) d [])=>?_) hd;generalize upd (upd H l (.lst [])) d (.dT [])=H1 at *;refine⟨_,rfl,t,W,rfl,hW.kept g1,S,U,λ s H2 g2 ns pr=>?_⟩;obtain⟨ss,h1,h2,h3⟩:=id pr;have ab:=g1.trans g2;have ax:s≠l:=λ z=>by rw[z,a0]at ns;cases ns
 have aw:s≠d:=λ z=>by obtain⟨g,a,_⟩:=a5;rw[z,a]at ns;cases ns
 refine⟨s,rfl,⟨_,SqL.of h1⟩,?_⟩
 refine cI (xs:=ss.map V.ref) (λ i G Y=>∃(x3 x4:Option V),G=[some (.ref t),some (.ref l),some (.ref d),x3,x4]/\(∀ b o,b≠l->b≠d->H2 b=some o->Y b=some o)/\RowsT Y l (Fc.fgo W ((Fc.stepsS W).take i)).1/\SeenAt Y d (Fc.fgo W ((Fc.stepsS W).take i)).2)
  ⟨none,none,rfl,(λ b o _ _ e=>e),⟨[],g2 _ _ a0,rfl,λ i b t e=>by simp at e⟩,a5.kept g2⟩ ?_ ?_ ?_
 ·rintro i G Y _ ⟨x3,x4,rfl,f3,_⟩
  exact SqL.of (f3 _ _ ax aw h1)
 ·rintro i x G Y hx ⟨x3,x4,rfl,f3,rt,sn⟩
  rw[az]at hx;obtain⟨b,eb,rfl⟩:=bh.mp hx;have hi:i<(Fc.stepsS W).length:=by rw[<-h2];exact(ak.mp eb).1
  have et:=ae hi;have hb:=h3 i b _ eb et;have tk:(Fc.stepsS W).take (i+1)=(Fc.stepsS W).take i++[(Fc.stepsS W)[i]]:=by rw[iL,et];rfl
  have mt:=aR _ (iO hi);have fi:=Fc.fgo_ok S ((Fc.stepsS W).take i) λ t h=>aR t (yf h);have lX:=fi.len;rw[tk,Fc.fgo_snoc]
  have lF:(Fc.fgo W ((Fc.stepsS W).take i)).1.length<=1764:=by
   have:∀ T:List (Nat×Nat),(Fc.fgo W T).1.length<=T.length:=λ T=>by
    have:∀ n,n<=T.length->(Fc.fgo W (T.take n)).1.length<=n:=λ n=>by
     induction n with
     | zero=>intro _;rw[yo];exact be _
     | succ n ih =>
      intro hn;rw[show T.take (n+1)=T.take n++[T[n]] by rw[iL,ae (by omega)];rfl,Fc.fgo_snoc];have:=ih (by omega);unfold Fc.fstep
      split
      ·omega
      ·rw[bj]
       show _+1<=_;omega
    have:=this T.length (be _);rwa[gn]at this
   have:=this ((Fc.stepsS W).take i);rw[cx]at this;omega
  generalize(Fc.stepsS W)[i]=u at *;generalize Fc.fgo W ((Fc.stepsS W).take i)=st at *
  have b2:b≠l:=λ z=>by
   have a:=g2 _ _ a0;rw[z,a]at hb;cases hb
  have b4:b≠d:=λ z=>by
   obtain⟨g,a,_⟩:=a5.kept g2;rw[z,a]at hb;cases hb
  have an:=f3 _ _ b2 b4 hb;obtain⟨g,k1,k2,k3,k4⟩:=id sn;refine⟨_,rfl,_,rfl,d,_,rfl,DGet.t (k:=pk u) k1 an,_,rfl,?_⟩;rw[k2 u];unfold Fc.fstep;by_cases c:u∈st.2
  ·rw[decide_eq_true c,if_pos c]
   exact xH ⟨_,_,rfl,f3,rt,sn⟩
  rw[decide_eq_false c,if_neg c];obtain⟨p,r⟩:=u;have hE:Tri.E W p r:=mem_steps.mp mt
  have a7:WebAt Y t W:=by
   obtain⟨ts,q1,q2,q3⟩:=hW.kept ab;have ok:∀(b:au)(xs:List V),H2 b=some (.tup xs)->Y b=some (.tup xs):=λ b xs e=>f3 b _ (λ z=>by rw[z,g2 _ _ a0]at e;cases e) (λ z=>by obtain⟨g,a,_⟩:=a5.kept g2;rw[z,a]at e;cases e) e;exact⟨ts,ok _ _ q1,q2,λ j a row e1 Z=>ok _ _ (q3 j a row e1 Z)⟩
  refine zW ⟨_,rfl,_,rfl,t,b,W,p,r,rfl,a7,S,U,an,hE,λ q m H4 g4 T al=>?_⟩;rw[kIG T]at al;have as:=T.few;have lm:=oN T;obtain⟨qs,q1,q2,q3⟩:=id al
  have lq:(Fc.rnd W (p,r)).length=m:=by rw[Fc.rnd_len,lm]
  refine⟨_,rfl,.inr (.inr (.inl ⟨rfl,.inr ⟨_,g4 _ _ k1⟩⟩)),_,rfl,q,rfl,⟨_,SqL.of q1⟩,λ D nD=>?_⟩;refine jI (xs:=qs.map V.ref) (λ j G I=>∃(x0:Option V),G=[x0]/\Same H4 I/\SeenAt I D ((Fc.rnd W (p,r)).take j)) ⟨none,rfl,kC nD _,kAX⟩ ?_ ?_ ?_
  ·rintro j G I _ ⟨x0,rfl,g5,_⟩
   exact SqL.of (g5 _ _ q1)
  ·rintro j v G I hv ⟨x0,rfl,g5,sD⟩
   rw[az]at hv;obtain⟨c',ec,rfl⟩:=bh.mp hv;have hj:j<(Fc.rnd W (p,r)).length:=by rw[<-q2];exact(ak.mp ec).1
   have ej:=ae hj;have hc:=g5 _ _ (q3 j c' _ ec ej);have a8:(Fc.rnd W (p,r)).take (j+1)=(Fc.rnd W (p,r)).take j++[(Fc.rnd W (p,r))[j]]:=by rw[iL,ej];rfl
   rw[a8];generalize(Fc.rnd W (p,r))[j]=y at *;obtain⟨J,d1,d2,d3,d4⟩:=sD;have ld:J.length<=1764:=by rw[cx]at d3;omega
   refine⟨_,rfl,_,DPut.t (k:=pk y) d1 hc (xJ (by omega)),?_⟩;obtain⟨a1,a2,a3⟩:=kIR (t:=y) (v:=.bl true) d2 d3 d4;exact⟨_,rfl,qF nD g5,⟨_,kA,a1,a2,a3⟩⟩
  ·rintro G I ⟨x0,rfl,g5,sD⟩
   rw[aj,q2,gn]at sD;obtain⟨J,d1,d2,d3,d4⟩:=sD;have aa:=g4.trans g5;have a6:=aa _ _ k1;have aq:d≠D:=λ z=>by rw[<-z,g4 _ _ k1]at nD;cases nD
   refine⟨d,D,g,J,rfl,rfl,aq,a6,d1,(λ y hy=>?_),?_,?_⟩
   ·obtain⟨v,hv,e⟩:=d4 y hy
    have:=kOR S U (Fc.rnd_sub S mt hv);exact⟨v.1,v.2,e,this.1,this.2⟩
   ·have:g.length+J.length<=20000:=by omega
    exact fv (xJ this)
   have b6:=SeenAt.upd (H:=I) (d:=d) k2 k3 k4 d2 d3 d4;have f6:∀ b o,b≠d->Y b=some o->upd I d (.dT (yO g J)) b=some o:=λ b o nb e=>by rw[kM nb];exact aa _ _ e
   have am:upd I d (.dT (yO g J)) q=some (.lst (qs.map V.ref)):=by
    rw[kM (wW (g5 _ _ q1) a6 (by simp))];exact g5 _ _ q1
   have b9:∀(i:Nat)(b:au)(t:Nat×Nat),qs[i]?=some b->(Fc.rnd W (p,r))[i]?=some t->upd I d (.dT (yO g J)) b=some (.tup [vn t.1,vn t.2]):=λ i b t e1 Z=>by
    have:=g5 _ _ (q3 i b t e1 Z);rw[kM (wW this a6 (by simp))];exact this
   obtain⟨ls,r1,r2,r3⟩:=id rt;have ah:upd I d (.dT (yO g J)) l=some (.lst (ls.map V.ref)):=f6 l _ af r1
   have b8:∀(i:Nat)(b:au)(t:List Nat),ls[i]?=some b->st.1[i]?=some t->upd I d (.dT (yO g J)) b=some (.tup (t.map vn)):=λ i b t e1 Z=>by
    have:=r3 i b t e1 Z;exact f6 b _ (wW this k1 (by simp)) this
   have b3:∀ b o,b≠l->b≠d->H2 b=some o->upd I d (.dT (yO g J)) b=some o:=λ b o n1 n2 e=>f6 b o n2 (f3 b o n1 n2 e)
   generalize upd I d (.dT (yO g J))=H6 at *
   refine⟨_,rfl,.inl ⟨rfl,_,SqL.of ah⟩,_,rfl,q,rfl,⟨_,SqL.of am⟩,λ D2 ag=>?_⟩;refine jI (xs:=qs.map V.ref) (λ j G H7=>∃(x0 x1:Option V),G=[x0,x1]/\Same H6 H7/\H7 D2=some (.lst ((((Fc.rnd W (p,r)).take j).map (·.1)).map vn))) ⟨none,none,rfl,kC ag _,kA⟩ ?_ ?_ ?_
   ·rintro j G H7 _ ⟨x0,x1,rfl,g7,_⟩
    exact SqL.of (g7 _ _ am)
   ·rintro j v G H7 hv ⟨x0,x1,rfl,g7,a4⟩
    rw[az]at hv;obtain⟨c',ec,rfl⟩:=bh.mp hv;have hj:j<(Fc.rnd W (p,r)).length:=by rw[<-q2];exact(ak.mp ec).1
    have ej:=ae hj;have hc:=g7 _ _ (b9 j c' _ ec ej);have a8:(Fc.rnd W (p,r)).take (j+1)=(Fc.rnd W (p,r)).take j++[(Fc.rnd W (p,r))[j]]:=by rw[iL,ej];rfl
    rw[a8];generalize(Fc.rnd W (p,r))[j]=y at *;refine⟨c',_,rfl,SqT.of hc,rfl,_,_,rfl,_,_,rfl,rfl,?_⟩;refine⟨_,rfl,_,a4,(by rw[aj,aj,cx];exact xJ (by omega)),?_⟩;refine⟨_,_,rfl,qF ag g7,?_⟩;rw[cy,cy];exact kA
   ·rintro G H7 ⟨x0,x1,rfl,g7,a4⟩
    rw[aj,q2,gn]at a4;refine⟨D2,_,rfl,.inl ⟨SqL.of a4,λ f nf=>?_⟩⟩;have gf:=kC nf (.tup (((Fc.rnd W (p,r)).map (·.1)).map vn));have g8:=g7.trans gf;have hf:=kA (H:=H7) (a:=f) (o:=.tup (((Fc.rnd W (p,r)).map (·.1)).map vn));generalize bi:upd H7 f (.tup (((Fc.rnd W (p,r)).map (·.1)).map vn))=H8 at *;have ac:=g8 _ _ ah;have b7:∀(i:Nat)(b:au)(t:List Nat),ls[i]?=some b->st.1[i]?=some t->H8 b=some (.tup (t.map vn)):=λ i b t e1 Z=>g8 _ _ (b8 i b t e1 Z);refine⟨l,_,_,rfl,rfl,ac,(by rw[aj,r2];exact xJ (by omega)),?_⟩;refine⟨_,_,rfl,(λ b o n1 n2 e=>by rw[kM n1];exact g8 _ _ (b3 b o n1 n2 e)),RowsT.app ac r2 b7 hf,?_⟩;obtain⟨ba,z1,z2⟩:=b6.kept g8;exact⟨ba,by rw[kM af.symm];exact z1,z2⟩
 ·rintro G Y ⟨x3,x4,rfl,f3,rt,sn⟩
  rw[aj,h2,gn]at rt;obtain⟨ps,e1,Z,e3⟩:=kIN rt (kNR S aR);have ap:Same H Y:=λ b o e=>f3 b o (kO e nl) (kO e b0) (ab b o e);refine⟨_,rfl,l,ps,rfl,.inl (SqL.of e1),Z,λ l' b1 a9 pm sr=>?_⟩;exact k l' _ (ap.trans (kC a9 _)) (ap.free a9) (e3 l' b1 a9 pm sr)
inductive kLL(vs:List V)(H:Hp)(Q:VK)(Y:XK):Prop
 | mk:∀(t:au)(W:Rows),(vs=[.ref t])->(WebAt H t W)->(Nb W)->(W.length<=42)->(∀(H':Hp),Same H H'->Q (.bl (decide (W.length+(Fc.facesS W).length=(Fc.tiesS W).length+2))) H')->kLL vs H Q Y
def kED(B:Fx):Hs "is_flat" ["web"] 4 (kLL):=by
 refine qK B.X B.d8 kDQ λ f x A b C H I Q E J g h=>?_;obtain⟨t,W,rfl,c,S,a,k⟩:=h;refine⟨_,(kL (kU (zZ kMR (kX qY (kR kP rfl (B.z B.y0) eV (p1 (pv 0))) (kR kP rfl (B.z B.y0) eV (p1 (pf (kBW B) g (p1 (pv 0)))))) (kX qY (kR kP rfl (B.z B.y0) eV (p1 (pf (kPL B) g (p1 (pv 0))))) kJ) (jE _)))),?_⟩
 try dsimp only[qX]
 obtain⟨q,h1,d,G⟩:=id c;refine⟨_,rfl,t,_,rfl,.inr (SqT.of h1),_,rfl,t,W,rfl,c,S,a,λ s D i L n=>?_⟩;obtain⟨r,v,o,_⟩:=n;refine⟨s,_,rfl,.inl (SqL.of v),_,_,rfl,rfl,_,rfl,t,W,rfl,c.kept i,S,a,λ u l m y j=>?_⟩;obtain⟨p,p1,p2,_⟩:=j;refine⟨u,_,rfl,.inl (SqL.of p1),_,_,rfl,rfl,rfl,?_⟩
 have e:decide (V.int (((q.map V.ref).length:Int)+((r.map V.ref).length:Int))=V.int (((p.map V.ref).length:Int)+2))=decide (W.length+(Fc.facesS W).length=(Fc.tiesS W).length+2):=by
  rw[iQ,decide_eq_true_iff,decide_eq_true_iff,aj,aj,aj,d,o,p2];constructor
  ·intro z
   have:=V.int.inj z;omega
  ·intro z
   congr 1
   omega
 rw[e];exact k l (i.trans m)
end
section
inductive kAO(vs:List V)(H:Hp)(Q:VK)(Y:XK):Prop
 | mk:∀(n:Nat),(vs=[vn n])->(Q (.bl true) H)->kAO vs H Q Y
def kBT(B:Fx):Hs "is_whole" ["thing"] 1 (kAO):=by
 refine qK B.X B.d1 kBE λ f b A a d H g Q E c i h=>?_;obtain⟨n,rfl,q⟩:=h;refine⟨_,(kL (kU (aV (kR Own.call_isi rfl (B.z B.y8) iX (p2 (pv 0) (wB (v:=.ty "int") rfl (B.z B.y10) AL rfl))) (mF (kML (kR Own.call_isi rfl (B.z B.y8) iX (p2 (pv 0) (wB (v:=.ty "bool") rfl (B.z B.y9) CZ rfl)))))))),?_⟩
 try dsimp only[qX]
 exact⟨_,rfl,_,_,_,_,rfl,.int _,rfl,_,rfl,zW ⟨_,rfl,_,_,_,_,rfl,.int _,rfl,_,rfl,q⟩⟩
inductive kLN(vs:List V)(H:Hp)(Q:VK)(Y:XK):Prop
 | mk:∀(a:au)(ns:List Nat),(vs=[.ref a,vn ns.length])->(H a=some (.tup (ns.map vn)))->(ns.length<=1000)->(∀ H',Same H H'->Q (.bl true) H')->kLN vs H Q Y
def bR(B:Fx):Hs "are_whole" ["thing","many"] 2 (kLN):=by
 refine qK B.X B.d2 sK λ f J A p M H N Q E O s h=>?_;obtain⟨a,o,rfl,e,l,k⟩:=h;refine⟨_,(kL (kU (aV (kR Own.call_isi rfl (B.z B.y8) iX (p2 (pv 0) (wB (v:=.ty "tuple") rfl (B.z B.y6) fu rfl))) (aV (zZ kMR (kR kP rfl (B.z B.y0) eV (p1 (pv 0))) (pv 1) (jE _)) (mF (kR (dP rfl) rfl (B.z B.y11) AM (p1 (xG (Nc:=["one"]) (js:=[none]) rfl rfl (yR (pv 0)) (CS.of rfl rfl) rfl (λ C d i G c=>(pgc 0)) (λ C d i G c D L=>(qT (jL (pf (kBT B) s (p1 (pv 0)))))))))))))),?_⟩
 try dsimp only[qX]
 refine⟨_,rfl,_,_,_,_,rfl,.tup e,rfl,_,rfl,zW ⟨_,rfl,a,_,rfl,.inr (SqT.of e),_,rfl,rfl,_,rfl,?_⟩⟩;rw[decide_eq_true (show V.int (((o.map vn).length:Nat):Int)=vn o.length by rw[aj];rfl)];refine zW ⟨_,rfl,a,rfl,⟨_,SqT.of e⟩,λ D r=>?_⟩;refine xR (xs:=o.map vn) (λ n m b=>∃(u:Option V),m=[u]/\b D=some (.lst ((gk n true).map V.bl))/\Same H b) ⟨none,rfl,kA,kC r _⟩ ?_ ?_ ?_
 ·rintro n m b _ ⟨u,rfl,j,g⟩
  exact SqT.of (g _ _ e)
 ·rintro n v m b q ⟨u,rfl,j,g⟩
  have y:=(ak.mp q).1;rw[aj]at y;rw[az]at q;obtain⟨x,_,rfl⟩:=bh.mp q;refine⟨_,rfl,x,rfl,_,j,(by rw[aj,ub];exact kQ (by omega)),?_⟩;exact⟨_,rfl,(by rw[DA,cy];exact kA),qF r g⟩
 ·rintro m b ⟨u,rfl,j,g⟩
  refine⟨D,_,rfl,SqL.of j,?_⟩
  have:(gk (o.map vn).length true).all id=true:=by
   rw[wk];intro x I;rw[List.eq_of_mem_replicate I]
   rfl
  rw[this];exact k b g
structure Tr(W:Rows):Prop where
 nb:Nb W
 le:W.length<=42
 three:∀ t∈kS W,(nxt W (nxt W t)).2=t.1
 cnt:(kS W).length+12=6*W.length
def Tr.flat{W:Rows}(T:Tr W):W.length+(Fc.facesS W).length=(Fc.tiesS W).length+2:=((Fc.three_cornered T.nb).mpr ⟨T.three,T.cnt⟩).1
def Tr.faces{W:Rows}(T:Tr W):∀ f∈Fc.facesS W,f.length=3:=((Fc.three_cornered T.nb).mpr ⟨T.three,T.cnt⟩).2
def Tr.turns{W:Rows}(T:Tr W){p q k:Nat}(a:Tri.E W p q)(Y:Turns W p q k):orb W p q k=[(p,q),(q,(nxt W (p,q)).2),((nxt W (p,q)).2,p)]:=by
 have j:(p,q)∈kS W:=mem_steps.mpr a;have d:p≠q:=λ z=>(T.nb.e a).2.2 z.symm;have c:=T.three _ j;have i:=T.three _ (mem_steps.mpr (kGW T.nb a 1):((nxt W (p,q)).1,(nxt W (p,q)).2)∈kS W);have m:nxt W (p,q)=(q,(nxt W (p,q)).2):=rfl;have f:nxt W (nxt W (p,q))=((nxt W (p,q)).2,p):=wb rfl c;have l:nxt W (nxt W (nxt W (p,q)))=(p,q):=wb c i
 have g:k=3:=by
  rcases xj k 3 with h | h | h
  ·exfalso
   have b:=Y.back;have:=Y.pos;have:k=1\/k=2:=by omega
   rcases this with rfl | rfl
   ·have b:nxt W (p,q)=(p,q):=b
    have:=congrArg Cu b;exact d this.symm
   ·have b:nxt W (nxt W (p,q))=(p,q):=b
    rw[f]at b;exact d (congrArg yc b)
  ·exact h
  ·exact absurd l (Y.first 3 (by decide) h)
 subst g;show[(p,q),nxt W (p,q),nxt W (nxt W (p,q))]=_;rw[f]
 rfl
def aW(T:List (Nat×Nat)):CP:=.list (T.map λ t=>prD t.1 t.2)
def kJC(T:List (Nat×Nat)):jg (T.map λ t=>prD t.1 t.2)=true/\kg (T.map λ t=>prD t.1 t.2)<=1:=by
 induction T with
 | nil=>exact⟨rfl,by decide⟩
 | cons t T ih =>
  have h1:kl (prD t.1 t.2)=true:=by simp[prD,kl,jg]
  have a:pe (prD t.1 t.2)<=1:=by simp[prD,pe,kg]
  simp only[gm,jg,kg,h1,ih.1];have:=ih.2;refine⟨rfl,?_⟩;omega
def pK(T:List (Nat×Nat)):lj (aW T)=true:=by
 obtain⟨h1,a⟩:=kJC T;unfold aW lj;simp only[kl,pe,h1]
 first | (simp;omega) | (rw[iI];exact⟨rfl,decide_eq_true (by omega)⟩) | simp_all
def PairsAt.dt{H:Hp}{s:au}{T:List (Nat×Nat)}(h:PairsAt H s T):Dt K H (aW T) (.ref s):=by
 obtain⟨c,h1,a,b⟩:=h;unfold aW Dt;exact⟨s,_,rfl,SqL.of h1,kCO a b⟩
def kDY:∀(T U:List (Nat×Nat)),ig (aW T) (aW U)=decide (T=U):=by
 have b:∀(T U:List (Nat×Nat)),iM (T.map λ t=>prD t.1 t.2) (U.map λ t=>prD t.1 t.2)=decide (T=U):=λ T=>by
  induction T with
  | nil=>intro U;cases U<;>simp[iM]
  | cons t T ih =>
   intro U
   cases U with
   | nil=>simp[iM]
   | cons u U =>
    rw[gm,gm,iM,kGK,ih U,iQ,iI,decide_eq_true_iff,decide_eq_true_iff,decide_eq_true_iff];constructor
    ·rintro⟨⟨h1,a⟩,rfl⟩
     rw[show t=u from wb h1 a]
    ·intro h
     injection h with h1 a
     exact⟨⟨congrArg _ h1,congrArg _ h1⟩,a⟩
 intro T U;unfold aW;rw[ig];exact b T U
inductive kLO(vs:List V)(H:Hp)(Q:VK)(Y:XK):Prop
 | mk:∀(w:au)(W:Rows)(a c b:Nat),(vs=[.ref w,vn a,vn c,vn b])->(WebAt H w W)->(Tr W)->(Tri.E W a c)->(∀ H',Same H H'->Q (.bl (decide ((nxt W (a,c)).2=b))) H')->kLO vs H Q Y
def bS(B:Fx):Hs "are_round" ["web","p","q","r"] 3 (kLO):=by
 refine qK B.X B.d11 sL λ f a0 A x s0 H vs Q E nN D h=>?_;obtain⟨w,W,a,c,b,rfl,U,T,I,k⟩:=h;refine⟨_,(kL (kU (zZ (sY D.units) (pf (uL B) D (p2 (pv 0) (qG (p2 (pv 1) (pv 2))))) (qU (kI (qG (p2 (pv 1) (pv 2))) (kI (qG (p2 (pv 2) (pv 3))) (kI (qG (p2 (pv 3) (pv 1))) kY)))) (jE _)))),?_⟩
 try dsimp only[qX]
 refine⟨_,rfl,_,rfl,_,rfl,yS2,λ z O=>?_⟩;have G:=kC O (.tup [vn a,vn c]);have hz:=kA (H:=H) (a:=z) (o:=.tup [vn a,vn c]);refine⟨w,z,W,a,c,rfl,U.kept G,T.nb,T.le,hz,I,λ s m n g1 Y C=>?_⟩;rw[T.turns I Y]at C;have y:=G.trans g1;refine⟨_,rfl,_,rfl,yS2,λ g n1=>⟨_,rfl,_,rfl,yS2,λ j S=>⟨_,rfl,_,rfl,yS2,λ l Z=>⟨yS3,λ u N=>?_⟩⟩⟩⟩;have M:=kC n1 (.tup [vn a,vn c]);have L:=kC S (.tup [vn c,vn b]);have v:=kC Z (.tup [vn b,vn a]);have p:=kC N (.lst [.ref g,.ref j,.ref l]);have q1:=p _ _ (v _ _ (L _ _ (kA (H:=n) (a:=g) (o:=.tup [vn a,vn c]))));have q2:=p _ _ (v _ _ (kA (H:=upd n g (.tup [vn a,vn c])) (a:=j) (o:=.tup [vn c,vn b])));have q3:=p _ _ (kA (H:=upd (upd n g (.tup [vn a,vn c])) j (.tup [vn c,vn b])) (a:=l) (o:=.tup [vn b,vn a]));have q4:=kA (H:=upd (upd (upd n g (.tup [vn a,vn c])) j (.tup [vn c,vn b])) l (.tup [vn b,vn a])) (a:=u) (o:=.lst [.ref g,.ref j,.ref l]);have J:=M.trans (L.trans (v.trans p))
 have pu:PairsAt (upd (upd (upd (upd n g (.tup [vn a,vn c])) j (.tup [vn c,vn b])) l (.tup [vn b,vn a])) u (.lst [.ref g,.ref j,.ref l])) u [(a,c),(c,b),(b,a)] :=
  ⟨[g,j,l],q4,rfl,λ i d t q r=>by
   match i with
   | 0=>cases q;cases r;exact q1
   | 1=>cases q;cases r;exact q2
   | 2=>cases q;cases r;exact q3
   | i+3=>simp at q⟩
 refine⟨_,_,(C.kept J).dt,pu.dt,pK _,pK _,?_⟩;rw[if_neg (by decide),kDY]
 have e:decide ([(a,c),(c,(nxt W (a,c)).2),((nxt W (a,c)).2,a)]=[(a,c),(c,b),(b,a)])=decide ((nxt W (a,c)).2=b):=by
  rw[iQ,decide_eq_true_iff,decide_eq_true_iff];constructor
  ·intro h
   injection h with _ h
   injection h with h _
   exact congrArg yc h
  ·intro h
   rw[h]
 rw[e];exact k _ (y.trans J)
inductive gW(vs:List V)(H:Hp)(Q:VK)(Y:XK):Prop
 | mk:∀(t:au)(W:Rows),(vs=[.ref t])->(WebAt H t W)->(Tr W)->(∀ H',Same H H'->Q .non H')->gW vs H Q Y
def fX(B:Fx):Hs "must_be_flat" ["web"] 5 (gW):=by
 refine qK B.X B.d9 fV λ f i A a l H m Q E j g h=>?_;obtain⟨t,W,rfl,b,T,k⟩:=h;refine⟨_,(kL (yE (zD (zC (pf (kED B) g (p1 (pv 0))))) (kL gD) jC)),?_⟩
 try dsimp only[qX]
 refine⟨_,rfl,t,W,rfl,b,T.nb,T.le,λ d c=>⟨_,rfl,?_⟩⟩;rw[decide_eq_true T.flat];exact xH (k d c)
inductive kAR(vs:List V)(H:Hp)(Q:VK)(Y:XK):Prop
 | mk:∀(t:au)(W:Rows),(vs=[.ref t])->(WebAt H t W)->(Tr W)->(∀ H',Same H H'->Q .non H')->kAR vs H Q Y
def aZ(B:Fx):Hs "uncornered_face" ["web"] 4 (kAR):=by
 refine qK B.X B.d10 aU λ f a0 A o s0 H vs Q E U v h=>?_;obtain⟨t,W,rfl,y,T,k⟩:=h
 refine⟨_,(kE (uU (i:=1) (Nc:=["face"]) (js:=[none]) rfl rfl U rfl (xw rfl) (jP (pf (kBW B) v (p1 (pv 0)))) (CS.of rfl rfl) rfl (λ C g j S d=>(pgc 0)) (λ C g j S d D L=>(zQ (qN mG (kR (show zH _ _ (yW K) from kP) rfl (B.z B.y0) eV (p1 (pv 0))) kJ (jE _)) (jL (pv 0)))))
   (kL (kU (kBM (kMG (pv 1) (λ _=>rfl)) (pix qB (pv 1) kJ) vI)))),?_⟩
 try dsimp only[qX]
 refine⟨_,rfl,t,W,rfl,y,T.nb,T.le,λ s J O ns I=>?_⟩;obtain⟨ss,h1,Y,M⟩:=id I;refine⟨s,rfl,⟨_,SqL.of h1⟩,λ D Z=>?_⟩
 refine jI (xs:=ss.map V.ref) (λ i m a=>∃(l:Option V),m=[l]/\Same J a/\a D=some (.lst []))
  ⟨none,rfl,kC Z _,kA⟩ ?_ ?_ ?_
 ·rintro i m a _ ⟨l,rfl,c,_⟩
  exact SqL.of (c _ _ h1)
 ·rintro i x m a r ⟨l,rfl,c,n⟩
  rw[az]at r;obtain⟨b,q,rfl⟩:=bh.mp r;have p:i<(Fc.facesS W).length:=by rw[<-Y];exact(ak.mp q).1
  have u:=ae p;have N:=M i b _ q u;have G:=T.faces _ (iO p);refine⟨_,rfl,b,_,rfl,.inr (SqT.of (c _ _ N)),rfl,_,rfl,?_⟩;rw[aj,G];exact xH ⟨_,rfl,c,n⟩
 ·rintro m a ⟨l,rfl,c,n⟩
  exact⟨_,rfl,false,.inl ⟨_,SqL.of n,rfl⟩,k a (O.trans c)⟩
inductive kFT(vs:List V)(H:Hp)(Q:VK)(Y:XK):Prop
 | mk:∀(w z:au)(W:Rows)(a b c:Nat),(vs=[.ref w,.ref z])->(WebAt H w W)->(Tr W)->(H z=some (.tup [vn a,vn b,vn c]))->(Tri.E W a c)->((nxt W (a,c)).2=b)->(∀ H',Same H H'->Q (.bl true) H')->kFT vs H Q Y
def kEE(B:Fx):Hs "is_base" ["web","thing"] 4 (kFT):=by
 refine qK B.X B.d12 kDR λ f J A g M H S Q E o p h=>?_;obtain⟨w,z,W,a,b,c,rfl,y,T,q,l,x,k⟩:=h
 refine⟨_,(kE (yE (zD (zC (pf (bR B) p (p2 (pv 1) kJ)))) (kL (kU fI)) jC)
   (kE (yC (pv 1) (jK (n:=3) rfl (kT (pgn 2 o) (kT (pgn 3 o) (kT (pgn 4 o) qV)))))
   (kL (kU (aV (kMN kUM kMP kJ (pv 2) (kR kP rfl (B.z B.y0) eV (p1 (pv 0)))) (aV (zZ zN (pv 4) (pix kZ (pv 0) (pv 2)) rfl) (mF (pf (bS B) p (kI (pv 0) (kI (pv 2) (kI (pv 4) (kI (pv 3) kY)))))))))))),?_⟩
 try dsimp only[qX]
 refine⟨_,rfl,z,[a,b,c],rfl,q,(by show 3<=1000;decide),λ O j=>⟨_,rfl,xH ?_⟩⟩;have d:=j _ _ q;have r:=y.kept j;obtain⟨I,h1,i,G⟩:=r.at;obtain⟨row,u,m⟩:=id l;obtain⟨s,D,v⟩:=G a row u;have N:=(T.nb.e l).1;refine⟨_,rfl,z,_,rfl,SqT.of d,rfl,_,_,rfl,_,_,rfl,_,_,rfl,rfl,?_⟩;refine⟨_,rfl,_,_,rfl,rfl,_,rfl,?_⟩;rw[decide_eq_true (show(0:Int)<=(a:Int) by omega)];refine zW ⟨_,rfl,w,_,rfl,.inr (SqT.of h1),_,_,rfl,rfl,_,rfl,?_⟩;rw[decide_eq_true (show(a:Int)<(((I.map V.ref).length:Nat):Int) by rw[aj,i];omega)];refine zW ⟨_,rfl,_,rfl,_,rfl,w,_,_,_,rfl,rfl,SqT.of h1,D,s,_,rfl,.inr (SqT.of v),rfl,yZ _,_,rfl,?_⟩;rw[wH,decide_eq_true m];refine zW ⟨_,rfl,_,rfl,_,rfl,_,rfl,w,W,a,c,b,rfl,r,T,l,λ L C=>?_⟩;rw[decide_eq_true x];exact k _ (j.trans C)
inductive gX(vs:List V)(H:Hp)(Q:VK)(Y:XK):Prop
 | mk:∀(w z:au)(W:Rows)(a b c:Nat),(vs=[.ref w,.ref z])->(WebAt H w W)->(Tr W)->(H z=some (.tup [vn a,vn b,vn c]))->(Tri.E W a c)->((nxt W (a,c)).2=b)->(∀ H',Same H H'->Q .non H')->gX vs H Q Y
def bP(B:Fx):Hs "must_have_base" ["web","base"] 6 (gX):=by
 refine qK B.X B.d13 bI λ f s A i v H y Q E r g h=>?_;obtain⟨w,z,W,a,b,c,rfl,j,T,o,q,n,k⟩:=h
 refine⟨_,(kE (qM (pf (fX B) g (p1 (pv 0))))
   (kE (pst 2 r (pf (aZ B) g (p1 (pv 0))))
   (kE (yE (qN kPJ (pv 2) vI (jE _)) (kL gD) jC)
   (kL (yE (zD (zC (pf (kEE B) g (p2 (pv 0) (pv 1))))) (kL gD) jC))))),?_⟩
 try dsimp only[qX]
 refine⟨_,rfl,w,W,rfl,j,T,λ x d=>?_⟩;refine⟨_,rfl,w,W,rfl,j.kept d,T,λ u l=>?_⟩;refine⟨_,rfl,rfl,_,rfl,xH ?_⟩;refine⟨_,rfl,_,rfl,w,z,W,a,b,c,rfl,(j.kept d).kept l,T,l _ _ (d _ _ o),q,n,λ m p=>⟨_,rfl,xH ?_⟩⟩;exact k m (d.trans (l.trans p))
end
section
def kID{l r:Bool}{K:bb}{a b:au}{xs ys:List V}{g:TG}{bd:TB}{n:St->Hp->Prop}{c:St}{H:Hp}(Pv:Nat->St->Hp->Prop)(d:ys.length<xs.length)(h0:Pv 0 c H)
  (J:∀ i c H,i<=ys.length->Pv i c H->SqX K l H a xs/\SqX K r H b ys)
  (v:∀ i x y T c H,xs[i]?=some x->ys[i]?=some y->H T=none->Pv i c H->g (.ref T) c (upd H T (.tup [x,y])) λ σ2 H2=>bd (Pv (i+1)) σ2 H2) (L:∀ c H,Pv ys.length c H->n c H):uB (kTQ l r K a b) g bd n c H:=by
 refine⟨λ i m c H=>m=ys.length-i/\i<=ys.length/\Pv i c H,⟨ys.length,by simp,iA _,h0⟩,?_⟩;rintro i m c H ⟨rfl,f,p⟩;obtain⟨h,j⟩:=J i c H f p;rcases iV i ys.length with o | o
 ·refine .inr ⟨⟨xs,ys,xs[i]'(by omega),ys[i],h,j,by simp[show i<xs.length by omega],by simp[o]⟩,Pv (i+1),λ I C q=>⟨ys.length-(i+1),by omega,rfl,by omega,q⟩,λ x C s=>?_⟩
  obtain⟨T,A,B,G,rfl,D,u,rfl⟩:=s;exact v i A B T c H (D xs h) (u ys j) G p
 ·obtain rfl:i=ys.length:=by omega
  exact .inl ⟨⟨xs,ys,xs[ys.length]'(by omega),h,j,by simp[d],rfl⟩,L c H p⟩
def wG(a:List Nat):CP:=.list (a.map λ n:Nat=>jw (n:Int))
def rQ(a:List Nat):CP:=.tuple (a.map λ n:Nat=>jw (n:Int))
def pS(T:List Nat):jg (T.map λ n:Nat=>jw (n:Int))=true/\kg (T.map λ n:Nat=>jw (n:Int))<=1:=by
 induction T with
 | nil=>exact⟨rfl,by decide⟩
 | cons t T ih =>
  simp only[gm,jg,kg,kl,pe,ih.1];have:=ih.2;refine⟨rfl,?_⟩;omega
def bY(T:List Nat):lj (wG T)=true:=by
 obtain⟨h1,a⟩:=pS T;unfold wG lj;simp only[kl,pe,h1]
 first | (simp;omega) | (rw[iI];exact⟨rfl,decide_eq_true (by omega)⟩) | simp_all
def kFD(T:List Nat):lj (rQ T)=true:=by
 obtain⟨h1,a⟩:=pS T;unfold rQ lj;simp only[kl,pe,h1]
 first | (simp;omega) | (rw[iI];exact⟨rfl,decide_eq_true (by omega)⟩) | simp_all
def kJK(T:List Nat):ig (wG T) (wG T)=true:=by
 unfold wG;rw[ig];exact kND T
def gN{H:Hp}{s:au}{T:List Nat}(h:H s=some (.lst (T.map vn))):Dt K H (wG T) (.ref s):=by
 unfold wG Dt;exact⟨s,_,rfl,SqL.of h,kHF T⟩
def kNU{H:Hp}{s:au}{T:List Nat}(h:H s=some (.tup (T.map vn))):Dt K H (rQ T) (.ref s):=by
 unfold rQ Dt;exact⟨s,_,rfl,SqT.of h,kHF T⟩
def rR{d:List Nat}{n:Nat}(h:d.Perm (cq n)){c:List Int}(p:c.Perm (d.map ci))(s:c.Pairwise (·<=·)):c=(cq n).map ci:=by
 have p2:c.Perm ((cq n).map ci):=p.trans (h.map ci)
 have f:((cq n).map ci).Pairwise (·<=·):=by
  rw[md];refine AI.imp λ{a b} h=>?_;show(a:Int)<=b;omega
 exact p2.eq_of_pairwise (λ a b _ _ h1 g=>Int.le_antisymm h1 g) s f
def kEI(T U:List Nat):ig (wG T) (wG U)=decide (T=U):=by
 have b:∀(T U:List Nat),iM (T.map λ n:Nat=>jw (n:Int)) (U.map λ n:Nat=>jw (n:Int))=decide (T=U):=λ T=>by
  induction T with
  | nil=>intro U;cases U<;>simp[iM]
  | cons t T ih =>
   intro U
   cases U with
   | nil=>simp[iM]
   | cons u U =>
    rw[gm,gm,iM,ih U,iQ,iI,decide_eq_true_iff,decide_eq_true_iff]
    have e:ig (jw (t:Int)) (jw (u:Int))=true↔t=u:=by
     simp only[ig,beq_iff_eq];omega
    rw[e];constructor
    ·rintro⟨h1,a⟩
     rw[h1,a]
    ·intro h
     injection h with h1 a
     exact⟨h1,a⟩
 unfold wG;rw[ig];exact b T U
def kIM(T U:List Nat):ig (rQ T) (rQ U)=decide (T=U):=by
 have b:∀(T U:List Nat),iM (T.map λ n:Nat=>jw (n:Int)) (U.map λ n:Nat=>jw (n:Int))=decide (T=U):=λ T=>by
  induction T with
  | nil=>intro U;cases U<;>simp[iM]
  | cons t T ih =>
   intro U
   cases U with
   | nil=>simp[iM]
   | cons u U =>
    rw[gm,gm,iM,ih U,iQ,iI,decide_eq_true_iff,decide_eq_true_iff]
    have e:ig (jw (t:Int)) (jw (u:Int))=true↔t=u:=by
     simp only[ig,beq_iff_eq];omega
    rw[e];constructor
    ·rintro⟨h1,a⟩
     rw[h1,a]
    ·intro h
     injection h with h1 a
     exact⟨h1,a⟩
 unfold rQ;rw[ig];exact b T U
inductive oT(vs:List V)(H:Hp)(Q:VK)(Y:XK):Prop
 | mk:∀(w z o:au)(W:Rows)(a b c:Nat)(ms:List Nat),(vs=[.ref w,.ref z,.ref o])->(WebAt H w W)->(W.length<=42)->(H z=some (.tup [vn a,vn b,vn c]))->(H o=some (.tup (ms.map vn)))->(ms.Perm (cq W.length))->(3<=W.length)->(∀ H',Same H H'->Q (.bl (decide (ms[0]?=some a/\ms[1]?=some b/\ms.getLast?=some c))) H')->oT vs H Q Y
def kBU(B:Fx):Hs "has_ends" ["web","base","thing"] 3 (oT):=by
 refine qK B.X B.d14 kBF λ f a2 A q s0 H vs Q E I p h=>?_;obtain⟨w,z,o,W,a,b,c,d,rfl,hW,a0,hz,L,hp,l3,k⟩:=h
 refine⟨_,(kE (yE (PW.pt (pI (zD (zC (pf (bR B) p (p2 (pv 2) (kR kP rfl (B.z B.y0) eV (p1 (pv 0))))))) (dC (qN (sW p.units) (kR kEU rfl (B.z B.y7) vk (p1 (pv 2))) (kPF rfl rfl (B.z B.y12) rfl (B.z B.y3) (p1 (kR kP rfl (B.z B.y0) eV (p1 (pv 0))))) (jE _))))) (kL (kU fI)) jC)
   (kE (yC (pv 1) (jK (n:=3) rfl (kT (pgn 3 I) (kT (pgn 4 I) (kT (pgn 5 I) qV)))))
   (kL (kU (zZ (sY p.units) (qG (kI (pix kZ (pv 2) kJ) (kI (pix kZ (pv 2) kJ) (kI (pix kZ (pv 2) (wU yQ kJ)) kY)))) (qG (kI (pv 3) (kI (pv 4) (kI (pv 5) kY)))) (jE _)))))),?_⟩
 try dsimp only[qX]
 have C:d.length=W.length:=by rw[hp.length_eq,gv]
 obtain⟨ts,h1,i,h3⟩:=id hW;refine⟨_,rfl,_,rfl,w,_,rfl,.inr (SqT.of h1),o,d,(by rw[aj,i,C];rfl),L,(by omega),λ u G=>⟨_,rfl,xH ?_⟩⟩;refine⟨_,rfl,o,d.map ci,rfl,.inr (SqT.of (by rw[G _ _ L,xD])),λ l a1 nl pm sr=>?_⟩;rw[rR hp pm sr];have T:=kC nl (.lst (((cq W.length).map ci).map V.int));have hl:=kA (H:=u) (a:=l) (o:=.lst (((cq W.length).map ci).map V.int));refine⟨_,rfl,w,_,rfl,.inr (SqT.of (T _ _ (G _ _ h1))),W.length,(by rw[aj,i]),(by omega),λ N Z=>?_⟩;rw[if_neg eA];have O:=kC Z (.lst (aM W.length));have D:=kA (H:=upd u l (.lst (((cq W.length).map ci).map V.int))) (a:=N) (o:=.lst (aM W.length));have J:=G.trans (T.trans O);refine⟨wG (cq W.length),wG (cq W.length),gN (by rw[xD];exact O _ _ hl),gN D,bY _,bY _,_,rfl,?_⟩;rw[kJK];refine xH ?_;have s:=J _ _ hz;have g:=J _ _ L;generalize upd (upd u l (.lst (((cq W.length).map ci).map V.int))) N (.lst (aM W.length))=H2 at *;refine⟨_,rfl,z,_,rfl,SqT.of s,rfl,_,_,rfl,_,_,rfl,_,_,rfl,rfl,?_⟩;obtain⟨x,U⟩ : ∃ x,d[0]?=some x:=⟨_,ae (by omega)⟩;obtain⟨y,M⟩ : ∃ y,d[1]?=some y:=⟨_,ae (by omega)⟩;have r:d≠[]:=λ z=>by rw[z]at C;simp at C;omega
 obtain⟨v,m⟩ : ∃ v,d.getLast?=some v:=⟨_,fe r⟩;have e0:atI (d.map vn) 0=some (vn x):=jB (j:=0) (by rw[az,U];rfl);have e1:atI (d.map vn) 1=some (vn y):=jB (j:=1) (by rw[az,M];rfl)
 have Y:atI (d.map vn) (-1)=some (vn v):=by
  have em:d=d.dropLast++[v]:=by
   have m:=m;rw[fe r]at m;rw[<-bg m];exact(eC r).symm
  rw[em,cy];exact yB _ _
 refine⟨_,rfl,o,_,_,_,rfl,rfl,SqT.of g,e0,_,rfl,o,_,_,_,rfl,rfl,SqT.of g,e1,_,rfl,_,rfl,o,_,_,_,rfl,rfl,SqT.of g,Y,yS3,λ u1 m1=>?_⟩;have j1:=kC m1 (.tup [vn x,vn y,vn v]);refine⟨_,rfl,_,rfl,_,rfl,yS3,λ u2 m2=>?_⟩;have S:=kC m2 (.tup [vn a,vn b,vn c]);refine⟨rQ [x,y,v],rQ [a,b,c],kNU (S _ _ kA),kNU kA,kFD _,kFD _,?_⟩;rw[if_neg (by decide),kIM]
 have ee:decide ([x,y,v]=[a,b,c])=decide (d[0]?=some a/\d[1]?=some b/\d.getLast?=some c):=by
  rw[iQ,decide_eq_true_iff,decide_eq_true_iff,U,M,m];simp
 rw[ee];exact k _ (J.trans (j1.trans S))
theorem kCX{l r:List Nat}{x y:Nat}(h:Adj l x y):Adj (l++r) x y:=by
 match l,h with
 | a::b::l,h =>
  rcases h with z | z
  ·exact .inl z
  ·exact .inr (kCX (l:=b::l) z)
def kKG{l r:List Nat}{x y:Nat}(h:Adj r x y):Adj (l++r) x y:=by
 induction l with
 | nil=>exact h
 | cons a l ih =>
  cases e:l++r with
  | nil=>rw[e]at ih;exact absurd ih id
  | cons b s =>
   rw[kj,e];rw[e]at ih;exact EH ih
def kQJ(xs:List V)(b c:Nat)(h:b<=xs.length):yA xs (some (b:Int)) (some (c:Int))=(xs.drop b).take (c-b):=by
 unfold yA;rw[HT.sIx_nat,HT.sIx_nat,kq h,Cq,iN];omega
inductive oQ(vs:List V)(H:Hp)(Q:VK)(Y:XK):Prop
 | mk:∀(w tp ah:au)(W:Rows)(top ahead:List Nat)(pl:Nat),(vs=[.ref w,.ref tp,.ref ah,vn pl])->(WebAt H w W)->(Tr W)->(H tp=some (.lst (top.map vn)))->(H ah=some (.tup (ahead.map vn)))->(top.length<=42)->(ahead.length<=42)->(pl<W.length)->(top.Nodup)->((∀ x y,Adj top x y->Tri.E W x y))->((stF W top ahead pl=none->∀ H',Same H H'->Q .non H'))->(∀(st:List Nat),stF W top ahead pl=some st->∀(s:au)(H':Hp),Same H H'->H s=none->H' s=some (.lst (st.map vn))->Q (.ref s) H')->oQ vs H Q Y
def dE(B:Fx):Hs "stretch_under" ["web","top","ahead","place"] 4 (oQ):=by
 refine qK B.X B.d15 cZ λ f b3 A aq s0 H vs Q E nN hr h=>?_;obtain⟨w,tp,ah,W,top,g,m,rfl,hW,T,ap,ac,l1,l2,lp,b4,hA,U,k⟩:=h
 refine⟨_,(kE (pst 4 nN (xG (Nc:=["q","web","place"]) (js:=[none,some 0,some 3]) rfl rfl (yR (pv 2)) (CS.of rfl rfl) rfl (λ C n s fp u=>(pgc 0)) (λ C n s fp u D L=>(zQ (qN (show OpR _ _ (rIn K false) from zN) (pv 0) (pix (show IxR _ (kIW K) from kZ) (pv 1) (pv 2)) rfl) (jL (pv 0))))))
   (kE (uU (i:=5) (Nc:=["q","below"]) (js:=[none,some 4]) rfl rfl nN rfl (xw rfl) (jP (pv 1)) (CS.of rfl rfl) rfl (λ C n s fp u=>(pgc 0)) (λ C n s fp u D L=>(zQ (qN (show OpR _ _ (rIn K false) from zN) (pv 0) (pv 1) rfl) (jL (pv 0)))))
   (kE (yE (PW.pt (pI (qN kMP (kR kP rfl (B.z B.y0) eV (p1 (pv 5))) kJ (jE _)) (dC (qN mG (kR kP rfl (B.z B.y0) eV (p1 (pv 5))) (kR kP rfl (B.z B.y0) eV (p1 (pv 4))) (jE _))))) (kL (kU vI)) jC)
   (kE (pst 6 nN (jG jb jc yN (pv 1) (p1 (pix qB (pv 5) kJ))))
   (kE (yE (qN (sW hr.units) (qD xE (pv 1) (qC (pv 6)) (qC (kX qY (pv 6) (kR kP rfl (B.z B.y0) eV (p1 (pv 5)))))) (pv 5) (jE _)) (kL (kU vI)) jC)
   (kE (yE (zD (zC (kR (dP rfl) rfl (B.z B.y11) AM (p1 (xG (Nc:=["x","y","web","place"]) (js:=[none,none,some 0,some 3]) rfl rfl (kPE true true rfl (B.z B.y13) (p2 (pv 5) (qD xE (pv 5) (qC kJ) jA))) (CS.of rfl rfl) rfl (λ C n s fp u=>(show PG _ _ (mZ K 2 _) from jK rfl (kT (zY (i:=0) (show BZ (α:=Str) ["x","y","web","place"] by decide +kernel) rfl (xw rfl)) (kT (zY (i:=1) (show BZ (α:=Str) ["x","y","web","place"] by decide +kernel) rfl (xw rfl)) qV)))) (λ C n s fp u D L=>(qT (jL (pf (bS B) hr (kI (pv 2) (kI (pv 0) (kI (pv 1) (kI (pv 3) kY))))))))))))) (kL (kU vI)) jC)
   (kL (kU (pv 5))))))))),?_⟩
 try dsimp only[qX]
 have a9:W.getD m []=W[m]:=by rw[av,ae lp];rfl
 unfold stF at U k;dsimp only at U k;rw[a9]at U k;obtain⟨ts,h1,b2,h3⟩:=hW.at;obtain⟨b',e1,e2⟩:=h3 m W[m] (ae lp);refine⟨_,rfl,ah,rfl,⟨_,SqT.of ac⟩,λ D nD=>?_⟩
 refine xR (xs:=g.map vn) (λ i I H2=>∃(G:Option V),I=[G,some (.ref w),some (vn m)]/\Same H H2/\H2 D=some (.lst (((g.take i).filter λ q=>decide (q∈W[m])).map vn)))
  ⟨none,rfl,kC nD _,kA⟩ ?_ ?_ ?_
 ·rintro i I H2 _ ⟨G,rfl,S,_⟩
  exact SqT.of (S _ _ ac)
 ·rintro i x I H2 hx ⟨G,rfl,S,hD⟩
  rw[az]at hx;obtain⟨q,a3,rfl⟩:=bh.mp hx;have tk:g.take (i+1)=g.take i++[q]:=by rw[iL,a3];rfl
  refine⟨_,rfl,_,rfl,_,rfl,w,_,_,_,rfl,rfl,SqT.of (S _ _ h1),e1,b',_,rfl,.inr (SqT.of (S _ _ e2)),rfl,yZ _,_,rfl,?_⟩;rw[wH,tk,si];have lf:=me (λ q=>decide (q∈W[m])) (g.take i);rw[cx]at lf;refine kJO (λ c=>?_) (λ c=>?_)
  ·refine⟨_,rfl,_,hD,(by rw[aj];exact kQ (by omega)),?_⟩
   refine⟨_,rfl,qF nD S,?_⟩;rw[wg (p:=λ q=>decide (q∈W[m])) (show decide (q∈W[m])=true from c),cy];exact kA
  ·rw[wj (p:=λ q=>decide (q∈W[m])) (show ¬ decide (q∈W[m])=true from c),Ba,iP]
   exact⟨_,rfl,S,hD⟩
 rintro I H2 ⟨G,rfl,S,hD⟩;rw[aj,gn]at hD;have M:=S _ _ ap;have lb:=me (λ q=>decide (q∈W[m])) g;generalize g.filter (λ q=>decide (q∈W[m]))=v at *;refine⟨_,rfl,tp,rfl,⟨_,SqL.of M⟩,λ Y a5=>?_⟩
 refine jI (xs:=top.map vn) (λ i I H3=>∃(G:Option V),I=[G,some (.ref D)]/\Same H2 H3/\H3 Y=some (.lst (((top.take i).filter λ q=>decide (q∈v)).map vn)))
  ⟨none,rfl,kC a5 _,kA⟩ ?_ ?_ ?_
 ·rintro i I H3 _ ⟨G,rfl,g3,_⟩
  exact SqL.of (g3 _ _ M)
 ·rintro i x I H3 hx ⟨G,rfl,g3,l⟩
  rw[az]at hx;obtain⟨q,a3,rfl⟩:=bh.mp hx;have tk:top.take (i+1)=top.take i++[q]:=by rw[iL,a3];rfl
  refine⟨_,rfl,_,rfl,D,_,rfl,.inl (SqL.of (g3 _ _ hD)),rfl,yZ _,_,rfl,?_⟩;rw[wH,tk,si];have lf:=me (λ q=>decide (q∈v)) (top.take i);rw[cx]at lf;refine kJO (λ c=>?_) (λ c=>?_)
  ·refine⟨_,rfl,_,l,(by rw[aj];exact kQ (by omega)),?_⟩
   refine⟨_,rfl,qF a5 g3,?_⟩;rw[wg (p:=λ q=>decide (q∈v)) (show decide (q∈v)=true from c),cy];exact kA
  ·rw[wj (p:=λ q=>decide (q∈v)) (show ¬ decide (q∈v)=true from c),Ba,iP]
   exact⟨_,rfl,g3,l⟩
 rintro I H3 ⟨G,rfl,g3,l⟩;rw[aj,gn]at l;have b1:=me (λ q=>decide (q∈v)) top;have aa:∀ q∈top.filter (λ q=>decide (q∈v)),q∈top:=λ q hq=>(iW.mp hq).1;generalize top.filter (λ q=>decide (q∈v))=st at *;have N:=S.trans g3;have b0:=g3 _ _ hD;have J:=g3 _ _ M;have W3:=hW.kept N;have lst:((st.map vn).length:Int)=st.length:=by rw[aj]
 have as:((v.map vn).length:Int)=v.length:=by rw[aj]
 have ls:st.length<=42:=by omega
 refine⟨_,rfl,Y,_,rfl,.inl (SqL.of l),_,_,rfl,rfl,_,rfl,?_⟩;rw[lst];by_cases c1:st.length<2
 ·rw[decide_eq_true (show((st.length:Int)<2) by omega)]
  exact zW (U (by rw[if_pos (.inl c1)]) _ N)
 rw[decide_eq_false (show ¬ ((st.length:Int)<2) by omega)];refine xH ⟨_,rfl,Y,_,rfl,.inl (SqL.of l),_,rfl,D,_,rfl,.inl (SqL.of b0),rfl,_,rfl,?_⟩;rw[lst,as];by_cases c2:st.length=v.length
 case neg =>
  rw[decide_eq_false (show ¬ (V.int (st.length:Int)=V.int (v.length:Int)) from λ z=>c2 (by have:=V.int.inj z;omega))];exact zW (U (by rw[if_pos (.inr c2)]) _ N)
 rw[c2,decide_eq_true (rfl:V.int ((v.length:Nat):Int)=V.int ((v.length:Nat):Int))];refine xH ?_;rw[if_neg (by omega)]at U k
 obtain⟨d,rest,a4⟩ : ∃ a r,st=a::r:=by
  match st,c1 with
  | a::r,_=>exact⟨a,r,rfl⟩
  | [],c1=>exact absurd (show([]:List Nat).length<2 by decide) c1
 have am:st.headD 0=d:=by rw[a4];rfl
 have al:atI (st.map vn) 0=some (vn d):=by rw[a4];exact jB (j:=0) rfl
 have m0:d∈top:=aa d (by rw[a4];exact fc ..);have il:=fq m0;refine⟨_,rfl,.inl ⟨rfl,_,SqL.of J⟩,_,rfl,Y,_,_,_,rfl,rfl,SqL.of l,al,tp,top.map ci,d,top.idxOf d,rfl,rfl,(by rw[J,xD]),qO m0,?_⟩;refine⟨_,rfl,_,rfl,_,rfl,_,rfl,_,rfl,Y,_,rfl,.inl (SqL.of l),_,_,rfl,rfl,_,rfl,tp,_,rfl,SqL.of J,λ p np=>?_⟩;rw[am]at U k
 have ab:yA (top.map vn) (some ((top.idxOf d:Nat):Int)) (some (((top.idxOf d:Nat):Int)+(((st.map vn).length:Nat):Int)))=((top.drop (top.idxOf d)).take st.length).map vn:=by
  rw[lst,show(((top.idxOf d:Nat):Int)+(st.length:Int))=((top.idxOf d+st.length:Nat):Int) by omega,kQJ _ _ _ (by rw[aj];omega),uz,yj,show top.idxOf d+st.length-top.idxOf d=st.length by omega]
 rw[ab];have gp:=kC np (.lst (((top.drop (top.idxOf d)).take st.length).map vn));have hp:=kA (H:=H3) (a:=p) (o:=.lst (((top.drop (top.idxOf d)).take st.length).map vn));refine⟨_,rfl,wG ((top.drop (top.idxOf d)).take st.length),wG st,gN hp,gN (gp _ _ l),bY _,bY _,_,rfl,?_⟩;rw[kEI];by_cases c3:(top.drop (top.idxOf d)).take st.length=st
 case neg =>
  rw[decide_eq_false c3];exact zW (U (by rw[if_pos c3]) _ (N.trans gp))
 rw[decide_eq_true c3];rw[if_neg (λ z=>z c3)]at U k;refine xH ?_;have a0:=gp _ _ l;have W4:=W3.kept gp;have ax:=N.trans gp;have ag:H Y=none:=S.free a5;generalize upd H3 p (.lst (((top.drop (top.idxOf d)).take st.length).map vn))=H4 at *
 have hE:∀ t∈st.zip st.tail,Tri.E W t.1 t.2:=λ t ht=>by
  obtain⟨x,y⟩:=t;have ad:=bE ht
  have et:top=top.take (top.idxOf d)++(st++(top.drop (top.idxOf d)).drop st.length):=by
   have e2:top.drop (top.idxOf d)=st++(top.drop (top.idxOf d)).drop st.length:=by
    conv=>lhs;rw[<-fk st.length (top.drop (top.idxOf d)),c3]
   rw[<-e2,fk]
  refine hA x y ?_;rw[et];have a1:Adj (st++(top.drop (top.idxOf d)).drop st.length) x y:=kCX ad;exact kKG a1
 have tl:(st.map vn).tail=st.tail.map vn:=by rw[List.map_tail]
 have c1:yA (st.map vn) (some 1) none=st.tail.map vn:=by
  rw[show(1:Int)=((1:Nat):Int) from rfl,xZ _ (by rw[aj];omega),List.drop_one,tl]
 refine⟨_,rfl,_,rfl,_,rfl,Y,_,rfl,SqL.of a0,λ D3 aw=>?_⟩;rw[c1];have g5:=kC aw (.lst (st.tail.map vn));have a2:=kA (H:=H4) (a:=D3) (o:=.lst (st.tail.map vn));have O:=g5 _ _ a0;have W5:=W4.kept g5;have a8:=ax.trans g5;generalize upd H4 D3 (.lst (st.tail.map vn))=H5 at *;refine⟨Y,D3,rfl,⟨_,SqL.of O⟩,⟨_,SqL.of a2⟩,λ D4 a7=>?_⟩
 refine kID (xs:=st.map vn) (ys:=st.tail.map vn) (λ i I H6=>∃(G x1:Option V),I=[G,x1,some (.ref w),some (vn m)]/\Same H5 H6/\H6 D4=some (.lst ((((st.zip st.tail).take i).map λ t=>decide ((nxt W t).2=m)).map V.bl))) (by rw[aj,aj,List.length_tail];omega)
  ⟨none,none,rfl,kC a7 _,kA⟩ ?_ ?_ ?_
 ·rintro i I H6 _ ⟨G,x1,rfl,Z,_⟩
  exact⟨SqL.of (Z _ _ O),SqL.of (Z _ _ a2)⟩
 ·rintro i x y T' I H6 hx hy nT ⟨G,x1,rfl,Z,a6⟩
  rw[az]at hx hy;obtain⟨a,ea,rfl⟩:=bh.mp hx;obtain⟨b,eb,rfl⟩:=bh.mp hy
  have mz:(a,b)∈st.zip st.tail:=by
   refine cv (i:=i) ?_;rw[mf];exact⟨ea,eb⟩
  have li:=(ak.mp ea).1;have gT:=kC nT (.tup [vn a,vn b]);have hT:=kA (H:=H6) (a:=T') (o:=.tup [vn a,vn b]);have W7:=(W5.kept Z).kept gT;have g7:=Z.trans gT;have af:=gT _ _ a6;generalize upd H6 T' (.tup [vn a,vn b])=H7 at *;refine⟨T',_,rfl,SqT.of hT,rfl,_,_,rfl,_,_,rfl,rfl,?_⟩;refine⟨_,rfl,_,rfl,_,rfl,_,rfl,w,W,a,b,m,rfl,W7,T,hE _ mz,λ H8 g8=>?_⟩
  have an:(st.zip st.tail).take (i+1)=(st.zip st.tail).take i++[(a,b)]:=by
   have:(st.zip st.tail)[i]?=some (a,b):=by rw[mf];exact⟨ea,eb⟩
   rw[iL,this]
   rfl
  refine⟨_,g8 _ _ af,(by rw[aj,aj,cx];exact kQ (by omega)),?_⟩;refine⟨_,_,rfl,qF a7 (g7.trans g8),?_⟩;rw[an,cy,cy];exact kA
 ·rintro I H6 ⟨G,x1,rfl,Z,a6⟩
  refine⟨D4,_,rfl,SqL.of a6,?_⟩
  have ez:(st.zip st.tail).take (st.tail.map vn).length=st.zip st.tail:=by
   refine ki ?_;rw[AZ,aj];omega
  rw[ez]
  have ea:((st.zip st.tail).map λ t=>decide ((nxt W t).2=m)).all id=(st.zip st.tail).all λ t=>decide ((nxt W t).2=m):=by
   rw[GA]
   rfl
  rw[ea]
  cases cb:(st.zip st.tail).all λ t=>decide ((nxt W t).2=m) with
  | false=>exact⟨_,rfl,zW (U (by rw[cb];rfl) _ (a8.trans Z))⟩
  | true =>
   refine⟨_,rfl,xH ⟨_,rfl,?_⟩⟩;exact k st (by rw[cb];rfl) Y H6 (a8.trans Z) ag (Z _ _ O)
end
section
structure LsAt(H:Hp)(t:au)(ta:List au)(Os:List (List Nat)):Prop where
 top:H t=some (.lst (ta.map V.ref))
 len:ta.length=Os.length
 row:∀(i:Nat)(a:au)(Z:List Nat),ta[i]?=some a->Os[i]?=some Z->H a=some (.lst (Z.map vn))
def LsAt.but{H H':Hp}{t:au}{c:List au}{Os:List (List Nat)}(x:LsAt H t c Os)(g:∀ b o,b=t\/b∈c->H b=some o->H' b=some o):LsAt H' t c Os :=
 ⟨g _ _ (.inl rfl) x.top,x.len,λ i a Z d f=>g _ _ (.inr (cv d)) (x.row i a Z d f)⟩
def LsAt.kept{H H':Hp}{t:au}{a:List au}{Os:List (List Nat)}(x:LsAt H t a Os)(g:Same H H'):LsAt H' t a Os:=x.but λ b o _=>g b o
def LsAt.app{H:Hp}{t a:au}{d:List au}{Os:List (List Nat)}{Z:List Nat}(x:LsAt H t d Os)(h:H a=some (.lst (Z.map vn)))(m:t∉d)(j:a≠t):LsAt (upd H t (.lst (d.map V.ref++[.ref a]))) t (d++[a]) (Os++[Z]):=by
 refine⟨by rw[cy];exact kA,by simp[x.len],λ i b Y c f=>?_⟩
 have l:b≠t:=λ z=>by
  have:=cv c;rw[z]at this;rcases ck.mp this with q | q
  ·exact m q
  ·exact j (bu.mp q).symm
 rw[kM l];rcases iV i d.length with g | g
 ·rw[bf g]at c
  rw[bf (by have:=x.len;omega)]at f;exact x.row i b Y c f
 ·obtain rfl:i=d.length:=by
   have:=(ak.mp c).1;simp at this;omega
  rw[cu]at c;rw[x.len,cu]at f;cases c
  cases f
  exact h
inductive kFK(vs:List V)(H:Hp)(Q:VK)(Y:XK):Prop
 | mk:∀(tp sp:au)(top st:List Nat)(pl:Nat),(vs=[.ref tp,.ref sp,vn pl])->(H tp=some (.lst (top.map vn)))->(H sp=some (.lst (st.map vn)))->(st≠[])->((∀ x∈st,x∈top))->(top.length<=42)->(∀(s:au)(H':Hp),Same H H'->H s=none->H' s=some (.lst ((poF top st pl).map vn))->Q (.ref s) H')->kFK vs H Q Y
def kBP(B:Fx):Hs "put_over" ["top","stretch","place"] 1 (kFK):=by
 refine qK B.X B.d16 kAZ λ f a0 A p s0 H vs Q E N hr h=>?_;obtain⟨l,M,top,st,u,rfl,c,d,q,sub,Y,k⟩:=h
 refine⟨_,(kE (pst 3 N (jG jb jc yN (pv 0) (p1 (pix qB (pv 1) kJ))))
   (kE (pst 4 N (jG jb jc yN (pv 0) (p1 (pix qB (pv 1) (wU yQ kJ)))))
   (kL (kU (kX vK (kX vK (qD xE (pv 0) jA (qC (kX qY (pv 3) kJ))) (qU (p1 (pv 2)))) (qD xE (pv 0) (qC (pv 4)) jA)))))),?_⟩
 try dsimp only[qX]
 obtain⟨a,r,v⟩ : ∃ a r,st=a::r:=by
  match st,q with
  | a::r,_=>exact⟨a,r,rfl⟩
 obtain⟨D,b,x⟩ : ∃ D b,st=D++[b]:=⟨st.dropLast,st.getLast q,(eC q).symm⟩;have s:st.headD 0=a:=by rw[v];rfl
 have m:st.getLastD 0=b:=by rw[x,jf,iq];rfl
 have y:a∈top:=sub a (by rw[v];exact fc ..);have C:b∈top:=sub b (by rw[x];simp);have i:atI (st.map vn) 0=some (vn a):=by rw[v];exact jB (j:=0) rfl
 have g:atI (st.map vn) (-1)=some (vn b):=by rw[x,cy];exact yB _ _
 have ia:=fq y;have ib:=fq C;refine⟨_,rfl,.inl ⟨rfl,_,SqL.of c⟩,_,rfl,M,_,_,_,rfl,rfl,SqL.of d,i,l,top.map ci,a,top.idxOf a,rfl,rfl,(by rw[c,xD]),qO y,?_⟩;refine⟨_,rfl,.inl ⟨rfl,_,SqL.of c⟩,_,rfl,_,rfl,M,_,_,_,rfl,rfl,SqL.of d,g,l,top.map ci,b,top.idxOf b,rfl,rfl,(by rw[c,xD]),qO C,?_⟩
 have S:yA (top.map vn) none (some (((top.idxOf a:Nat):Int)+1))=(top.take (top.idxOf a+1)).map vn:=by
  rw[show(((top.idxOf a:Nat):Int)+1)=((top.idxOf a+1:Nat):Int) by omega,vQ _ (by rw[aj];omega),<-uz]
 have c2:yA (top.map vn) (some ((top.idxOf b:Nat):Int)) none=(top.drop (top.idxOf b)).map vn:=by
  rw[xZ _ (by rw[aj];omega),<-yj]
 refine⟨_,rfl,_,rfl,_,_,rfl,rfl,_,rfl,l,_,rfl,SqL.of c,λ p1 Z=>?_⟩;rw[S];have O:=kC Z (.lst ((top.take (top.idxOf a+1)).map vn));refine⟨_,rfl,yS1,λ p2 T=>?_⟩;have n:=kC T (.lst [vn u]);refine⟨p1,p2,_,_,rfl,rfl,n _ _ kA,kA,(by simp only[aj,bj,iC,tm,cx];exact fv (kQ (by omega))),λ p3 m3=>?_⟩;have I:=kC m3 (.lst ((top.take (top.idxOf a+1)).map vn++[vn u]));have o:=I _ _ (n _ _ (O _ _ c));refine⟨_,rfl,_,rfl,_,rfl,l,_,rfl,SqL.of o,λ U m4=>?_⟩;rw[c2];have J:=kC m4 (.lst ((top.drop (top.idxOf b)).map vn));refine⟨p3,U,_,_,rfl,rfl,J _ _ kA,kA,(by simp only[aj,bj,iC,tm,cx,iN];exact fv (kQ (by omega))),λ p5 G=>?_⟩;have g9:=kC G (.lst ((top.take (top.idxOf a+1)).map vn++[vn u]++(top.drop (top.idxOf b)).map vn));have L:=O.trans (n.trans (I.trans J));refine k p5 _ (L.trans g9) (L.free G) ?_;rw[kA];unfold poF;rw[s,m];simp
def LsAt.tail{H:Hp}{t:au}{b:List au}{Os:List (List Nat)}{Z:List Nat}(x:LsAt H t b (Os++[Z])):∃ ta' a,b=ta'++[a]/\H a=some (.lst (Z.map vn)):=by
 have l:=x.len;rw[bj,fj]at l;have c:b≠[]:=λ z=>by rw[z]at l;cases l
 refine⟨b.dropLast,b.getLast c,(eC c).symm,x.row Os.length _ Z ?_ ?_⟩
 ·rw[show Os.length=b.length-1 by omega,<-uf,fe c]
 ·rw[cu]
structure Gw(H:Hp)(w z o:au)(W:Rows)(ms:List Nat)(a b c:Nat):Prop where
 web:WebAt H w W
 tr:Tr W
 base:H z=some (.tup [vn a,vn b,vn c])
 ord:H o=some (.tup (ms.map vn))
 perm:ms.Perm (cq W.length)
 three:3<=W.length
 ab:Tri.E W a b
theorem Gw.kept{H H':Hp}{w z o:au}{W:Rows}{d:List Nat}{a b c:Nat}(h:Gw H w z o W d a b c)(g:Same H H'):Gw H' w z o W d a b c :=
 {h with web:=h.web.kept g,base:=g _ _ h.base,ord:=g _ _ h.ord}
inductive kFO(vs:List V)(H:Hp)(Q:VK)(Y:XK):Prop
 | mk:∀(w z o:au)(W:Rows)(ms:List Nat)(a b c:Nat),(vs=[.ref w,.ref z,.ref o])->(Gw H w z o W ms a b c)->((zG W a b c ms=none->∀ H',Same H H'->Q .non H'))->(∀(Fs Ts:List (List Nat)),zG W a b c ms=some (Fs,Ts)->∀(t f g:au)(fa ga:List au)(H':Hp),Same H H'->H' t=some (.tup [.ref f,.ref g])->LsAt H' f fa Fs->LsAt H' g ga Ts->Q (.ref t) H')->kFO vs H Q Y
def kPM(B:Fx):Hs "laid" ["web","base","thing"] 5 (kFO):=by
 refine qK B.X B.d17 kOV λ f bw A bi s0 H vs Q E nN hr h=>?_;obtain⟨w,z,o,W,d,a,b,c,rfl,G,kn,k⟩:=h
 refine⟨_,(kE (yE (zD (zC (pf (kBU B) hr (kI (pv 0) (kI (pv 1) (kI (pv 2) kY)))))) (kL (kU vI)) jC)
   (kE (pst 3 nN (qU kY))
   (kE (pst 4 nN (qU (p1 (jD cO rfl (B.z B.y12) Ca (p1 (qD sl_tup (pv 2) jA (qC kJ)))))))
   (kE (uJ (kIZ rfl (B.z B.y3) (p2 kJ (kR kP rfl (B.z B.y0) eV (p1 (pv 2))))) (pgn 5 nN) (kE (pst 6 nN (pf (dE B) hr (kI (pv 0) (kI (pix qB (pv 4) (wU yQ kJ)) (kI (qD sl_tup (pv 2) jA (qC (pv 5))) (kI (pix kZ (pv 2) (pv 5)) kY))))))
   (kE (yE (qN kMQ (pv 6) vI (jE _)) (kL (kU vI)) jC)
   (kE (qM (jG iR iS jW (pv 3) (p1 (pv 6))))
   (kL (qM (jG iR iS jW (pv 4) (p1 (pf (kBP B) hr (kI (pix qB (pv 4) (wU yQ kJ)) (kI (pv 6) (kI (pix kZ (pv 2) (pv 5)) kY))))))))))))
   (kL (kU (qG (p2 (pv 3) (pv 4))))))))),?_⟩
 try dsimp only[qX]
 have lm:d.length=W.length:=by rw[G.perm.length_eq,gv]
 have b6:d.Nodup:=G.perm.nodup_iff.mpr sh;have bx:=G.tr.le;have l3:=G.three;refine⟨_,rfl,_,rfl,_,rfl,w,z,o,W,a,b,c,d,rfl,G.web,G.tr.le,G.base,G.ord,G.perm,G.three,λ H1 g1=>⟨_,rfl,?_⟩⟩;by_cases l:d[0]?=some a/\d[1]?=some b/\d.getLast?=some c
 case neg =>
  rw[decide_eq_false l];exact zW (kn (by unfold zG;rw[if_neg l]) _ g1)
 rw[decide_eq_true l];refine xH ?_;have el:zG W a b c d=goF W d (d.length-2):=by unfold zG;rw[if_pos l]
 rw[el]at kn k;have G1:=G.kept g1;refine⟨yS0,λ f nf=>?_⟩;have gf:=kC nf (.lst []);have hf:=kA (H:=H1) (a:=f) (o:=.lst []);have G2:=G1.kept gf;have g2:=g1.trans gf;have aq:H f=none:=g1.free nf;generalize upd H1 f (.lst [])=H2 at *;refine⟨_,rfl,_,rfl,o,_,rfl,SqT.of G2.ord,?_,λ p1 n1=>?_⟩
 ·rintro⟨_,z⟩
  rw[show(2:Int)=((2:Nat):Int) from rfl,kLV (by rw[aj];omega),aj]at z;omega
 have c2:yA (d.map vn) none (some 2)=(d.take 2).map vn:=by rw[show(2:Int)=((2:Nat):Int) from rfl,vQ _ (by rw[aj];omega),<-uz]
 rw[c2];have h1:=kA (H:=H2) (a:=p1) (o:=.tup ((d.take 2).map vn));have I:=kC n1 (.tup ((d.take 2).map vn));refine⟨p1,_,rfl,.inr (SqT.of h1),λ D m1=>⟨yS1,λ g ng=>?_⟩⟩;have gq:=kC m1 (.lst ((d.take 2).map vn));have gg:=kC ng (.lst [.ref D]);have hq:=gg _ _ (kA (H:=upd H2 p1 (.tup ((d.take 2).map vn))) (a:=D) (o:=.lst ((d.take 2).map vn)));have hg:=kA (H:=upd (upd H2 p1 (.tup ((d.take 2).map vn))) D (.lst ((d.take 2).map vn))) (a:=g) (o:=.lst [.ref D]);have T:=I.trans (gq.trans gg);have nq:H2 D=none:=I.free m1;have am:H2 g=none:=(I.trans gq).free ng;have b4:=T _ _ hf;have G3:=G2.kept T;have g3:=g2.trans T;have as:H g=none:=g2.free am;have fg:f≠g:=kO hf am;have qf:D≠f:=(kO hf nq).symm
 have qg:D≠g:=λ z=>by
  rw[<-z]at ng;rw[kA]at ng;cases ng
 generalize upd (upd (upd H2 p1 (.tup ((d.take 2).map vn))) D (.lst ((d.take 2).map vn))) g (.lst [.ref D])=H3 at *
 have t2:d.take 2=[a,b]:=by
  obtain⟨q0,b2,_⟩:=l
  match d,q0,b2 with
  | x::y::d,e1,e2 =>
   have e1:x=a:=by simpa using e1
   have e2:y=b:=by simpa using e2
   rw[e1,e2]
   rfl
 have an:Top W (d.take 2) (d.take 2):=by
  rw[t2];refine⟨?_,λ x J=>J,λ x y ad=>?_⟩
  ·have:=(G.tr.nb.e G.ab).2.2
   simp[this.symm]
  ·rcases ad with⟨rfl,rfl⟩ | z
   ·exact G.ab
   ·exact absurd z id
 refine⟨_,rfl,o,_,rfl,.inr (SqT.of G3.ord),2,_,rfl,⟨by omega,by omega,(by rw[aj];omega),(by rw[aj];omega)⟩,?_⟩
 refine yG (lo:=2) (n:=((((d.map vn).length:Nat):Int)-2).toNat) (λ i σ O=>∃(x5 x6:Option V)(v S:List au)(fs m:List (List Nat)),σ=[some (.ref w),some (.ref z),some (.ref o),some (.ref f),some (.ref g),x5,x6]/\Same H O/\goF W d i=some (fs,m)/\fs.length=i/\m.length=i+1/\Top W (d.take (i+2)) (m.getLastD [])/\LsAt O f v fs/\LsAt O g S m/\(∀ x∈v,x≠f/\x≠g)/\∀ x∈S,x≠f/\x≠g)
  ⟨none,none,[],[D],[],[d.take 2],rfl,g3,rfl,rfl,rfl,an,⟨b4,rfl,λ i b Z e=>by simp at e⟩,(by
   exact⟨hg,rfl,λ i b Z e1 e2=>by
    match i with
    | 0=>cases e1;cases e2;exact hq
    | i+1=>simp at e1⟩),(λ x J=>by cases J),(λ x J=>by rw[bu.mp J];exact⟨qf,qg⟩)⟩ ?_ ?_
 ·rintro i σ O hi ⟨x5,x6,v,S,fs,m,rfl,g4,go,Y,r,tp,lf,lg,af,ag⟩
  rw[aj]at hi;have hi:i+2<W.length:=by omega
  have G4:=G.kept g4;have a6:m≠[]:=λ z=>by rw[z]at r;cases r
  have bl:m=m.dropLast++[m.getLastD []]:=by
   rw[jf,fe a6];exact(eC a6).symm
  obtain⟨b3,gl,a5,ba⟩:=LsAt.tail (by rw[<-bl];exact lg);have N:O g=some (.lst (b3.map V.ref++[.ref gl])):=by rw[lg.top,a5,cy];rfl
  have bo:d.getD (i+2) 0∉d.take (i+2):=by
   rw[av,ae (by omega)];intro h;obtain⟨j,hj,e⟩:=eZ.mp h;rw[cx]at hj;rw[AF]at e;have:=(Ac b6).mp e;omega
  have ax:d.take (i+1+2)=d.take (i+2)++[d.getD (i+2) 0]:=by
   rw[show i+1+2=i+2+1 by omega,iL,av,ae (show i+2<d.length by omega)]
   rfl
  have L:(m.getLastD []).length<=42:=by
   have:=tp.len;rw[cx]at this;omega
  have b0:d.getD (i+2) 0<W.length:=by
   rw[av,ae (by omega)];exact jt.mp (G.perm.mem_iff.mp (iO _))
  have U:(2+(i:Int))=((i+2:Nat):Int):=by omega
  have cA:yA (d.map vn) none (some (2+(i:Int)))=(d.take (i+2)).map vn:=by rw[U,vQ _ (by rw[aj];omega),<-uz]
  have a2:atI (d.map vn) (2+(i:Int))=some (vn (d.getD (i+2) 0)):=by
   rw[U];refine jB ?_;rw[az,av,ae (by omega)]
   rfl
  refine⟨_,rfl,_,rfl,_,rfl,g,_,_,_,rfl,rfl,SqL.of N,yB _ _,_,rfl,_,rfl,_,rfl,o,_,rfl,SqT.of G4.ord,?_,λ p np=>?_⟩
  ·rintro⟨_,z⟩
   rw[U,kLV (by rw[aj];omega),aj]at z;omega
  rw[cA];have I:=kC np (.tup ((d.take (i+2)).map vn));have hp:=kA (H:=O) (a:=p) (o:=.tup ((d.take (i+2)).map vn));have G5:=G4.kept I;have M:=I _ _ ba;have a8:=lf.kept I;have ap:=lg.kept I;have a1:=I _ _ N;have g5:=g4.trans I;generalize upd O p (.tup ((d.take (i+2)).map vn))=H5 at *;refine⟨_,rfl,_,rfl,o,_,_,_,rfl,rfl,SqT.of G5.ord,a2,w,gl,p,W,m.getLastD [],d.take (i+2),d.getD (i+2) 0,rfl,G5.web,G.tr,M,hp,L,(by rw[cx];omega),b0,tp.nd,tp.path,(λ no H6 g6=>?_),λ st aa s H6 g6 ns hs=>?_⟩
  ·refine⟨_,rfl,rfl,_,rfl,zW (kn ?_ _ (g5.trans g6))⟩
   have:=cG (mV go no) (d.length-2-(i+1));rwa[show i+1+(d.length-2-(i+1))=d.length-2 by omega]at this
  obtain⟨aw,sub,ne,_⟩:=tp.step G.tr.nb.sym bo aa;have br:=mW go aa;have bc:=g5.trans g6;have a0:=a8.kept g6;have bm:=ap.kept g6;have sf:s≠f:=(kO a8.top ns).symm;have sg:s≠g:=(kO ap.top ns).symm;have bt:v.length=i:=by rw[lf.len,Y]
  have b5:S.length=i+1:=by rw[lg.len,r]
  refine⟨_,rfl,rfl,_,rfl,xH ?_⟩;refine⟨_,rfl,.inl ⟨rfl,_,SqL.of a0.top⟩,_,rfl,f,_,_,rfl,rfl,a0.top,(by rw[aj,bt];exact kQ (by omega)),?_⟩;have a4:=a0.app hs (λ z=>(af f z).1 rfl) sf;have other:∀ b u,b≠f->H6 b=some u->upd H6 f (.lst (v.map V.ref++[.ref s])) b=some u:=λ b u n e=>by rw[kM n];exact e
  have ah:LsAt (upd H6 f (.lst (v.map V.ref++[.ref s]))) g S m:=bm.but λ b u hb e=>other b u (by
   rcases hb with rfl | hb
   ·exact fg.symm
   ·exact(ag b hb).1) e
  have bv:=other s _ sf hs;have al:Same H (upd H6 f (.lst (v.map V.ref++[.ref s]))):=qF aq bc;have b7:gl≠f:=(ag gl (by rw[a5];simp)).1;have a3:=other gl _ b7 (g6 _ _ M);have C:=other g _ fg.symm (g6 _ _ a1);generalize upd H6 f (.lst (v.map V.ref++[.ref s]))=H7 at *;have G7:=G.kept al;refine⟨_,rfl,.inl ⟨rfl,_,SqL.of C⟩,_,rfl,_,rfl,g,_,_,_,rfl,rfl,SqL.of C,yB _ _,_,rfl,_,rfl,_,rfl,o,_,_,_,rfl,rfl,SqT.of G7.ord,a2,gl,s,m.getLastD [],st,d.getD (i+2) 0,rfl,a3,bv,ne,sub,L,λ s' H8 g8 a7 b9=>?_⟩;have bn:=a4.kept g8;have a9:=ah.kept g8;have b1:s'≠f:=(kO a4.top a7).symm;have ac:s'≠g:=(kO ah.top a7).symm;refine⟨g,_,_,rfl,rfl,a9.top,(by rw[aj,b5];exact kQ (by omega)),?_⟩;have b8:=a9.app b9 (λ z=>(ag g z).2 rfl) ac;refine⟨_,_,v++[s],S++[s'],_,_,rfl,qF as (al.trans g8),br,(by simp[Y]),(by simp[r]),(by rw[cB,ax];exact aw),bn.but λ b u hb e=>?_,b8,λ x J=>?_,λ x J=>?_⟩
  ·have:b≠g:=by
    rcases hb with rfl | hb
    ·exact fg
    ·rcases ck.mp hb with q | q
     ·exact(af b q).2
     ·rw[bu.mp q];exact sg
   rw[kM this];exact e
  ·rcases ck.mp J with q | q
   ·exact af x q
   ·rw[bu.mp q];exact⟨sf,sg⟩
  ·rcases ck.mp J with q | q
   ·exact ag x q
   ·rw[bu.mp q];exact⟨b1,ac⟩
 ·rintro σ O ⟨x5,x6,v,S,fs,m,rfl,g4,go,Y,r,tp,lf,lg,af,ag⟩
  have en:((((d.map vn).length:Nat):Int)-2).toNat=d.length-2:=by rw[aj];omega
  rw[en]at go;refine⟨_,rfl,_,rfl,yS2,λ t nt=>?_⟩;have gt:=kC nt (.tup [.ref f,.ref g]);exact k fs m go t f g v S _ (g4.trans gt) kA (lf.kept gt) (lg.kept gt)
end
section
inductive kFP(vs:List V)(H:Hp)(Q:VK)(Y:XK):Prop
 | mk:∀(w z o:au)(W:Rows)(ms:List Nat)(a b c:Nat)(Fs Ts:List (List Nat)),(vs=[.ref w,.ref z,.ref o])->(Gw H w z o W ms a b c)->((Tri.E W a c/\(nxt W (a,c)).2=b))->(zG W a b c ms=some (Fs,Ts))->(∀(t f g:au)(fa ga:List au)(H':Hp),Same H H'->H' t=some (.tup [.ref f,.ref g])->LsAt H' f fa Fs->LsAt H' g ga Ts->Q (.ref t) H')->kFP vs H Q Y
def vX(B:Fx):Hs "must_be_laid" ["web","base","order"] 7 (kFP):=by
 refine qK B.X B.d18 fU λ f M A j N H S Q E I m h=>?_;obtain⟨w,z,o,W,x,a,b,c,D,s,rfl,G,d,q,k⟩:=h
 refine⟨_,(kE (qM (pf (bP B) m (p2 (pv 0) (pv 1))))
   (kE (pst 3 I (pf (kPM B) m (kI (pv 0) (kI (pv 1) (kI (pv 2) kY)))))
   (kE (yE (qN kMQ (pv 3) vI (jE _)) (kL gD) jC)
   (kL (kU (pv 3)))))),?_⟩
 try dsimp only[qX]
 refine⟨_,rfl,_,rfl,w,z,W,a,b,c,rfl,G.web,G.tr,G.base,d.1,d.2,λ O p=>?_⟩;refine⟨_,rfl,_,rfl,_,rfl,w,z,o,W,x,a,b,c,rfl,G.kept p,(λ n=>by rw[q]at n;cases n),λ l i e t f g y C u v J L r=>?_⟩;rw[q]at e;obtain⟨rfl,rfl⟩ : D=l/\s=i:=by injection e with e;injection e with e1 e2;exact⟨e1,e2⟩
 refine⟨_,rfl,rfl,_,rfl,xH ?_⟩;exact⟨_,rfl,k t f g y C u (p.trans v) J L r⟩
end
section
def SpK(S:List (Nat×Int×Int))(ts:List au):List (Key×V):=(S.zip ts).map λ q=>(cm (q.1.1:Int),V.ref q.2)
structure SpAt(H:Hp)(d:au)(S:List (Nat×Int×Int))(ts:List au):Prop where
 len:ts.length=S.length
 row:∀(i:Nat)(t:au)(s:Nat×Int×Int),ts[i]?=some t->S[i]?=some s->H t=some (.tup [.int s.2.1,.int s.2.2])
def kVL(H:Hp)(d:au)(U:Nat->Option (List Nat)):Prop:=∃ a,H d=some (.dK a)/\∀ p l,U p=some l->∃ b,jJ a (cm (p:Int))=some (.ref b)/\H b=some (.lst (l.map vn))
theorem gQ{c:Nat}:∀{l:List Nat},(∀ x∈l,x<=c)->l.sum<=c*l.length
 | [],_=>iA _
 | x::l,h=>by
  have h1:=h x (fc ..);have b:=gQ (l:=l) λ y a=>h y (eD _ a);rw[Ab,iC,Nat.mul_add];omega
inductive kFN(vs:List V)(H:Hp)(Q:VK)(Y:XK):Prop
 | mk:∀(d h q:au)(S:List (Nat×Int×Int))(ts:List au)(U:Nat->Option (List Nat))(ps:List Nat)(by':Int),(vs=[.ref d,.ref h,.ref q,.int by'])->(H d=some (.dK (SpK S ts)))->(SpAt H d S ts)->(kVL H h U)->(H q=some (.lst (ps.map vn)))->((∀ p∈ps,(U p).isSome))->(ps.length<=42)->((∀ p l,U p=some l->l.length<=42))->(S.length<=42)->((S.map (·.1)).Nodup)->(∀(d':au)(ts':List au)(H':Hp),(∀ b o,b≠d->H b=some o->H' b=some o)->(∃ o,H' d=some (.frz o (.dK (SpK S ts))))->H d'=none->H' d'=some (.dK (SpK (mvS S (ps.flatMap λ p=>(U p).getD []) by') ts'))->SpAt H' d' (mvS S (ps.flatMap λ p=>(U p).getD []) by') ts'->Q (.ref d') H')->kFN vs H Q Y
def uM(B:Fx):Hs "moved_right" ["spots","hung","places","by"] 1 (kFN):=by
 refine qK B.X B.d19 lD λ f aw A an s0 H vs Q E nN hr h=>?_;obtain⟨d,h,q,S,O,U,ps,m,rfl,hd,sp,hu,hq,g,b0,ul,ax,nd,k⟩:=h
 refine⟨_,(kE (pst 4 nN (sU (Nc:=["p","q","hung"]) (js:=[none,none,some 1]) rfl rfl (jP (pv 2)) (CS.of rfl rfl) rfl (λ C n r fp I=>(pgc 0)) (λ C n r fp I=>(show PI _ _ _ (kNJ K _) from(jP (jT (jS hr) (pv 2) (pv 0) (λ _ _=>rfl))))) (λ C n r fp I=>(pgc 1)) (λ C n r fp I D L=>(qT (jL (pv 1))))))
   (kL (kU (kGO (Nc:=["p","x","y","gone","by"]) (js:=[none,none,none,some 4,some 3]) rfl rfl (kBL (pv 0)) (CS.of rfl rfl) rfl (λ C n r fp I=>(show PG _ _ (mZ K 2 _) from jK rfl (kT (zY (i:=0) (show BZ (α:=Str) ["p","x","y","gone","by"] by decide +kernel) rfl (xw rfl)) (kT (show PG _ _ (mZ K 2 _) from jK rfl (kT (zY (i:=1) (show BZ (α:=Str) ["p","x","y","gone","by"] by decide +kernel) rfl (xw rfl)) (kT (zY (i:=2) (show BZ (α:=Str) ["p","x","y","gone","by"] by decide +kernel) rfl (xw rfl)) qV))) qV)))) (λ C n r fp I D L=>(qT (gG (jS hr) (pv 0) (kBM (qN (show OpR _ _ (rIn K false) from zN) (pv 0) (pv 3) rfl) (qG (p2 (kX qY (pv 1) (pv 4)) (pv 2))) (qG (p2 (pv 1) (pv 2))))))))))),?_⟩
 try dsimp only[qX]
 obtain⟨hk,h1,h2⟩:=id hu;refine⟨_,rfl,q,rfl,⟨_,SqL.of hq⟩,λ D nD=>?_⟩;refine jI (xs:=ps.map vn) (λ i N Y=>∃(x0 M:Option V),N=[x0,M,some (.ref h)]/\Same H Y/\Y D=some (.lst (((ps.take i).flatMap λ p=>(U p).getD []).map vn))) ⟨none,none,rfl,kC nD _,kA⟩ ?_ ?_ ?_
 ·rintro i N Y _ ⟨x0,M,rfl,g2,_⟩
  exact SqL.of (g2 _ _ hq)
 ·rintro i v N Y hv ⟨x0,M,rfl,g2,hD⟩
  rw[az]at hv;obtain⟨p,ep,rfl⟩:=bh.mp hv;obtain⟨l,el⟩:=jh.mp (g p (cv ep));obtain⟨b,vb,hb⟩:=h2 p l el;have hi:=(ak.mp ep).1
  have pl:((ps.take i).flatMap λ p=>(U p).getD []).length<=42*i:=by
   rw[yd];refine je (gQ (c:=42) λ x hx=>?_) (by rw[aj,cx];exact Az 42 (Nat.min_le_left _ _));obtain⟨y,_,rfl⟩:=iJ.mp hx
   cases e:U y with
   | none=>simp
   | some l'=>exact ul y l' e
  have ll:=ul p l el
  have dg:DGet Y h (vn p) (some (.ref b)):=by
   have:=DGet.k (k:=cm (p:Int)) (g2 _ _ h1);rw[vb]at this;exact this
  refine⟨_,rfl,_,rfl,h,_,rfl,dg,b,rfl,⟨_,SqL.of (g2 _ _ hb)⟩,?_⟩
  have tk:((ps.take (i+1)).flatMap λ p=>(U p).getD [])=((ps.take i).flatMap λ p=>(U p).getD [])++l:=by
   rw[iL,ep,iw,kb,qw,el]
   rfl
  rw[tk];generalize((ps.take i).flatMap λ p=>(U p).getD [])=G0 at *;refine jI (xs:=l.map vn) (λ j N H3=>∃(M:Option V),N=[some (vn p),M,some (.ref h)]/\Same H H3/\H3 D=some (.lst ((G0++l.take j).map vn))) ⟨_,rfl,g2,by rw[yo,iP];exact hD⟩ ?_ ?_ ?_
  ·rintro j N H3 _ ⟨M,rfl,g3,_⟩
   exact SqL.of (g3 _ _ hb)
  ·rintro j v N H3 hv ⟨M,rfl,g3,a5⟩
   rw[az]at hv;obtain⟨y,ey,rfl⟩:=bh.mp hv;have hj:=(ak.mp ey).1;refine⟨_,rfl,_,a5,(by rw[aj,bj,cx];exact xJ (by omega)),?_⟩;refine⟨_,rfl,qF nD g3,?_⟩;rw[iL,ey,iw,<-dh,cy (l₂:=[y])];exact kA
  ·rintro N H3 ⟨M,rfl,g3,a5⟩
   rw[aj,gn]at a5;exact⟨_,_,rfl,g3,a5⟩
 rintro N Y ⟨x0,M,rfl,g2,hD⟩;rw[aj,gn]at hD;generalize(ps.flatMap λ p=>(U p).getD [])=G at *;have ab:=g2 _ _ hd;have Dd:D≠d:=λ z=>by rw[z,ab]at hD;cases hD
 refine⟨_,rfl,d,_,rfl,.inl ⟨ab,λ o=>?_⟩⟩;have ag:upd Y d (.frz o (.dK (SpK S O))) D=some (.lst (G.map vn)):=by rw[kM Dd];exact hD
 have f2:∀ b u,b≠d->H b=some u->upd Y d (.frz o (.dK (SpK S O))) b=some u:=λ b u nb e=>by rw[kM nb];exact g2 _ _ e
 have fz:=kA (H:=Y) (a:=d) (o:=.frz o (.dK (SpK S O)))
 have free:∀ b,upd Y d (.frz o (.dK (SpK S O))) b=none->H b=none:=λ b hb=>by
  cases e:H b with
  | none=>rfl
  | some u =>
   by_cases z:b=d
   ·rw[z,fz]at hb
    cases hb
   ·rw[f2 b u z e]at hb
    cases hb
 generalize upd Y d (.frz o (.dK (SpK S O)))=H3 at *;refine λ J a7=>?_;have lS:=sp.len;have lK:(SpK S O).length=S.length:=by unfold SpK;rw[aj,AZ];omega
 refine gO (kvs:=SpK S O) (λ i N H4=>∃(x0 M x2:Option V)(g:List au),N=[x0,M,x2,some (.ref D),some (.int m)]/\Same H3 H4/\H4 J=some (.dK (SpK (mvS (S.take i) G m) g))/\SpAt H4 J (mvS (S.take i) G m) g) ⟨none,none,none,[],rfl,kC a7 _,kA,⟨rfl,λ i t s e=>by simp at e⟩⟩ ?_ ?_ ?_
 ·rintro i N H4 _ ⟨x0,M,x2,g,rfl,g4,_⟩
  exact g4 _ _ fz
 ·rintro i kv T N H4 a4 nT ⟨x0,M,x2,g,rfl,g4,hE,se⟩
  obtain⟨i1,i2,i3⟩ : ∃(i1:i<S.length)(i2:i<O.length),kv=(cm (S[i].1:Int),V.ref O[i]):=by
   have hi:=(ak.mp a4).1;rw[lK]at hi;refine⟨hi,by omega,?_⟩;unfold SpK at a4;rw[az,mf (z:=(S[i],O[i]'(by omega))) |>.mpr ⟨ae _,ae _⟩]at a4;exact(bg a4).symm
  subst i3;have eS:=ae i1;have a8:=sp.row i _ _ (ae i2) eS;have td:O[i]≠d:=λ z=>by rw[z,hd]at a8;cases a8
  have ac:=g4 _ _ (f2 _ _ td a8)
  have a6:∀ kv∈SpK (mvS (S.take i) G m) g,kv.1≠cm (S[i].1:Int):=λ kv hk z=>by
   obtain⟨⟨a1,a2⟩,hz,rfl⟩:=iJ.mp hk;have hm:=(zg hz).1;obtain⟨s',am,e'⟩:=iJ.mp hm;have e1:a1.1=s'.1:=by rw[<-e'];split<;>rfl
   have z':(cm (a1.1:Int):Key)=cm (S[i].1:Int):=z
   have Z:s'.1=S[i].1:=by
    have:=rj z';rw[<-e1];exact Int.ofNat.inj this
   obtain⟨j,hj,rfl⟩:=eZ.mp am
   have al:j<i:=by
    have:=hj;rw[cx]at this;omega
   rw[AF]at Z;have:=oq.mp nd j i (by rw[aj];omega) (by rw[aj];exact i1) al;rw[CC,CC]at this;exact this Z
  have a0:mvS (S.take (i+1)) G m=mvS (S.take i) G m++[if S[i].1∈G then(S[i].1,S[i].2.1+m,S[i].2.2) else S[i]]:=by
   unfold mvS;rw[iL,eS,iw,cy]
   rfl
  have lm:(mvS (S.take i) G m).length=i:=by unfold mvS;rw[aj,cx];omega
  generalize S[i]=sv at *;obtain⟨p,x,y⟩:=sv;generalize O[i]=t at *;have gT:=kC nT (.tup [kV (cm (p:Int)),V.ref t]);have hT:=kA (H:=H4) (a:=T) (o:=.tup [kV (cm (p:Int)),V.ref t]);have ap:=gT _ _ ac;have aq:=gT _ _ hE;have g5:=g4.trans gT;have a3:SpAt (upd H4 T (.tup [kV (cm (p:Int)),V.ref t])) J (mvS (S.take i) G m) g:=⟨se.len,λ j t' s' e1 Z=>gT _ _ (se.row j t' s' e1 Z)⟩;refine⟨T,_,rfl,SqT.of hT,rfl,_,_,rfl,_,_,rfl,t,_,rfl,SqT.of ap,rfl,_,_,rfl,_,_,rfl,rfl,?_⟩;generalize upd H4 T (.tup [kV (cm (p:Int)),V.ref t])=H5 at *;have ah:=g5 _ _ ag;have d2:∀ b u,b≠J->∀ z,H5 b=some u->upd H5 J z b=some u:=λ b u nb z e=>by rw[kM nb];exact e
  have put:∀(q:au)(H6:Hp)(s':Nat×Int×Int),Same H5 H6->s'.1=p->H6 q=some (.tup [.int s'.2.1,.int s'.2.2])->mvS (S.take (i+1)) G m=mvS (S.take i) G m++[s'] ->
    DPut H6 J (kV (cm (p:Int))) (.ref q) (upd H6 J (.dK (qS (SpK (mvS (S.take i) G m) g) (cm (p:Int)) (.ref q))))/\Same H3 (upd H6 J (.dK (qS (SpK (mvS (S.take i) G m) g) (cm (p:Int)) (.ref q)))) /\
    upd H6 J (.dK (qS (SpK (mvS (S.take i) G m) g) (cm (p:Int)) (.ref q))) J=some (.dK (SpK (mvS (S.take (i+1)) G m) (g++[q])))/\SpAt (upd H6 J (.dK (qS (SpK (mvS (S.take i) G m) g) (cm (p:Int)) (.ref q)))) J (mvS (S.take (i+1)) G m) (g++[q]):=by
   intro q H6 s' g6 e1 af ek;have aa:=g6 _ _ aq;have lu:g.length=i:=by rw[a3.len,lm]
   have lz:(SpK (mvS (S.take i) G m) g).length=i:=by unfold SpK;rw[aj,AZ,lm,lu];omega
   have a9:jJ (SpK (mvS (S.take i) G m) g) (cm (p:Int))=none:=by
    unfold jJ;rw[Cb,DV];intro kv hk;have:=a6 kv hk;simpa using this
   have ke:SpK (mvS (S.take (i+1)) G m) (g++[q])=qS (SpK (mvS (S.take i) G m) g) (cm (p:Int)) (.ref q):=by
    rw[kBK _ a9,ek];unfold SpK;rw[EX (by rw[lm,lu]),cy,<-e1]
    rfl
   refine⟨DPut.k (k:=cm (p:Int)) aa (by rw[lz];exact kQ (by omega)),qF a7 (g5.trans g6),by rw[kA,ke],⟨by rw[ek,bj,bj,a3.len];rfl,λ j t' as Z e3=>?_⟩⟩
   have st:∀(b:au)(xs:List V),H6 b=some (.tup xs)->upd H6 J (.dK (qS (SpK (mvS (S.take i) G m) g) (cm (p:Int)) (.ref q))) b=some (.tup xs):=λ b xs e=>by
    rw[kM λ z=>by rw[z,aa]at e;cases e];exact e
   rw[ek]at e3;by_cases hj:j<g.length
   ·rw[bf hj]at Z
    rw[bf (by rw[lm];omega)]at e3;exact st _ _ (g6 _ _ (a3.row j t' as Z e3))
   ·have ej:j=g.length:=by
     have:=(ak.mp Z).1;rw[bj,fj]at this;omega
    rw[ej,cu]at Z;rw[ej,a3.len,cu]at e3;cases Z
    cases e3
    exact st _ _ af
  refine⟨rfl,_,rfl,_,rfl,_,rfl,D,_,rfl,.inl (SqL.of ah),rfl,yZ _,_,rfl,?_⟩;rw[show kV (cm (p:Int))=vn p from rfl,wH];by_cases c:p∈G
  ·rw[decide_eq_true c]
   rw[if_pos c]at a0;refine zW ⟨_,rfl,_,rfl,_,_,rfl,rfl,_,rfl,yS2,λ q nq=>?_⟩;obtain⟨p1,p2,p3,p4⟩:=put q _ (p,x+m,y) (kC nq _) rfl kA a0;exact⟨_,p1,_,_,_,_,rfl,p2,p3,p4⟩
  ·rw[decide_eq_false c]
   rw[if_neg c]at a0;refine xH ⟨_,rfl,_,rfl,yS2,λ q nq=>?_⟩;obtain⟨p1,p2,p3,p4⟩:=put q _ (p,x,y) (kC nq _) rfl kA a0;exact⟨_,p1,_,_,_,_,rfl,p2,p3,p4⟩
 ·rintro N H4 ⟨x0,M,x2,g,rfl,g4,hE,se⟩
  rw[lK,gn]at hE se;exact k J g H4 (λ b u nb e=>g4 _ _ (f2 b u nb e)) ⟨o,g4 _ _ fz⟩ (free J a7) hE se
end
section
def SpAt.get{H:Hp}{d:au}{p:Nat}:∀{S:List (Nat×Int×Int)}{ts:List au},SpAt H d S ts->p∈S.map (·.1)->∃ t,jJ (SpK S ts) (cm (p:Int))=some (.ref t)/\H t=some (.tup [.int (atS S p).1,.int (atS S p).2]):=by
 intro S
 induction S with
 | nil=>intro ts _ h;cases h
 | cons s S ih =>
  intro ts a h
  match ts,a with
  | [],a=>exact absurd a.len (by simp)
  | t::ts,a =>
   have f:SpK (s::S) (t::ts)=(cm (s.1:Int),V.ref t)::SpK S ts:=rfl;by_cases c:s.1=p
   ·refine⟨t,?_,?_⟩
    ·rw[f]
     exact jU (by show(cm (s.1:Int):Key)=_;rw[c])
    ·have b:atS (s::S) p=s.2:=by
      unfold atS;rw[ph (by simpa using c)]
      rfl
     rw[b];exact a.row 0 t s rfl rfl
   ·have m:p∈S.map (·.1):=by
     rcases eK.mp h with q | q
     ·exact absurd q.symm c
     ·exact q
    obtain⟨g,h1,j⟩:=ih (ts:=ts) ⟨by have:=a.len;simpa using this,λ i t s n l=>a.row (i+1) t s (by simpa using n) (by simpa using l)⟩ m;refine⟨g,?_,?_⟩
    ·rw[f,jV (by
      show ¬ (cm (s.1:Int):Key)=cm (p:Int);intro q;have:=rj q;exact c (by omega))]
     exact h1
    ·have b:atS (s::S) p=atS S p:=by
      unfold atS;rw[qa (by simpa using c)]
     rw[b];exact j
inductive kLH(vs:List V)(H:Hp)(Q:VK)(Y:XK):Prop
 | mk:∀(a b:au)(l r:Int×Int),(vs=[.ref a,.ref b])->(H a=some (.tup [.int l.1,.int l.2]))->(H b=some (.tup [.int r.1,.int r.2]))->(∀(t:au)(H':Hp),Same H H'->H t=none->H' t=some (.tup [.int (ovr l r).1,.int (ovr l r).2])->Q (.ref t) H')->kLH vs H Q Y
def sZ(B:Fx):Hs "spot_over" ["left","right"] 1 (kLH):=by
 refine qK B.X B.d20 rV λ f m A d o H p Q E c q h=>?_;obtain⟨a,b,l,r,rfl,j,i,k⟩:=h
 refine⟨_,(kE (yC (pv 0) (jK (n:=2) rfl (kT (pgn 2 c) (kT (pgn 3 c) qV))))
   (kE (yC (pv 1) (jK (n:=2) rfl (kT (pgn 4 c) (kT (pgn 5 c) qV))))
   (kE (pst 6 c (kX gI (kX yL (kX qY (kX yL (pv 4) (pv 2)) (pv 5)) (pv 3)) kJ))
   (kL (kU (qG (p2 (kX qY (pv 2) (pv 6)) (kX qY (pv 3) (pv 6))))))))),?_⟩
 try dsimp only[qX]
 refine⟨_,rfl,a,_,rfl,SqT.of j,rfl,_,_,rfl,_,_,rfl,rfl,?_⟩;refine⟨_,rfl,b,_,rfl,SqT.of i,rfl,_,_,rfl,_,_,rfl,rfl,?_⟩;refine⟨_,rfl,_,rfl,_,_,rfl,rfl,_,rfl,_,_,rfl,rfl,_,rfl,_,_,rfl,rfl,_,_,rfl,rfl,⟨by decide,by decide⟩,?_⟩;refine⟨_,rfl,_,rfl,_,_,rfl,rfl,_,rfl,_,rfl,_,_,rfl,rfl,yS2,λ t g=>?_⟩;exact k t _ (kC g _) g kA
end
section
def RdS(H:Hp)(d:au)(S:List (Nat×Int×Int)):Prop:=∃ a,Rd H d (.dK (SpK S a))/\SpAt H d S a
def SpAt.to{H H':Hp}{d d':au}{S:List (Nat×Int×Int)}{ts:List au}(x:SpAt H d S ts)(g:∀ b xs,H b=some (.tup xs)->H' b=some (.tup xs)):SpAt H' d' S ts:=⟨x.len,λ i t s c a=>g _ _ (x.row i t s c a)⟩
def RdS.but{H H':Hp}{d x:au}{S:List (Nat×Int×Int)}(r:RdS H d S)(g:∀ b o,b≠x->H b=some o->H' b=some o)(nx:d≠x)(h:∀ xs,H x≠some (.tup xs)):RdS H' d S:=by
 obtain⟨c,a,f⟩:=r;refine⟨c,?_,f.to λ b xs e=>g _ _ (λ z=>h xs (z ▸ e)) e⟩;rcases a with e | ⟨o,e⟩
 ·exact .inl (g _ _ nx e)
 ·exact .inr ⟨o,g _ _ nx e⟩
def RdS.kept{H H':Hp}{d:au}{S:List (Nat×Int×Int)}(r:RdS H d S)(g:Same H H'):RdS H' d S:=by
 obtain⟨c,a,f⟩:=r;refine⟨c,?_,f.to λ b h e=>g _ _ e⟩;rcases a with e | ⟨o,e⟩
 ·exact .inl (g _ _ e)
 ·exact .inr ⟨o,g _ _ e⟩
theorem RdS.frz{H H':Hp}{d x:au}{S:List (Nat×Int×Int)}{kvs:List (Key×V)}(r:RdS H d S)(a:H x=some (.dK kvs))(g:∀ b o,b≠x->H b=some o->H' b=some o)(f:∃ o,H' x=some (.frz o (.dK kvs))):RdS H' d S:=by
 by_cases c:d=x
 ·subst c
  obtain⟨h,i,l⟩:=r
  have m:kvs=SpK S h:=by
   rcases i with e | ⟨o,e⟩
   ·rw[a]at e
    injection e with e
    injection e
   ·rw[a]at e
    cases e
  obtain⟨o,f⟩:=f;refine⟨h,.inr ⟨o,by rw[f,m]⟩,l.to λ b j e=>g _ _ (λ z=>by rw[z,a]at e;cases e) e⟩
 ·exact r.but g c λ j e=>by rw[a]at e;cases e
def SpAt.put{H:Hp}{D q:au}{S:List (Nat×Int×Int)}{ts:List au}{p:Nat}{x y:Int}(i:H D=some (.dK (SpK S ts)))(sp:SpAt H D S ts)(A:p∉S.map (·.1))(l:S.length<=42)(v:H q=some (.tup [.int x,.int y])) :
  DPut H D (vn p) (.ref q) (upd H D (.dK (SpK (S++[(p,x,y)]) (ts++[q]))))/\SpAt (upd H D (.dK (SpK (S++[(p,x,y)]) (ts++[q])))) D (S++[(p,x,y)]) (ts++[q]):=by
 have C:(SpK S ts).length=S.length:=by unfold SpK;rw[aj,AZ,sp.len];omega
 have a:jJ (SpK S ts) (cm (p:Int))=none:=by
  unfold jJ;rw[Cb,DV];intro G n;obtain⟨⟨f,I⟩,u,rfl⟩:=iJ.mp n;have B:=(zg u).1;have o:f.1≠p:=λ z=>A (z ▸ iJ.mpr ⟨f,B,rfl⟩);have:(cm (f.1:Int):Key)≠cm (p:Int):=λ z=>o (by have:=rj z;omega);simpa using this
 have r:SpK (S++[(p,x,y)]) (ts++[q])=qS (SpK S ts) (cm (p:Int)) (.ref q):=by
  rw[kBK _ a];unfold SpK;rw[EX sp.len.symm,cy]
  rfl
 refine⟨?_,⟨by rw[bj,bj,sp.len];rfl,λ j t s c d=>?_⟩⟩
 ·rw[r]
  exact DPut.k (k:=cm (p:Int)) i (by rw[C];exact kQ (by omega))
 ·have st:∀(b:au)(g:List V),H b=some (.tup g)->upd H D (.dK (SpK (S++[(p,x,y)]) (ts++[q]))) b=some (.tup g):=λ b g e=>by
   rw[kM λ z=>by rw[z,i]at e;cases e];exact e
  by_cases h:j<ts.length
  ·rw[bf h]at c
   rw[bf (by rw[<-sp.len];exact h)]at d;exact st _ _ (sp.row j t s c d)
  ·have m:j=ts.length:=by
    have:=(ak.mp c).1;rw[bj,fj]at this;omega
   rw[m,cu]at c;rw[m,sp.len,cu]at d;cases c
   cases d
   exact st _ _ v
def vG(kvs:List (Key×V))(k:Key)(v:V):(qS kvs k v).length<=kvs.length+1:=by
 unfold qS
 split<;>simp
def HuN(H:Hp)(d:au)(U:Nat->Option (List Nat))(n:Nat):Prop:=∃ a,H d=some (.dK a)/\a.length<=n/\∀ p l,U p=some l->∃ b,jJ a (cm (p:Int))=some (.ref b)/\H b=some (.lst (l.map vn))
def HuN.at{H:Hp}{d:au}{U:Nat->Option (List Nat)}{n:Nat}(h:HuN H d U n):kVL H d U:=by
 obtain⟨a,e,_,k⟩:=h;exact⟨a,e,k⟩
def HuN.but{H H':Hp}{h x:au}{U:Nat->Option (List Nat)}{n:Nat}(r:HuN H h U n)(g:∀ b o,b≠x->H b=some o->H' b=some o)(nx:h≠x)(d:∀ l:List Nat,H x≠some (.lst (l.map vn))):HuN H' h U n:=by
 obtain⟨a,e,le,k⟩:=r;refine⟨a,g _ _ nx e,le,λ p l q=>?_⟩;obtain⟨b,h1,c⟩:=k p l q;exact⟨b,h1,g _ _ (λ z=>d l (z ▸ c)) c⟩
def HuN.kept{H H':Hp}{h:au}{U:Nat->Option (List Nat)}{n:Nat}(r:HuN H h U n)(g:Same H H'):HuN H' h U n:=by
 obtain⟨a,e,le,k⟩:=r;refine⟨a,g _ _ e,le,λ p l q=>?_⟩;obtain⟨b,h1,c⟩:=k p l q;exact⟨b,h1,g _ _ c⟩
def HuN.put{H:Hp}{h b:au}{U U':Nat->Option (List Nat)}{n v:Nat}{l:List Nat}(r:HuN H h U n)(y:n<=42)(j:H b=some (.lst (l.map vn)))(i:∀ p l',U' p=some l'->(p=v/\l'=l)\/(p≠v/\U p=some l')):∃ H',DPut H h (vn v) (.ref b) H'/\(∀ c o,c≠h->H c=some o->H' c=some o)/\(∀ c,c≠h->H' c=H c)/\HuN H' h U' (n+1):=by
 obtain⟨a,e,le,k⟩:=r
 have st:∀(x:au)(d:List V),H x=some (.lst d)->upd H h (.dK (qS a (cm (v:Int)) (.ref b))) x=some (.lst d):=λ x d f=>by
  rw[kM λ z=>by rw[z,e]at f;cases f];exact f
 refine⟨_,DPut.k (k:=cm (v:Int)) e (kQ (by omega)),λ c o g s=>by rw[kM g];exact s,λ c g=>kM g,_,kA,?_,λ p l' q=>?_⟩
 ·have:=vG a (cm (v:Int)) (V.ref b)
  omega
 rw[xS];by_cases c:p=v
 ·rw[if_pos (by rw[c])]
  rcases i p l' q with⟨_,rfl⟩ | q
  ·exact⟨b,rfl,st _ _ j⟩
  ·exact absurd c q.1
 ·rw[if_neg (λ q=>c (by have:=rj q;omega))]
  rcases i p l' q with⟨z,_⟩ | q
  ·exact absurd z c
  ·obtain⟨m,h1,u⟩:=k p l' q.2
   exact⟨m,h1,st _ _ u⟩
def xQ(a:List Nat)(i:Nat)(V:Nat->List Nat):Nat->Option (List Nat):=λ p=>if p∈a.take (i+2) then some (V p) else none
def xK{H X X':Hp}{x:au}(s:Same H X)(g:∀ b o,b≠x->X b=some o->X' b=some o)(f:H x=none):Same H X':=λ b o e=>g b o (λ z=>by rw[z,f]at e;cases e) (s b o e)
def tY{f l:Nat}{M:List Nat}:yA ((f::M++[l]).map vn) (some 1) (some (-1))=M.map vn:=by
 unfold yA
 have b:HT.sIx ((f::M++[l]).map vn).length 0 (some 1)=1:=by
  rw[show(1:Int)=((1:Nat):Int) from rfl,HT.sIx_nat];simp
 have a:HT.sIx ((f::M++[l]).map vn).length ((f::M++[l]).map vn).length (some (-1))=M.length+1:=by
  show(if(-1:Int)<0 then((-1:Int)+((((f::M++[l]).map vn).length:Nat):Int)).toNat else min (-1:Int).toNat (((f::M++[l]).map vn).length))=_;rw[if_pos (by decide)];simp only[aj,bj,iC,tm];omega
 rw[b,a];simp
def qW{a:List Nat}{i:Nat}{V:Nat->List Nat}{p:Nat}(h:p∈a.take (i+2)):xQ a i V p=some (V p):=by
 unfold xQ;rw[if_pos h]
def wJ{a:List Nat}{i:Nat}{V:Nat->List Nat}{M:List Nat}(h:∀ p∈M,p∈a.take (i+2)):(M.flatMap λ p=>(xQ a i V p).getD [])=M.flatMap V:=by
 show(M.map _).flatten=(M.map _).flatten
 congr 1
 refine yi λ p hp=>?_;rw[qW (h p hp)]
 rfl
structure GOk(ms:List Nat)(Fs Ts:List (List Nat)):Prop where
 lm:ms.length=Fs.length+2
 lt:Ts.length=Fs.length+1
 le:ms.length<=42
 nd:ms.Nodup
 step:∀ i F T,Fs[i]?=some F->Ts[i]?=some T->∃ f M l,F=f::M++[l]/\F.length<=42/\(∀ x∈F,x∈T)/\(∀ x∈T,x∈ms.take (i+2))/\T.Nodup
 inv:∀ i,i<=Fs.length->GI ms Ts i (gF ms Fs Ts i).1 (gF ms Fs Ts i).2
structure GrI(H0 H:Hp)(sp hu td:au)(ds:List au)(ms:List Nat)(Fs Ts:List (List Nat))(i:Nat):Prop where
 same:Same H0 H
 fs:H0 sp=none
 fh:H0 hu=none
 ft:H0 td=none
 told:H td=some (.lst (ds.map V.ref))
 len:ds.length=i+1
 last:ds[i]?=some sp
 cur:∃ ts,H sp=some (.dK (SpK (gF ms Fs Ts i).1 ts))/\SpAt H sp (gF ms Fs Ts i).1 ts
 old:∀ j d,ds[j]?=some d->RdS H d (gF ms Fs Ts j).1
 hung:HuN H hu (xQ ms i (gF ms Fs Ts i).2) (i+2)
 hn:hu∉ds
 fd:∀ d∈ds,H0 d=none
theorem GrI.kept{l H H':Hp}{sp a m:au}{c:List au}{f:List Nat}{h n:List (List Nat)}{i:Nat}(J:GrI l H sp a m c f h n i)(g:Same H H'):GrI l H' sp a m c f h n i:=by
 obtain⟨o,e,p⟩:=J.cur;exact⟨J.same.trans g,J.fs,J.fh,J.ft,g _ _ J.told,J.len,J.last,⟨o,g _ _ e,p.to λ b q e=>g _ _ e⟩,λ j d e=>(J.old j d e).kept g,J.hung.kept g,J.hn,J.fd⟩
inductive kAT(vs:List V)(H:Hp)(Q:VK)(Y:XK):Prop
 | mk:∀(o f g:au)(fa ga:List au)(ms:List Nat)(Fs Ts:List (List Nat)),(vs=[.ref o,.ref f,.ref g])->(H o=some (.tup (ms.map vn)))->(LsAt H f fa Fs)->(LsAt H g ga Ts)->(GOk ms Fs Ts)->(∀(td:au)(ds:List au)(H':Hp),Same H H'->H' td=some (.lst (ds.map V.ref))->ds.length=Fs.length+1->(∀ j d,ds[j]?=some d->RdS H' d (gF ms Fs Ts j).1)->(∀ d∈ds,H d=none)->Q (.ref td) H')->kAT vs H Q Y
def fL(B:Fx):Hs "grids_by" ["order","found","tops"] 3 (kAT):=by
 refine qK B.X B.d21 kBG λ f el A e5 s0 H vs Q E nN hr h=>?_;obtain⟨o,f,g,fa,ga,m,Fs,Ts,rfl,ho,hf,hg,ok,k⟩:=h
 refine⟨_,(kE (kPC (i:=3) (Nc:=["p"]) (js:=[none]) rfl rfl nN rfl (xw rfl) (yR (qD yJ (pv 0) jA (qC kJ))) (CS.of rfl rfl) rfl (λ C Y Z fp a0=>(pgc 0)) (λ C Y Z fp a0 D L=>(qT (gG (jS hr) (pv 0) (qG (p2 kJ kJ))))))
   (kE (pst 4 nN (kGO (Nc:=["p"]) (js:=[none]) rfl rfl (yR (qD yJ (pv 0) jA (qC kJ))) (CS.of rfl rfl) rfl (λ C Y Z fp a0=>(pgc 0)) (λ C Y Z fp a0 D L=>(qT (gG (jS hr) (pv 0) (qU (p1 (pv 0))))))))
   (kE (pst 5 nN (qU (p1 (pv 3))))
   (kE (uJ (kPD false true true rfl (B.z B.y13) (kI (qD yJ (pv 0) (qC kJ) jA) (kI (pv 1) (kI (pv 2) kY)))) (jK (n:=3) rfl (kT (pgn 6 nN) (kT (pgn 7 nN) (kT (pgn 8 nN) qV)))) (kE (pst 9 nN (pix qB (pv 7) (wU yQ kJ)))
   (kE (pst 3 nN (pf (uM B) hr (kI (pv 3) (kI (pv 4) (kI (qD xE (pv 7) (qC kJ) (qC (wU yQ kJ))) (kI kJ kY))))))
   (kE (pst 3 nN (pf (uM B) hr (kI (pv 3) (kI (pv 4) (kI (qD xE (pv 8) (qC (jG jb jc yN (pv 8) (p1 (pv 9)))) jA) (kI kJ kY))))))
   (kE (uV (jS hr) (pv 3) (pv 6) (pf (sZ B) hr (p2 (jT (jS hr) (pv 3) (pix qB (pv 7) kJ) (λ _ _=>rfl)) (jT (jS hr) (pv 3) (pv 9) (λ _ _=>rfl)))) rfl)
   (kE (uV (jS hr) (pv 4) (pv 6) (kX vK (qU (p1 (pv 6))) (sU (Nc:=["p","q","hung"]) (js:=[none,none,some 4]) rfl rfl (jP (qD xE (pv 7) (qC kJ) (qC (wU yQ kJ)))) (CS.of rfl rfl) rfl (λ C Y Z fp a0=>(pgc 0)) (λ C Y Z fp a0=>(show PI _ _ _ (kNJ K _) from(jP (jT (jS hr) (pv 2) (pv 0) (λ _ _=>rfl))))) (λ C Y Z fp a0=>(pgc 1)) (λ C Y Z fp a0 D L=>(qT (jL (pv 1)))))) rfl)
   (kL (qM (jG iR iS jW (pv 5) (p1 (pv 3)))))))))))
   (kL (kU (pv 5))))))),?_⟩
 try dsimp only[qX]
 have l2:2<=(m.map vn).length:=by rw[aj];have:=ok.lm;omega
 have e9:(m.take 2).length=2:=by rw[cx];have:=ok.lm;omega
 have nd2:(m.take 2).Nodup:=ok.nd.sublist (um _ _)
 have c2:yA (m.map vn) none (some 2)=(m.take 2).map vn:=by rw[show(2:Int)=((2:Nat):Int) from rfl,vQ _ l2,<-uz]
 refine⟨_,rfl,2,rfl,o,_,rfl,ho,λ p1 H1 g1 ag=>?_⟩;rw[c2]at ag;have g1:Same H H1:=g1;refine⟨p1,rfl,⟨_,SqT.of ag⟩,λ sp al=>?_⟩;refine xR (xs:=(m.take 2).map vn) (λ i O H2=>∃(x0:Option V)(ts:List au),O=[x0]/\Same H1 H2/\H2 sp=some (.dK (SpK (((m.take 2).take i).map λ p=>(p,0,0)) ts))/\SpAt H2 sp (((m.take 2).take i).map λ p=>(p,0,0)) ts) ⟨none,[],rfl,kC al _,kA,⟨rfl,λ i t s e=>by simp at e⟩⟩ ?_ ?_ ?_
 ·rintro i O H2 _ ⟨x0,ts,rfl,g2,_⟩
  exact SqT.of (g2 _ _ ag)
 ·rintro i v O H2 hv ⟨x0,ts,rfl,g2,hD,se⟩
  rw[az]at hv;obtain⟨p,ep,rfl⟩:=bh.mp hv;have hi:=(ak.mp ep).1;refine⟨_,rfl,yS2,λ t nt=>?_⟩;have gt:=kC nt (.tup [.int 0,.int 0]);have tk:(m.take 2).take (i+1)=(m.take 2).take i++[p]:=by rw[iL,ep];rfl
  have np:p∉(((m.take 2).take i).map λ p=>(p,(0:Int),(0:Int))).map (·.1):=λ z=>by
   rw[vw]at z;obtain⟨p',e8,e'⟩:=iJ.mp z;have e':p'=p:=e';have:((m.take 2).take i++[p]).Nodup:=by rw[<-tk];exact nd2.sublist (um _ _)
   exact(dc.mp this).2.2 p' e8 p (by simp) e'
  obtain⟨d1,G⟩:=SpAt.put (q:=t) (p:=p) (x:=0) (y:=0) (gt _ _ hD) (se.to (d':=sp) λ b xs e=>gt _ _ e) np (by rw[aj,cx];omega) kA;refine⟨_,d1,_,ts++[t],rfl,?_,?_,?_⟩
  ·exact qF al (g2.trans gt)
  ·rw[tk,cy]
   exact kA
  ·rw[tk,cy]
   exact G
 rintro O H2 ⟨x0,ts,rfl,g2,hS,sS⟩;rw[aj,gn]at hS sS;have dz:(m.take 2).map (λ p=>(p,(0:Int),(0:Int)))=(gF m Fs Ts 0).1:=rfl;rw[dz]at hS sS;have gS:=g1.trans g2;have bn:H sp=none:=g1.free al
 have da:=gS _ _ ho
 refine⟨_,rfl,2,rfl,o,_,rfl,da,λ p2 H3 g3 ac=>?_⟩;rw[c2]at ac;have g3:Same H2 H3:=g3;refine⟨p2,rfl,⟨_,SqT.of ac⟩,λ hu am=>?_⟩;refine xR (xs:=(m.take 2).map vn) (λ i O H4=>∃(x0:Option V),O=[x0]/\Same H3 H4/\HuN H4 hu (λ p=>if p∈(m.take 2).take i then some [p] else none) i) ⟨none,rfl,kC am _,⟨_,kA,be _,λ p l z=>by have z:(if p∈(m.take 2).take 0 then some [p] else none)=some l:=z;rw[yo,if_neg (by simp)]at z;cases z⟩⟩ ?_ ?_ ?_
 ·rintro i O H4 _ ⟨x0,rfl,g4,_⟩
  exact SqT.of (g4 _ _ ac)
 ·rintro i v O H4 hv ⟨x0,rfl,g4,hh⟩
  rw[az]at hv;obtain⟨p,ep,rfl⟩:=bh.mp hv;have hi:=(ak.mp ep).1;refine⟨_,rfl,_,rfl,yS1,λ t nt=>?_⟩;have gt:=kC nt (.lst [vn p]);have tk:(m.take 2).take (i+1)=(m.take 2).take i++[p]:=by rw[iL,ep];rfl
  obtain⟨H5,d1,G,d3,d4⟩:=(hh.kept gt).put (b:=t) (v:=p) (l:=[p]) (U':=λ q=>if q∈(m.take 2).take (i+1) then some [q] else none) (by omega) kA (λ q l' e=>by
   by_cases c:q=p
   ·left
    rw[c,if_pos (by rw[tk];simp)]at e;exact⟨c,(bg e).symm⟩
   ·right
    refine⟨c,?_⟩;rw[tk]at e;simpa[c] using e)
  refine⟨H5,d1,_,rfl,λ b ob e=>?_,d4⟩;have:=gt _ _ (g4 _ _ e);exact G _ _ (λ z=>by rw[z,am]at e;cases e) this
 rintro O H4 ⟨ei,rfl,g4,hh⟩;rw[aj,gn,e9]at hh;have b2:=g3.trans g4;have an:H2 hu=none:=g3.free am;refine⟨_,rfl,yS1,λ td b7=>?_⟩;have gt:=kC b7 (.lst [V.ref sp]);have a9:=b2.trans gt;have bo:=a9 _ _ hS
 have bl:GrI H (upd H4 td (.lst [V.ref sp])) sp hu td [sp] m Fs Ts 0:=by
  refine⟨gS.trans a9,bn,gS.free an,(gS.trans b2).free b7,kA,rfl,rfl,⟨ts,bo,sS.to λ b xs e=>a9 _ _ e⟩,λ j d e=>?_,?_,λ z=>?_,λ d hd=>by rw[bu.mp hd];exact bn⟩
  ·cases j with
   | zero =>
    cases e
    exact⟨ts,.inl bo,sS.to λ b xs e=>a9 _ _ e⟩
   | succ j=>simp at e
  ·obtain⟨cz,e1,e2,e3⟩:=hh.kept gt
   exact⟨cz,e1,e2,λ p l z=>e3 p l z⟩
  ·rw[bu.mp z,hS]at an
   cases an
 clear hh hS sS bo an;have gH:=bl.same;generalize upd H4 td (.lst [V.ref sp])=H6 at *;have c3:yA (m.map vn) (some 2) none=(m.drop 2).map vn:=by rw[show(2:Int)=((2:Nat):Int) from rfl,xZ _ l2,<-yj]
 refine⟨_,rfl,2,rfl,o,_,rfl,gH _ _ ho,λ p3 H7 g7 aq=>?_⟩;rw[c3]at aq;have g7:Same H6 H7:=g7;have b6:=(hf.kept gH).kept g7;have b4:=(hg.kept gH).kept g7;refine⟨_,rfl,_,rfl,p3,f,g,rfl,⟨_,SqT.of aq⟩,⟨_,SqL.of b6.top⟩,⟨_,SqL.of b4.top⟩,?_⟩;have ld:((m.drop 2).map vn).length=Fs.length:=by rw[aj,iN];have:=ok.lm;omega
 refine kNO (xs:=(m.drop 2).map vn) (ys:=fa.map V.ref) (zs:=ga.map V.ref) (λ i O H8=>∃(sp hu td:au)(ds:List au)(x6 x7 x8 x9:Option V),O=[some (.ref o),some (.ref f),some (.ref g),some (.ref sp),some (.ref hu),some (.ref td),x6,x7,x8,x9]/\GrI H H8 sp hu td ds m Fs Ts i/\H8 p3=some (.tup ((m.drop 2).map vn))) (by rw[ld,aj,b6.len];exact be _) (by rw[ld,aj,b4.len,ok.lt];omega) ⟨sp,hu,td,[sp],_,_,_,_,rfl,bl.kept g7,aq⟩ ?_ ?_ ?_
 ·rintro i O H8 _ ⟨sp,hu,td,ds,x6,x7,x8,x9,rfl,J,hp⟩
  exact⟨SqT.of hp,SqL.of (J.same _ _ hf.top),SqL.of (J.same _ _ hg.top)⟩
 ·clear bl gH a9 b2 g4 g3 g2 ag ac aq g7 b6 b4 gt da bn gS g1 al am b7
  clear sp hu td;rintro i x y z T O H8 ex ey ez nT ⟨sp,hu,td,ds,x6,x7,x8,x9,rfl,J,hp⟩;rw[az]at ex ey ez;obtain⟨v,ev,rfl⟩:=bh.mp ex;obtain⟨fi,ef,rfl⟩:=bh.mp ey;obtain⟨gi,eg,rfl⟩:=bh.mp ez;clear ex ey ez;have iF:i<Fs.length:=by rw[<-hf.len];exact(ak.mp ef).1
  have iT:i<Ts.length:=by rw[ok.lt];omega
  have eF:=ae iF;have eT:=ae iT;have hF:=hf.row i fi _ ef eF;have hT:=hg.row i gi _ eg eT;have ed:=ok.le;have eh:=ok.lm;rw[BX]at ev;obtain⟨f0,M,r,d8,bw,FT,TM,dm⟩:=ok.step i _ _ eF eT
  have gd:gF m Fs Ts (i+1)=gst (gF m Fs Ts i).1 (gF m Fs Ts i).2 v (f0::M++[r]) Ts[i]:=by
   show gst _ _ (m.getD (i+2) 0) (Fs.getD i []) (Ts.getD i [])=_;rw[av,av,av,AB i 2,ev,eF,eT,yp,yp,yp,d8]
  have I:=ok.inv i (by omega);rw[d8]at hF FT bw;have h1:=J.old;generalize Ts[i]=U at *;generalize hS:(gF m Fs Ts i).1=S at *;generalize hV:(gF m Fs Ts i).2=V at *;have fT:=FT f0 (by simp);have lT:=FT r (by simp);have MT:∀ p∈M,p∈m.take (i+2):=λ p hp=>TM p (FT p (by simp[hp]));have cb:atI ((f0::M++[r]).map vn) 0=some (vn f0):=jB (j:=0) rfl;have cd:atI ((f0::M++[r]).map vn) (-1)=some (vn r):=by rw[cy];exact yB _ _
  have lS:S.length<=42:=by
   have:=congrArg ip I.fst;rw[aj,cx]at this;omega
  have eb:U.length<=42:=by
   have:=eO dm TM;rw[cx]at this;omega
  have bi:∀ p l,xQ m i V p=some l->l.length<=42:=λ p l e=>by
   unfold xQ at e
   split at e
   ·rename_i hp
    cases e
    have:=I.few p hp;omega
   ·cases e
  have gA:=kC nT (.tup [vn v,.ref fi,.ref gi]);have e4:=kA (H:=H8) (a:=T) (o:=.tup [vn v,.ref fi,.ref gi]);have JA:=J.kept gA;have d6:=gA _ _ hp;refine⟨T,_,rfl,SqT.of e4,rfl,_,_,rfl,_,_,rfl,_,_,rfl,rfl,?_⟩;generalize upd H8 T (.tup [vn v,.ref fi,.ref gi])=H9 at *;clear J hp;refine⟨_,rfl,_,rfl,fi,_,_,_,rfl,rfl,SqL.of (JA.same _ _ hF),cd,?_⟩;refine⟨_,rfl,_,rfl,_,rfl,1,rfl,_,rfl,_,rfl,fi,_,rfl,SqL.of (JA.same _ _ hF),λ q1 n1=>?_⟩;rw[tY];have gB:=kC n1 (.lst (M.map vn));have d0:=kA (H:=H9) (a:=q1) (o:=.lst (M.map vn));have JB:=JA.kept gB;have br:=gB _ _ d6;generalize upd H9 q1 (.lst (M.map vn))=Ha at *;obtain⟨ts,a3,bx⟩:=JB.cur;rw[hS]at a3 bx;have a1:=JB.hung;rw[hV]at a1;refine⟨sp,hu,q1,S,ts,_,M,1,rfl,a3,bx,a1.at,d0,(λ p hp=>by rw[qW (MT p hp)];rfl),(by simp at bw;omega),bi,lS,(by rw[I.fst];exact ok.nd.sublist (um _ _)),λ d1 dp Hb kB fB nd1 b8 bt=>?_⟩;rw[wJ MT]at b8 bt;have cn:sp∈ds:=cv JB.last;have c6:hu≠sp:=λ z=>JB.hn (z ▸ cn);have sB:Same H Hb:=xK JB.same kB JB.fs;have tB:=kB td _ (λ z=>by rw[<-z,JB.told]at a3;cases a3) JB.told;have aw:=kB p3 _ (λ z=>by rw[<-z,br]at a3;cases a3) br;have oB:∀ j d,ds[j]?=some d->RdS Hb d (gF m Fs Ts j).1:=λ j d e=>(JB.old j d e).frz a3 kB fB;have hB:=a1.but kB c6 (λ l e=>by rw[a3]at e;cases e);have dy:H d1=none:=JB.same.free nd1;have c8:hu≠d1:=λ z=>by obtain⟨kv,e,_⟩:=a1;rw[z,nd1]at e;cases e
  have ax:(mvS S (M.flatMap V) 1).map (·.1)=m.take (i+2):=by rw[uX,I.fst]
  have d9:(mvS S (M.flatMap V) 1).length<=42:=by rw[kGT];exact lS
  generalize dx:mvS S (M.flatMap V) 1=S1 at *;have J4:=JB.ft;have J5:=JB.fh;have Jn:=JB.hn;have Jl:=JB.len;have dk:=JB.fd
  clear JB a1 a3 bx kB fB br JA d6 gB gA d0 n1
  have b9:=sB _ _ hT;refine⟨_,rfl,_,rfl,_,rfl,_,rfl,.inl ⟨rfl,_,SqL.of b9⟩,_,rfl,gi,U.map ci,r,U.idxOf r,rfl,rfl,(by rw[b9,xD]),qO lT,_,rfl,gi,_,rfl,SqL.of b9,λ q2 n2=>?_⟩
  have c4:yA (U.map vn) (some ((U.idxOf r:Nat):Int)) none=(U.drop (U.idxOf r)).map vn:=by
   rw[xZ _ (by rw[aj];exact fv (fq lT)),<-yj]
  rw[c4];have gC:=kC n2 (.lst ((U.drop (U.idxOf r)).map vn));have co:=kA (H:=Hb) (a:=q2) (o:=.lst ((U.drop (U.idxOf r)).map vn));have sC:=sB.trans gC;have tC:=gC _ _ tB;have bc:=gC _ _ aw;have oC:∀ j d,ds[j]?=some d->RdS _ d (gF m Fs Ts j).1:=λ j d e=>(oB j d e).kept gC;have hC:=hB.kept gC;have N:=gC _ _ b8;have as:=bt.to (d':=d1) λ b xs e=>gC _ _ e;generalize upd Hb q2 (.lst ((U.drop (U.idxOf r)).map vn))=Hc at *;clear hB oB tB aw b8 bt gC sB;have DT:∀ p∈U.drop (U.idxOf r),p∈m.take (i+2):=λ p hp=>TM p (Aj hp);refine⟨d1,hu,q2,S1,dp,_,U.drop (U.idxOf r),2,rfl,N,as,hC.at,co,(λ p hp=>by rw[qW (DT p hp)];rfl),(by rw[iN];omega),bi,d9,(by rw[ax];exact ok.nd.sublist (um _ _)),λ G b1 Hd kD fD a5 a7 a8=>?_⟩;rw[wJ DT]at a7 a8;have sD:Same H Hd:=xK sC kD dy;have tD:=kD td _ (λ z=>by rw[<-z,tC]at N;cases N) tC;have bm:=kD p3 _ (λ z=>by rw[<-z,bc]at N;cases N) bc
  have oD:∀ j d,ds[j]?=some d->RdS Hd d (gF m Fs Ts j).1/\d≠G:=λ j d e=>⟨(oC j d e).frz N kD fD,λ z=>by
   obtain⟨db,rd,_⟩:=oC j d e;rw[z]at rd;rcases rd with q | ⟨ob,q⟩
   ·rw[a5]at q;cases q
   ·rw[a5]at q;cases q⟩
  have hD:=hC.but kD c8 (λ l e=>by rw[N]at e;cases e);have aa:hu≠G:=λ z=>by obtain⟨kv,e,_⟩:=hC;rw[z,a5]at e;cases e
  have b5:H G=none:=sC.free a5;have a4:(mvS S1 ((U.drop (U.idxOf r)).flatMap V) 2).map (·.1)=m.take (i+2):=by rw[uX,ax]
  have c7:(mvS S1 ((U.drop (U.idxOf r)).flatMap V) 2).length<=42:=by rw[kGT];exact d9
  generalize du:mvS S1 ((U.drop (U.idxOf r)).flatMap V) 2=S2 at *
  clear hC oC tC bc N as kD fD sC co n2
  obtain⟨t1,v1,dd⟩:=a8.get (p:=f0) (by rw[a4];exact TM _ fT);obtain⟨t2,v2,dn⟩:=a8.get (p:=r) (by rw[a4];exact TM _ lT)
  have cp:DGet Hd G (vn f0) (some (.ref t1)):=by
   have:=DGet.k (k:=cm (f0:Int)) a7;rw[v1]at this;exact this
  have c5:DGet Hd G (vn r) (some (.ref t2)):=by
   have:=DGet.k (k:=cm (r:Int)) a7;rw[v2]at this;exact this
  refine⟨_,rfl,_,rfl,fi,_,_,_,rfl,rfl,SqL.of (sD _ _ hF),cb,G,_,rfl,cp,_,rfl,_,rfl,G,_,rfl,c5,t1,t2,atS S2 f0,atS S2 r,rfl,dd,dn,λ t3 He gE n3 h3=>?_⟩
  have ch:v∉m.take (i+2):=by
   have:=uW ok.nd (k:=i+2) (j:=i+2) (be _) (by omega);rw[av,AB i 2,ev,AB 2 i]at this;exact this
  have cl:(gF m Fs Ts (i+1)).1=S2++[(v,(ovr (atS S2 f0) (atS S2 r)).1,(ovr (atS S2 f0) (atS S2 r)).2)]:=by
   rw[gd];unfold gst;have x1:(f0::M++[r]).tail.dropLast=M:=by simp
   have x2:(f0::M++[r]).getLastD 0=r:=by rw[jf,iq];rfl
   have x3:(f0::M++[r]).headD 0=f0:=rfl;rw[x1,x2,x3,dx,du]
  have e0:(gF m Fs Ts (i+1)).2=λ p=>if p=v then v::M.flatMap V else V p:=by
   rw[gd];unfold gst;have x1:(f0::M++[r]).tail.dropLast=M:=by simp
   rw[x1]
  have sE:=sD.trans gE;have a2:=gE _ _ a7;obtain⟨p1,p2⟩:=SpAt.put (q:=t3) (p:=v) a2 (a8.to (d':=G) λ b xs e=>gE _ _ e) (by rw[a4];exact ch) c7 h3;refine⟨_,rfl,_,rfl,G,_,rfl,p1,?_⟩;have kF:∀ b ob,b≠G->He b=some ob->upd He G (.dK (SpK (S2++[(v,(ovr (atS S2 f0) (atS S2 r)).1,(ovr (atS S2 f0) (atS S2 r)).2)]) (b1++[t3]))) b=some ob:=λ b ob nb e=>by rw[kM nb];exact e
  have a6:=kA (H:=He) (a:=G) (o:=.dK (SpK (S2++[(v,(ovr (atS S2 f0) (atS S2 r)).1,(ovr (atS S2 f0) (atS S2 r)).2)]) (b1++[t3])));rw[<-cl]at p2 kF a6;rw[<-cl];have sF:=xK sE kF b5;have tF:=kF td _ (λ z=>by have:=gE _ _ tD;rw[z,a2]at this;cases this) (gE _ _ tD);have d7:=kF p3 _ (λ z=>by have:=gE _ _ bm;rw[z,a2]at this;cases this) (gE _ _ bm);have oF:∀ j d,ds[j]?=some d->RdS _ d (gF m Fs Ts j).1:=λ j d e=>((oD j d e).1.kept gE).but kF (oD j d e).2 λ xs e=>by rw[a2]at e;cases e
  have b3:=(hD.kept gE).but kF aa (λ l e=>by rw[a2]at e;cases e)
  have ec:G∉ds:=λ z=>by
   obtain⟨j,hj⟩:=AN.mp z;exact(oD j G hj).2 rfl
  generalize upd He G (.dK (SpK (gF m Fs Ts (i+1)).1 (b1++[t3])))=Hf at *
  clear oD hD bm tD a7 a8 a2 p1 kF gE sE sD cp c5 h3
  refine⟨_,rfl,yS1,λ l1 m1=>?_⟩;have g1:=kC m1 (.lst [vn v]);have ce:=kA (H:=Hf) (a:=l1) (o:=.lst [vn v]);have sG:=sF.trans g1;generalize upd Hf l1 (.lst [vn v])=Hg at *;refine⟨_,rfl,1,rfl,_,rfl,_,rfl,fi,_,rfl,SqL.of (sG _ _ hF),λ q3 m3=>?_⟩;rw[tY];have g3:=kC m3 (.lst (M.map vn));have c1:=kA (H:=Hg) (a:=q3) (o:=.lst (M.map vn));refine⟨q3,rfl,⟨_,SqL.of c1⟩,λ D nD=>?_⟩;have hh:=(b3.kept g1).kept g3;have b0:=g3 _ _ ce;generalize upd Hg q3 (.lst (M.map vn))=Hh at *;obtain⟨cz,ca,e6,ct⟩:=id hh;have ek:M.length<=42:=by simp at bw;omega
  have VL:∀ p∈M,(V p).length<=42:=λ p hp=>bi p _ (qW (MT p hp))
  have ee:(M.flatMap V).length<=42*M.length:=by
   rw[yd];refine je (gQ (c:=42) λ x hx=>?_) (by rw[aj];exact be _);obtain⟨y,hy,rfl⟩:=iJ.mp hx;exact VL y hy
  refine jI (xs:=M.map vn) (λ j O H2=>∃(x0 x1:Option L2.V),O=[x0,x1,some (.ref hu)]/\Same Hh H2/\H2 D=some (.lst (((M.take j).flatMap V).map vn))) ⟨none,none,rfl,kC nD _,kA⟩ ?_ ?_ ?_
  ·rintro j O H2 _ ⟨x0,x1,rfl,g2,_⟩
   exact SqL.of (g2 _ _ c1)
  ·rintro j u O H2 hv ⟨x0,x1,rfl,g2,hD⟩
   rw[az]at hv;obtain⟨p,ep,rfl⟩:=bh.mp hv;have pM:=cv ep;obtain⟨b,vb,hb⟩:=ct p _ (qW (MT p pM));have hj:=(ak.mp ep).1
   have pl:((M.take j).flatMap V).length<=42*42:=by
    rw[yd];refine je (gQ (c:=42) λ x hx=>?_) (by rw[aj,cx];exact Az 42 (by omega));obtain⟨y,hy,rfl⟩:=iJ.mp hx;exact VL y (yf hy)
   have ll:=VL p pM
   have dg:DGet H2 hu (vn p) (some (.ref b)):=by
    have:=DGet.k (k:=cm (p:Int)) (g2 _ _ ca);rw[vb]at this;exact this
   refine⟨_,rfl,_,rfl,hu,_,rfl,dg,b,rfl,⟨_,SqL.of (g2 _ _ hb)⟩,?_⟩
   have tk:(M.take (j+1)).flatMap V=(M.take j).flatMap V++V p:=by
    rw[iL,ep,iw,kb,qw]
   rw[tk];generalize(M.take j).flatMap V=G0 at *;generalize V p=l at *;refine jI (xs:=l.map vn) (λ j O H3=>∃(x1:Option L2.V),O=[some (vn p),x1,some (.ref hu)]/\Same Hh H3/\H3 D=some (.lst ((G0++l.take j).map vn))) ⟨_,rfl,g2,by rw[yo,iP];exact hD⟩ ?_ ?_ ?_
   ·rintro j O H3 _ ⟨x1,rfl,g3,_⟩
    exact SqL.of (g3 _ _ hb)
   ·rintro j u O H3 hv ⟨x1,rfl,g3,ab⟩
    rw[az]at hv;obtain⟨y,ey,rfl⟩:=bh.mp hv;have hj:=(ak.mp ey).1;refine⟨_,rfl,_,ab,(by rw[aj,bj,cx];exact xJ (by omega)),?_⟩;refine⟨_,rfl,qF nD g3,?_⟩;rw[iL,ey,iw,<-dh,cy (l₂:=[y])];exact kA
   ·rintro O H3 ⟨x1,rfl,g3,ab⟩
    rw[aj,gn]at ab;exact⟨_,_,rfl,g3,ab⟩
  rintro O H2 ⟨x0,x1,rfl,g2,hD⟩;rw[aj,gn]at hD;refine⟨l1,D,_,_,rfl,rfl,g2 _ _ b0,hD,(by rw[aj];exact fv (xJ (by rw[fj];omega))),λ af m2=>?_⟩;have g4:=kC m2 (.lst ([vn v]++(M.flatMap V).map vn));have gg:=g1.trans (g3.trans (g2.trans g4));have dv:upd H2 af (.lst ([vn v]++(M.flatMap V).map vn)) af=some (.lst ((v::M.flatMap V).map vn)):=kA;have sI:=sF.trans gg;have tI:=gg _ _ tF;have ah:=gg _ _ d7;have oI:∀ j d,ds[j]?=some d->RdS _ d (gF m Fs Ts j).1:=λ j d e=>(oF j d e).kept gg;have hI:=b3.kept gg;have cr:=gg _ _ a6;have cc:=p2.to (d':=G) λ b xs e=>gg _ _ e;generalize upd H2 af (.lst ([vn v]++(M.flatMap V).map vn))=Hi at *;clear oF b3 d7 tF a6 p2 gg g4 g3 g2 g1 hD b0 c1 hh ca e6 ct ce sG sF
  obtain⟨Hj,w1,w2,w3,w4⟩:=hI.put (b:=af) (v:=v) (l:=v::M.flatMap V) (U':=xQ m (i+1) (gF m Fs Ts (i+1)).2) (by omega) dv (λ p l' e=>by
   rw[e0]at e;unfold xQ at e;by_cases c:p=v
   ·left
    refine⟨c,?_⟩;rw[c]at e
    split at e
    ·have this:(if v=v then v::M.flatMap V else V v)=l':=bg e
     rw[if_pos rfl]at this;exact this.symm
    ·cases e
   ·right
    refine⟨c,?_⟩
    split at e
    ·rename_i hm
     have e:some (if p=v then v::M.flatMap V else V p)=some l':=e;rw[if_neg c]at e;rw[<-e];refine qW ?_;have tk:m.take (i+1+2)=m.take (i+2)++[v]:=by rw[iL,AB i 2,ev];rfl
     rw[tk]at hm;rcases ck.mp hm with q | q
     ·exact q
     ·exact absurd (bu.mp q) c
    ·cases e)
  refine⟨_,rfl,_,rfl,hu,_,rfl,w1,?_⟩;obtain⟨ea,ap,_⟩:=hI;have sJ:=xK sI w2 J5;have tJ:=w2 td _ (λ z=>by rw[z,ap]at tI;cases tI) tI;have ba:=w2 p3 _ (λ z=>by rw[z,ap]at ah;cases ah) ah;have oJ:∀ j d,ds[j]?=some d->RdS Hj d (gF m Fs Ts j).1:=λ j d e=>(oI j d e).but w2 (λ z=>Jn (z ▸ cv e)) λ xs e=>by rw[ap]at e;cases e
  have bv:=w2 G _ (ox aa) cr;have e7:=cc.to (d':=G) (H':=Hj) λ b xs e=>w2 _ _ (λ z=>by rw[z,ap]at e;cases e) e;clear oI tI ah cr cc w1 w2 w3 sI;refine⟨_,rfl,.inl ⟨rfl,_,SqL.of tJ⟩,_,rfl,td,_,_,rfl,rfl,tJ,(by rw[aj,Jl];exact kQ (by omega)),?_⟩;have kK:∀ b ob,b≠td->Hj b=some ob->upd Hj td (.lst (ds.map L2.V.ref++[.ref G])) b=some ob:=λ b ob nb e=>by rw[kM nb];exact e
  have d5:G≠td:=λ z=>by rw[z,tJ]at bv;cases bv
  have tt:∀ xs,Hj td≠some (.tup xs):=λ xs e=>by rw[tJ]at e;cases e
  have cs:=e7.to (d':=G) (H':=upd Hj td (.lst (ds.map L2.V.ref++[.ref G]))) λ b xs e=>kK _ _ (λ z=>tt xs (z ▸ e)) e;have c9:=kK G _ d5 bv;refine⟨G,hu,td,ds++[G],_,_,_,_,rfl,⟨xK sJ kK J4,b5,J5,J4,by rw[kA,cy];rfl,by rw[bj,Jl];rfl,by rw[<-Jl,cu],⟨_,c9,cs⟩,λ j d e=>?_,?_,λ z=>?_,λ d hd=>?_⟩,kK p3 _ (λ z=>by rw[z,tJ]at ba;cases ba) ba⟩
  ·rcases snoc e with⟨c,e⟩ | ⟨ej,e⟩
   ·refine(oJ j d e).but kK (λ z=>?_) tt
    obtain⟨db,rd,_⟩:=oJ j d e;rw[z]at rd;rcases rd with q | ⟨ob,q⟩
    ·rw[tJ]at q;cases q
    ·rw[tJ]at q;cases q
   ·cases e
    rw[ej,Jl];exact⟨_,.inl c9,cs⟩
  ·refine w4.but kK (λ z=>?_) (λ l e=>?_)
   ·obtain⟨kv,e,_⟩:=w4
    rw[z,tJ]at e;cases e
   ·rw[tJ]at e
    have e:ds.map L2.V.ref=l.map vn:=by injection e with e;injection e
    match ds,l,Jl,e with
    | d::ds,[],_,e=>cases e
    | d::ds,n::l,_,e=>cases e
  ·rcases ck.mp z with q | q
   ·exact Jn q
   ·exact aa (bu.mp q)
  ·rcases ck.mp hd with q | q
   ·exact dk d q
   ·rw[bu.mp q];exact b5
 ·rintro O H8 ⟨sp,hu,td,ds,x6,x7,x8,x9,rfl,J,hp⟩
  rw[ld]at J;exact⟨_,rfl,k td ds H8 J.same J.told J.len J.old J.fd⟩
end
section
def kEM{W:Rows}{d:List Nat}{a b c:Nat}{I m:List (List Nat)}(T:Tr W)(j:Tri.E W a b)(J:d.Perm (cq W.length))(U:3<=W.length)(h:zG W a b c d=some (I,m)):GOk d I m:=by
 have S:=T.nb;have X:d.length=W.length:=by rw[J.length_eq,gv]
 have g:d.Nodup:=J.nodup_iff.mpr sh;have L:=T.le;unfold zG at h
 split at h
 case isFalse=>cases h
 rename_i ends
 have A:d.take 2=[a,b]:=by
  obtain⟨q,p,_⟩:=ends
  match d,q,p with
  | x::y::r,q,p =>
   cases q
   cases p
   rfl
 obtain⟨Z,lt⟩:=zR h;have h0:Top W (d.take 2) (d.take 2):=by rw[A];exact cW S j
 refine⟨by omega,by omega,by omega,g,λ i F v G N=>?_,λ i O=>kTF S T.three g A j (by omega) h i (by omega)⟩;have O:=(ak.mp G).1;have o:i+1<m.length:=by omega
 obtain⟨u,B,f,M,l,C,n,D,Y⟩:=mX S.sym g h0 (by omega) h i F v _ G N (ae o);have H:∀ x∈F,x∈v:=λ x s=>by rw[D,<-n];simp[s]
 have nd:=u.nd;refine⟨f,M,l,n,?_,H,u.sub,nd⟩
 have Q:F.Nodup:=by
  rw[D,<-n]at nd;exact(dc.mp (dc.mp nd).1).2.1
 have:=eO Q λ x s=>u.sub x (H x s);rw[cx]at this;omega
inductive kLJ(vs:List V)(H:Hp)(Q:VK)(Y:XK):Prop
 | mk:∀(w z o:au)(W:Rows)(ms:List Nat)(a b c:Nat)(Fs Ts:List (List Nat)),(vs=[.ref w,.ref z,.ref o])->(Gw H w z o W ms a b c)->((Tri.E W a c/\(nxt W (a,c)).2=b))->(zG W a b c ms=some (Fs,Ts))->(∀(t:au)(ta:List au)(H':Hp),Same H H'->H' t=some (.tup (ta.map V.ref))->ta.length=W.length->(∀(p:Nat)(a:au),ta[p]?=some a->H' a=some (.tup [.int (atS (gF ms Fs Ts Fs.length).1 p).1,.int (atS (gF ms Fs Ts Fs.length).1 p).2]))->Q (.ref t) H')->kLJ vs H Q Y
def kGQ(B:Fx):Hs "grid" ["web","base","order"] 9 (kLJ):=by
 refine qK B.X B.d23 kOW λ f ac A a6 s0 H vs Q E nN hr h=>?_;obtain⟨w,z,o,W,u,a,b,c,m,Z,rfl,G,a1,hl,k⟩:=h
 refine⟨_,(kE (yC (pf (vX B) hr (kI (pv 0) (kI (pv 1) (kI (pv 2) kY)))) (jK (n:=2) rfl (kT (pgn 3 nN) (kT (pgn 4 nN) qV))))
   (kE (pst 5 nN (pix qB (pf (fL B) hr (kI (pv 2) (kI (pv 3) (kI (pv 4) kY)))) (wU yQ kJ)))
   (kL (kU (jD qR rfl (B.z B.y6) fu (p1 (xG (Nc:=["p","spots"]) (js:=[none,some 5]) rfl rfl (xC rfl (B.z B.y3) (p1 (kR kP rfl (B.z B.y0) eV (p1 (pv 0))))) (CS.of rfl rfl) rfl (λ C x I fp N=>(pgc 0)) (λ C x I fp N D L=>(qT (jL (jT (jS hr) (pv 1) (pv 0) (λ _ _=>rfl)))))))))))),?_⟩
 try dsimp only[qX]
 have ok:=kEM G.tr G.ab G.perm G.three hl;have ag:=G.tr.le;refine⟨_,rfl,_,rfl,_,rfl,w,z,o,W,u,a,b,c,m,Z,rfl,G,a1,hl,λ t f g fa ga H1 g1 ht lf lg=>?_⟩;refine⟨t,_,rfl,SqT.of ht,rfl,_,_,rfl,_,_,rfl,rfl,?_⟩;refine⟨_,rfl,_,rfl,_,rfl,o,f,g,fa,ga,u,m,Z,rfl,g1 _ _ G.ord,lf,lg,ok,λ td M H2 g2 a8 len rd _=>?_⟩;have y:=g1.trans g2;obtain⟨wt,a7,d,_⟩:=id (G.web.kept y)
 obtain⟨dl,a5,r⟩ : ∃ dl a0,M=a0++[dl]:=by
  have ne:M≠[]:=λ z=>by rw[z]at len;cases len
  exact⟨M.getLast ne,M.dropLast,(eC ne).symm⟩
 have at1:atI (M.map V.ref) (-1)=some (.ref dl):=by rw[r,cy];exact yB _ _
 have a2:=rd m.length dl (by
  have:a5.length=m.length:=by rw[r,bj,fj]at len;omega
  rw[r,<-this,cu])
 have J:=ok.inv m.length (be _);have af:u.length=W.length:=by rw[G.perm.length_eq,gv]
 have T:(gF u m Z m.length).1.map (·.1)=u:=by
  rw[J.fst,<-ok.lm,gn]
 generalize(gF u m Z m.length).1=S at *;obtain⟨ts,a9,a4⟩:=a2;refine⟨_,rfl,td,_,_,_,rfl,rfl,SqL.of a8,at1,?_⟩;refine⟨_,rfl,w,_,rfl,.inr (SqT.of a7),_,rfl,(by rw[aj,d];omega),(by rw[aj,d];omega),λ D nD=>?_⟩;refine aQ (lo:=0) (n:=((((wt.map V.ref).length:Nat):Int)).toNat) (λ j σ i=>∃(x0:Option V)(l:List au),σ=[x0,some (.ref dl)]/\Same H2 i/\i D=some (.lst (l.map V.ref))/\l.length=j/\∀(p:Nat)(a:au),l[p]?=some a->i a=some (.tup [.int (atS S p).1,.int (atS S p).2])) ⟨none,[],rfl,kC nD _,kA,rfl,λ p a e=>by simp at e⟩ ?_ ?_
 ·rintro j σ i hj ⟨x0,l,rfl,s,Y,v,hu⟩
  have a3:j<W.length:=by rw[aj,iU,d]at hj;exact hj
  have jm:j∈S.map (·.1):=by rw[T];exact G.perm.mem_iff.mpr (jt.mpr a3)
  obtain⟨O,v',aa⟩:=(a4.to (d':=dl) (H':=i) λ b U e=>s _ _ e).get jm
  have dg:DGet i dl (.int (0+(j:Int))) (some (.ref O)):=by
   refine .inl ⟨SpK S ts,cm (j:Int),?_,by rw[wz];rfl,v'.symm⟩;rcases a9 with e | ⟨ob,e⟩
   ·exact .inl (s _ _ e)
   ·exact .inr ⟨ob,s _ _ e⟩
  refine⟨_,rfl,_,rfl,dl,_,rfl,dg,_,Y,(by rw[aj,v];exact kQ (by omega)),?_⟩
  have st:∀ b U,i b=some (.tup U)->upd i D (.lst (l.map V.ref++[.ref O])) b=some (.tup U):=λ b U e=>by
   rw[kM λ z=>by rw[z,Y]at e;cases e];exact e
  refine⟨_,l++[O],rfl,qF nD s,by rw[cy];exact kA,by rw[bj,v];rfl,λ p a e=>?_⟩;rcases snoc e with⟨q,e⟩ | ⟨ep,e⟩
  ·exact st _ _ (hu p a e)
  ·cases e
   rw[ep,v];exact st _ _ aa
 ·rintro σ i ⟨x0,l,rfl,s,Y,v,hu⟩
  refine⟨D,_,rfl,.inl ⟨SqL.of Y,λ O nt=>?_⟩⟩;have gt:=kC nt (.tup (l.map V.ref));exact k O l _ (y.trans (s.trans gt)) kA (by rw[v,aj,iU,d]) λ p a e=>gt _ _ (hu p a e)
end
section
inductive kLM(vs:List V)(H:Hp)(Q:VK)(Y:XK):Prop
 | mk:∀(a r:au)(W:Rows),(vs=[.ref a,.ref r])->(PotAt H a)->(WebAt H r W)->(Good W)->(W.length<=42)->(∀(t:au)(x y z:Nat)(H':Hp),SameBut a H H'->PotAt H' a->H t=none->H' t=some (.tup [vn x,vn y,vn z])->Tri.E W x z->(nxt W (x,z)).2=y->Q (.ref t) H')->kLM vs H Q Y
def kBS(B:Fx):Hs "_law_base" ["_law_pot_here","_law_web_here"] 3 (kLM):=by
 refine qK B.X B.d35 kBD λ f a0 A j s0 H vs Q E J s h=>?_;obtain⟨a,r,W,rfl,m,C,G,O,k⟩:=h
 refine⟨_,(kE (yC (pf (uN B) s (p2 (pv 0) (pv 1))) (jK (n:=2) rfl (kT (pgn 2 J) (kT (pgn 3 J) qV))))
   (kL (kU (qG (kI (pv 2) (kI (pf (zK B) s (kI (pv 1) (kI (pv 2) (kI (pv 3) kY)))) (kI (pv 3) kY))))))),?_⟩
 try dsimp only[qX]
 have S:=(Wb.of G).toNb;have l3:=G.three;refine⟨_,rfl,_,rfl,.inr ⟨a,r,W,rfl,m,C,by omega,by omega,λ p row e=>⟨G.ne p row e,by have:=S.len e;omega⟩,λ t p q H1 i p1 nt ht d=>?_⟩⟩;refine⟨t,_,rfl,SqT.of ht,rfl,_,_,rfl,_,_,rfl,rfl,?_⟩;have g:=C.pot i m;obtain⟨z,L,n2,n3,e1,e2⟩:=qZ S (jY G).1 d;obtain⟨row,M,nd,mem,pv⟩:=Fc.row_at S (S.e d).2.1;have o:p∈row:=(mem p).mpr (S.sym _ _ d)
 obtain⟨v,I⟩ : ∃ v,xP row p=some v:=by
  exact vH o
 have D:=pv p v I;rw[L]at D;obtain rfl:z=v:=congrArg yc D;obtain⟨ts,h1,h2,T⟩:=g.at;obtain⟨b,U,Y⟩:=T q row M;refine⟨_,rfl,_,rfl,_,rfl,_,rfl,r,b,_,p,q,row,z,rfl,.inr ⟨h1,Y⟩,U,o,I,_,rfl,yS3,λ l c=>?_⟩;have u:=kC c (.tup [vn p,vn z,vn q]);refine k l p z q _ ?_ ?_ ?_ kA d (by rw[L])
 ·exact i.trans (SameBut.of u)
 ·exact p1.kept u
 ·cases e:H l with
  | none=>rfl
  | some ob =>
   have N:l≠a:=λ z=>by
    obtain⟨x,y,Z,_⟩:=p1;rw[z,Z]at c;cases c
   rw[i _ _ N e]at c;cases c
def kHQ{l:List Nat}{j:Nat}(h:j<l.length):atI (l.map vn) (j:Int)=some (vn (l.getD j 0)):=jB (by rw[az,av,ae h];rfl)
def mB(f:Nat->Bool)(j:Nat):(cq (j+1)).filter f=(cq j).filter f++if f j=true then[j] else[]:=by
 rw[BP,si]
 congr 1
 by_cases c:f j=true
 ·rw[if_pos c,wg c,Ba]
 ·rw[if_neg c,wj c,Ba]
inductive kQT(vs:List V)(H:Hp)(Q:VK)(Y:XK):Prop
 | mk:∀(r o:au)(W:Rows)(O row:List Nat)(v:Nat),(vs=[.ref r,.ref o,vn v])->(WebAt H r W)->(H o=some (.lst (O.map vn)))->(W[v]?=some row)->(row.length<=42)->(O.length<=42)->(∀(t:au)(H':Hp),Same H H'->H' t=some (.tup ((vY row O).map vn))->Q (.ref t) H')->kQT vs H Q Y
def mJ(B:Fx):Hs "_law_run" ["_law_web_here","_law_ahead_here","_law_v"] 1 (kQT):=by
 refine qK B.X B.d36 kDN λ f a5 A a4 s0 H vs Q E nN hr h=>?_;obtain⟨r,o,W,O,row,v,rfl,hw,ho,er,a7,a6,k⟩:=h
 refine⟨_,(kE (pst 3 nN (pix kZ (pv 0) (pv 2)))
   (kE (uU (i:=4) (Nc:=["_law_k","_law_ahead_here","_law_row"]) (js:=[none,some 1,some 3]) rfl rfl nN rfl (xw rfl) (xC rfl (B.z B.y3) (p1 (kR kP rfl (B.z B.y0) eV (p1 (pv 3))))) (CS.of rfl rfl) rfl (λ C d l fp s=>(pgc 0)) (λ C d l fp s D L=>(zQ (PW.pt (sO (qN (show OpR _ _ (rIn K false) from zN) (pix (show IxR _ (kIW K) from kZ) (pv 2) (pv 0)) (pv 1) rfl) (sN (qN (show OpR _ _ (rIn K true) from vJ) (pix (show IxR _ (kIW K) from kZ) (pv 2) (kX yL (pv 0) kJ)) (pv 1) rfl)))) (jL (pv 0)))))
   (kE (yE (qN mG (kR kP rfl (B.z B.y0) eV (p1 (pv 4))) kJ (jE _)) (kL (kU (qG kY))) jC)
   (kL (kU (jD qR rfl (B.z B.y6) fu (p1 (xG (Nc:=["_law_q","_law_ahead_here"]) (js:=[none,some 1]) rfl rfl (yR (kX gJ (qD yJ (pv 3) (qC (pix qB (pv 4) kJ)) jA) (qD yJ (pv 3) jA (qC (pix qB (pv 4) kJ))))) (CS.of rfl rfl) rfl (λ C d l fp s=>(pgc 0)) (λ C d l fp s D L=>(zQ (qN (show OpR _ _ (rIn K false) from zN) (pv 0) (pv 1) rfl) (jL (pv 0)))))))))))),?_⟩
 try dsimp only[qX]
 obtain⟨ts,h1,h2,h3⟩:=hw.at;obtain⟨b,e3,e4⟩:=h3 v row er;refine⟨_,rfl,_,rfl,r,_,_,_,rfl,rfl,SqT.of h1,e3,?_⟩;refine⟨_,rfl,b,_,rfl,.inr (SqT.of e4),_,rfl,(by rw[aj];omega),(by rw[aj];omega),λ D nD=>?_⟩;refine aQ (lo:=0) (n:=((((row.map vn).length:Nat):Int)).toNat) (λ j G N=>∃(y:Option V),G=[y,some (.ref o),some (.ref b)]/\Same H N/\N D=some (.lst (((cq j).filter λ k=>decide (row.getD k 0∈O) && !decide ((if k=0 then row.getLastD 0 else row.getD (k-1) 0)∈O)).map vn))) ⟨none,rfl,kC nD _,kA⟩ ?_ ?_
 ·rintro j G N hj ⟨y,rfl,x,p⟩
  have J:j<row.length:=by rw[aj,iU]at hj;exact hj
  have a1:atI (row.map vn) (0+(j:Int))=some (vn (row.getD j 0)):=by rw[wz];exact kHQ J
  have a2:atI (row.map vn) (0+(j:Int)-1)=some (vn (if j=0 then row.getLastD 0 else row.getD (j-1) 0)):=by
   by_cases c:j=0
   ·rw[if_pos c,c]
    have ne:row≠[]:=λ z=>by rw[z]at J;simp at J
    rw[show row.getLastD 0=row.getLast ne by rw[jf,fe ne];rfl];have e5:row.map vn=(row.dropLast).map vn++[vn (row.getLast ne)]:=by rw[<-Bb (f:=vn),<-cy,eC]
    rw[e5];exact yB _ _
   ·rw[if_neg c,show(0+(j:Int)-1)=((j-1:Nat):Int) by omega]
    exact kHQ (by omega)
  have m:=x _ _ e4;have T:=x _ _ ho
  have lz:(((cq j).filter λ k=>decide (row.getD k 0∈O) && !decide ((if k=0 then row.getLastD 0 else row.getD (k-1) 0)∈O)).map vn).length<sizeLine:=by
   rw[aj];have:=me (λ k=>decide (row.getD k 0∈O) && !decide ((if k=0 then row.getLastD 0 else row.getD (k-1) 0)∈O)) (cq j);rw[gv]at this;exact kQ (by omega)
  have rf:=mB (λ k=>decide (row.getD k 0∈O) && !decide ((if k=0 then row.getLastD 0 else row.getD (k-1) 0)∈O)) j;rw[rf];dsimp only at rf ⊢;clear rf;generalize(cq j).filter (λ k=>decide (row.getD k 0∈O) && !decide ((if k=0 then row.getLastD 0 else row.getD (k-1) 0)∈O))=L at *;generalize row.getD j 0=u1 at *;generalize(if j=0 then row.getLastD 0 else row.getD (j-1) 0)=u2 at *;refine⟨_,rfl,_,rfl,b,_,_,_,rfl,rfl,SqT.of m,a1,_,rfl,o,_,rfl,.inl (SqL.of T),rfl,yZ _,_,rfl,?_⟩;rw[wH];by_cases c1:u1∈O
  ·rw[decide_eq_true c1]
   refine zW ⟨_,rfl,_,rfl,_,_,rfl,rfl,b,_,_,_,rfl,rfl,SqT.of m,a2,_,rfl,o,_,rfl,.inl (SqL.of T),rfl,yZ _,_,rfl,?_⟩;rw[wH];by_cases c2:u2∈O
   ·rw[decide_eq_true c2]
    exact xH ⟨_,rfl,x,by rw[if_neg (by decide),iP];exact p⟩
   ·rw[decide_eq_false c2]
    refine zW ⟨_,rfl,_,p,lz,⟨_,rfl,qF nD x,?_⟩⟩;rw[if_pos (by decide),kA,cy,wz]
    rfl
  ·rw[decide_eq_false c1]
   exact xH (xH ⟨_,rfl,x,by rw[if_neg (by simp),iP];exact p⟩)
 ·rintro G N ⟨y,rfl,x,p⟩
  rw[aj,iU]at p;have p:N D=some (.lst ((zM row O).map vn)):=p;have m:=x _ _ e4
  have rl:(zM row O).length<=row.length:=by
   have:=me (λ k=>decide (row.getD k 0∈O) && !decide ((if k=0 then row.getLastD 0 else row.getD (k-1) 0)∈O)) (cq row.length);rw[gv]at this;exact this
  refine⟨_,rfl,D,_,rfl,.inl (SqL.of p),rfl,_,rfl,?_⟩;by_cases c:(zM row O).length=1
  case neg =>
   have e0:vY row O=[]:=by unfold vY;rw[if_pos c]
   have ez:(!decide (V.int ((((zM row O).map vn).length:Nat):Int)=V.int 1))=true:=by
    rw[decide_eq_false]
    ·rfl
    ·intro z
     injection z with z
     rw[aj]at z;omega
   show if(!decide (V.int ((((zM row O).map vn).length:Nat):Int)=V.int 1))=true then _ else _;rw[if_pos ez];refine⟨yS0,λ t nt=>k t _ (x.trans (kC nt _)) ?_⟩;rw[e0];exact kA
  obtain⟨a,ek⟩ : ∃ a,zM row O=[a]:=CY.mp c
  have ez:(!decide (V.int ((((zM row O).map vn).length:Nat):Int)=V.int 1))=false:=by
   rw[ek]
   rfl
  show if(!decide (V.int ((((zM row O).map vn).length:Nat):Int)=V.int 1))=true then _ else _;rw[ez];refine xH ?_;have k1:a<row.length:=(mem_begs.mp (by rw[ek];exact bu.mpr rfl:a∈zM row O)).1;have e1:vY row O=(row.drop a++row.take a).filter λ q=>decide (q∈O):=by unfold vY;rw[if_neg (by rw[c];simp),ek];rfl
  rw[ek]at p;have a0:atI ([a].map vn) 0=some (vn a):=rfl;refine⟨_,rfl,_,rfl,D,_,_,_,rfl,rfl,SqL.of p,a0,_,rfl,b,_,rfl,m,λ p1 H4 U S=>?_⟩;rw[xZ _ (by rw[aj];omega),<-yj]at S;have U:Same N H4:=U;refine⟨_,rfl,_,rfl,D,_,_,_,rfl,rfl,SqL.of (U _ _ p),a0,_,rfl,b,_,rfl,U _ _ m,λ p2 H5 g5 Y=>?_⟩;rw[vQ _ (by rw[aj];omega),<-uz]at Y;have g5:Same H4 H5:=g5;refine⟨p1,p2,_,_,rfl,rfl,g5 _ _ S,Y,(by simp only[aj,iN,cx];exact fv (kQ (by omega))),λ p3 H6 g6 M=>?_⟩;have g6:Same H5 H6:=g6;rw[<-cy]at M;have gg:=x.trans (U.trans (g5.trans g6));have a3:=gg _ _ ho;rw[e1]at k;have ll:(row.drop a++row.take a).length<=42:=by rw[bj,iN,cx];omega
  generalize row.drop a++row.take a=R at *;refine⟨p3,rfl,⟨_,SqT.of M⟩,λ D2 Z=>?_⟩;refine xR (xs:=R.map vn) (λ j G H7=>∃(y:Option V),G=[y,some (.ref o)]/\Same H6 H7/\H7 D2=some (.lst (((R.take j).filter λ q=>decide (q∈O)).map vn))) ⟨none,rfl,kC Z _,kA⟩ ?_ ?_ ?_
  ·rintro j G H7 _ ⟨y,rfl,I,_⟩
   exact SqT.of (I _ _ M)
  ·rintro j u G H7 hv ⟨y,rfl,I,g⟩
   rw[az]at hv;obtain⟨q,eq,rfl⟩:=bh.mp hv;have hj:=(ak.mp eq).1
   have tk:(R.take (j+1)).filter (λ q=>decide (q∈O))=(R.take j).filter (λ q=>decide (q∈O))++if q∈O then[q] else[]:=by
    rw[iL,eq,iw,si]
    congr 1
    by_cases c:q∈O
    ·rw[if_pos c,wg (by simpa using c),Ba]
    ·rw[if_neg c,wj (by simpa using c),Ba]
   rw[tk]
   have lz:(((R.take j).filter λ q=>decide (q∈O)).map vn).length<sizeLine:=by
    rw[aj];have:=me (λ q=>decide (q∈O)) (R.take j);rw[cx]at this;exact kQ (by omega)
   refine⟨_,rfl,_,rfl,o,_,rfl,.inl (SqL.of (I _ _ a3)),rfl,yZ _,_,rfl,?_⟩;rw[wH];by_cases c:q∈O
   ·rw[decide_eq_true c,if_pos c]
    refine zW ⟨_,rfl,_,g,lz,⟨_,rfl,qF Z I,?_⟩⟩;rw[kA,cy]
    rfl
   ·rw[decide_eq_false c,if_neg c,iP]
    exact xH ⟨_,rfl,I,g⟩
  ·rintro G H7 ⟨y,rfl,I,g⟩
   rw[aj,gn]at g;refine⟨D2,_,rfl,.inl ⟨SqL.of g,λ t nt=>?_⟩⟩;exact k t _ (gg.trans (I.trans (kC nt _))) kA
end
section
structure RnAt(H:Hp)(r:au)(ra:List au)(Fs:List (List Nat)):Prop where
 top:H r=some (.lst (ra.map V.ref))
 len:ra.length=Fs.length
 row:∀(i:Nat)(a:au)(F:List Nat),ra[i]?=some a->Fs[i]?=some F->H a=some (.tup (F.map vn))
def RnAt.but{H H':Hp}{r x:au}{d:List au}{c:List (List Nat)}(R:RnAt H r d c)(g:∀ b o,b≠x->H b=some o->H' b=some o)(nx:r≠x)(j:∀ xs,H x≠some (.tup xs)):RnAt H' r d c :=
 ⟨g _ _ nx R.top,R.len,λ i a F h f=>g _ _ (λ z=>j _ (z ▸ R.row i a F h f)) (R.row i a F h f)⟩
def RnAt.kept{H H':Hp}{r:au}{c:List au}{b:List (List Nat)}(R:RnAt H r c b)(g:Same H H'):RnAt H' r c b:=⟨g _ _ R.top,R.len,λ i a F f d=>g _ _ (R.row i a F f d)⟩
def kLZ{H H':Hp}{r r' t:au}{f:List au}{h:List (List Nat)}{F:List Nat}(R:RnAt H r f h)(g:∀ b xs,H b=some (.tup xs)->H' b=some (.tup xs))(l:H t=some (.tup (F.map vn)))(h':H' r'=some (.lst (f.map V.ref++[.ref t]))):RnAt H' r' (f++[t]) (h++[F]):=by
 refine⟨by rw[h',cy];rfl,by rw[bj,bj,R.len];rfl,λ i a m c d=>?_⟩;rcases snoc c with⟨q,c⟩ | ⟨j,c⟩
 ·rw[bf (by rw[<-R.len];exact q)]at d
  exact g _ _ (R.row i a m c d)
 ·rw[j,R.len,cu]at d
  cases c
  cases d
  exact g _ _ l
def kOY{row T:List Nat}{a:Nat}(g:Ro row T)(nd:row.Nodup)(d:T.head?=some a):row.drop (row.idxOf a)++row.take (row.idxOf a)=T:=by
 obtain⟨A,B,c,b⟩:=g
 cases B with
 | nil =>
  rw[iP]at c;rw[qi]at b;rw[c,<-b];obtain⟨I,rfl⟩:=Fc.head_split d;rw[DB];simp
 | cons x B =>
  rw[b]at d;obtain rfl:x=a:=bg d;rw[c]at nd ⊢;have f:x∉A:=λ z=>(dc.mp nd).2.2 x z x (by simp) rfl;have:(A++x::B).idxOf x=A.length:=by rw[xk,if_neg f];simp
  rw[this,b];simp
def aA(W:Rows)(O:List Nat)(c:Nat)(v:Nat):Bool:=!decide (v∈O) && (!decide (v=c) && decide (1<(vY (W.getD v []) O).length))
def kMX{W:Rows}(S:Nb W){O:List Nat}{c v:Nat}{row:List Nat}(a:W[v]?=some row)(h:aA W O c v=true):∃ Q,Nxt W O c v row (vY row O) Q:=by
 unfold aA at h;have d:W.getD v []=row:=by rw[av,a];rfl
 rw[d]at h;simp at h;obtain⟨h1,i,b⟩:=h;have nd:=S.nd _ _ a;obtain⟨Q,g,f,j,l⟩:=kDS (A:=O) nd b;exact⟨Q,(ak.mp a).1,h1,i,a,g,f,j,b,l⟩
def kMU{W:Rows}(S:Nb W){O:List Nat}{c v:Nat}{row R Q:List Nat}(N:Nxt W O c v row R Q):aA W O c v=true:=by
 have a:W.getD v []=row:=by rw[av,N.er];rfl
 have two:=N.two;have:=kLY (S.nd _ _ N.er) N.ro N.hR N.hQ (λ z=>by rw[z]at two;simp at two) N.ne;unfold aA;rw[a,decide_eq_false N.no,decide_eq_false N.nc,decide_eq_true (by omega)]
 rfl
inductive oR(vs:List V)(H:Hp)(Q:VK)(Y:XK):Prop
 | mk:∀(p r z:au)(W:Rows)(a b c:Nat),(vs=[.ref p,.ref r,.ref z])->(PotAt H p)->(WebAt H r W)->(Good W)->(W.length<=42)->(H z=some (.tup [vn a,vn b,vn c]))->(Tri.E W a c)->((nxt W (a,c)).2=b)->(∀(t o rl:au)(ra:List au)(ms:List Nat)(Fs Ts:List (List Nat))(H':Hp),SameBut p H H'->PotAt H' p->H' t=some (.tup [.ref o,.ref rl])->H' o=some (.tup (ms.map vn))->RnAt H' rl ra Fs->zG W a b c ms=some (Fs,Ts)->ms.Perm (cq W.length)->Q (.ref t) H')->oR vs H Q Y
def mK(B:Fx):Hs "_law_ordered" ["_law_pot_here","_law_web_here","_law_base_here"] 3 (oR):=by
 refine qK B.X B.d37 lE λ f d9 A co s0 H vs Q E nN hr h=>?_;obtain⟨p,r,z,W,a,b,c,rfl,hp,hw,G,db,hz,aq,b7,k⟩:=h
 refine⟨_,(kE (pst 3 nN (qU (p2 (pix kZ (pv 2) kJ) (pix kZ (pv 2) kJ))))
   (kE (pst 4 nN (qU kY))
   (kE (uJ (xC rfl (B.z B.y3) (p1 (kX yL (kR kP rfl (B.z B.y0) eV (p1 (pv 1))) kJ))) (pgn 5 nN) (kE (uU (i:=6) (Nc:=["_law_v","_law_order","_law_base_here","_law_web_here"]) (js:=[none,some 3,some 2,some 1]) rfl rfl nN rfl (xw rfl) (xC rfl (B.z B.y3) (p1 (kR kP rfl (B.z B.y0) eV (p1 (pv 1))))) (CS.of rfl rfl) rfl (λ C b8 bi fp bw=>(zY (i:=0) (show BZ (α:=Str) ["_law_v","_law_order","_law_base_here","_law_web_here"] by decide +kernel) rfl (xw rfl))) (λ C b8 bi fp bw D L=>(zQ (PW.pt (sO (qN (show OpR _ _ (rIn K true) from vJ) (pv 0) (pv 1) rfl) (sO (qN mG (pv 0) (pix (show IxR _ (kIW K) from kZ) (pv 2) kJ) (jE _)) (sN (qN kRA (kR (show zH _ _ (yW K) from kP) rfl (B.z B.y0) eV (p1 (pf (mJ B) hr (kI (pv 3) (kI (pv 1) (kI (pv 0) kY)))))) kJ (jE _)))))) (jL (pv 0)))))
   (kE (pst 7 nN (pix qB (pv 6) (pf (qE B) hr (p2 (pv 0) (kR kP rfl (B.z B.y0) eV (p1 (pv 6)))))))
   (kE (qM (jG iR iS jW (pv 4) (p1 (pf (mJ B) hr (kI (pv 1) (kI (pv 3) (kI (pv 7) kY)))))))
   (kL (qM (jG iR iS jW (pv 3) (p1 (pv 7)))))))))
   (kE (pst 8 nN (pix kZ (pv 1) (pix kZ (pv 2) kJ)))
   (kE (pst 9 nN (kBN zd ze zf dG (pv 8) (p1 (pix kZ (pv 2) kJ))))
   (kL (kU (qG (p2 (kX gJ (jD qR rfl (B.z B.y6) fu (p1 (pv 3))) (qG (p1 (pix kZ (pv 2) kJ)))) (kX vK (pv 4) (qU (p1 (kX gJ (qD yJ (pv 8) (qC (pv 9)) jA) (qD yJ (pv 8) jA (qC (pv 9)))))))))))))))),?_⟩
 try dsimp only[qX]
 have S:=(Wb.of G).toNb;have J:=(jY G).1;have l3:=G.three;obtain⟨g,n1,n2,n3,e1,e2⟩:=qZ S J aq;rw[n1]at b7;obtain rfl:g=b:=b7;have a4:Tri.E W a g:=S.sym _ _ e2;have bc:(nxt W (g,a)).2=c:=by rw[n3]
 have ca:c≠a:=(S.e aq).2.2;have cb:c≠g:=λ q=>(S.e e1).2.2 q.symm;refine⟨_,rfl,z,_,_,_,rfl,rfl,SqT.of hz,(show atI [vn a,vn g,vn c] 0=_ from rfl),_,rfl,z,_,_,_,rfl,rfl,SqT.of hz,(show atI [vn a,vn g,vn c] 1=_ from rfl),yS2,λ s al=>?_⟩;have g1:=kC al (.lst [vn a,vn g]);have bo:=kA (H:=H) (a:=s) (o:=.lst [vn a,vn g]);refine⟨yS0,λ u ap=>?_⟩;have g2:=kC ap (.lst []);have c8:=kA (H:=upd H s (.lst [vn a,vn g])) (a:=u) (o:=.lst []);have bl:=g2 _ _ bo;have ab:=g1.trans g2;have bn:H u=none:=g1.free ap;have bx:s≠u:=kO bo ap;obtain⟨px,py,a3,d8⟩:=id hp;have ba:s≠p:=(kO a3 al).symm;have b6:u≠p:=(kO a3 bn).symm;have d2:=hw.kept ab;have ch:=hp.kept ab;generalize upd (upd H s (.lst [vn a,vn g])) u (.lst [])=H0 at *;obtain⟨wt,cs,a1,_⟩:=id d2;refine⟨_,rfl,r,_,rfl,.inr (SqT.of cs),_,_,rfl,rfl,_,rfl,(by rw[aj,a1];omega),(by rw[aj,a1];omega),?_⟩;refine yG (n:=(((((wt.map V.ref).length:Nat):Int))-3).toNat) (λ i σ H2=>∃(x5 x6 x7 x8 x9:Option V)(O:List Nat)(Fs Ts:List (List Nat))(Y:List au),σ=[some (.ref p),some (.ref r),some (.ref z),some (.ref s),some (.ref u),x5,x6,x7,x8,x9]/\SameBut p H H2/\PotAt H2 p/\H2 s=some (.lst (O.map vn))/\RnAt H2 u Y Fs/\OI W a g c O Fs Ts/\O.length=i+2) ⟨_,_,_,_,_,[a,g],[],[[a,g]],[],rfl,SameBut.of ab,ch,bl,⟨c8,rfl,λ i a F e=>by simp at e⟩,OI.start S a4 ca cb,rfl⟩ ?_ ?_
 ·rintro i σ H2 hi ⟨x5,x6,x7,x8,x9,O,Fs,Ts,Y,rfl,sb,pt,hO,RN,I,lO⟩
  have c4:O.length+1<W.length:=by
   rw[aj,a1]at hi;omega
  have a2:=hw.pot sb hp;have U:=sb z _ (λ q=>by rw[q,a3]at hz;cases hz) hz;obtain⟨aw,Z,l,_⟩:=id a2;refine⟨_,rfl,r,_,rfl,.inr (SqT.of Z),_,rfl,(by rw[aj,l];omega),(by rw[aj,l];omega),λ D nD=>?_⟩;refine aQ (lo:=0) (n:=((((aw.map V.ref).length:Nat):Int)).toNat) (λ j σ H3=>∃(x0:Option V),σ=[x0,some (.ref s),some (.ref z),some (.ref r)]/\Same H2 H3/\H3 D=some (.lst (((cq j).filter (aA W O c)).map vn))) ⟨none,rfl,kC nD _,kA⟩ ?_ ?_
  ·rintro j σ H3 hj ⟨x0,rfl,M,hD⟩
   have cl:j<W.length:=by rw[aj,iU,l]at hj;exact hj
   have T:=ae cl;have eg:W.getD j []=W[j]:=by rw[av,T];rfl
   have a7:=S.len T
   have lz:(((cq j).filter (aA W O c)).map vn).length<sizeLine:=by
    rw[aj];have:=me (aA W O c) (cq j);rw[gv]at this;exact kQ (by omega)
   rw[mB];have em:aA W O c j=(!decide (j∈O) && (!decide (j=c) && decide (1<(vY W[j] O).length))):=by unfold aA;rw[eg]
   rw[em];generalize(cq j).filter (aA W O c)=L at *;refine⟨_,rfl,_,rfl,s,_,rfl,.inl (SqL.of (M _ _ hO)),rfl,yZ _,_,rfl,?_⟩;have e0:V.int (0+(j:Int))=vn j:=by rw[wz];rfl
   rw[e0,wH];by_cases c1:j∈O
   ·rw[decide_eq_true c1]
    exact xH (xH ⟨_,rfl,M,by rw[if_neg (by simp),iP];exact hD⟩)
   rw[decide_eq_false c1];refine zW ⟨_,rfl,_,rfl,z,_,_,_,rfl,rfl,SqT.of (M _ _ U),(show atI [vn a,vn g,vn c] 2=_ from rfl),rfl,_,rfl,?_⟩;by_cases c2:j=c
   ·have e2:(!decide (vn j=vn c))=false:=by rw[c2];simp
    rw[e2];exact xH (xH ⟨_,rfl,M,by rw[decide_eq_true c2,if_neg (by simp),iP];exact hD⟩)
   have e2:(!decide (vn j=vn c))=true:=by
    rw[decide_eq_false (λ q=>c2 (by have q:V.int (j:Int)=V.int (c:Int):=q;injection q with q;omega))]
    rfl
   rw[e2];refine zW ?_;refine⟨_,rfl,_,rfl,_,rfl,r,s,W,O,_,j,rfl,a2.kept M,M _ _ hO,T,by omega,by omega,λ t H4 g4 ht=>?_⟩;have b4:=M.trans g4;refine⟨t,_,rfl,.inr (SqT.of ht),_,_,rfl,rfl,_,rfl,?_⟩;have e3:(1:Int)<(((vY W[j] O).map vn).length:Nat)↔1<(vY W[j] O).length:=by rw[aj];omega
   by_cases c3:1<(vY W[j] O).length
   ·rw[decide_eq_true (e3.mpr c3)]
    refine zW ⟨_,rfl,_,g4 _ _ hD,lz,⟨_,rfl,qF nD b4,?_⟩⟩;rw[decide_eq_false c2,decide_eq_true c3,if_pos (by rfl),kA,cy]
    rfl
   ·rw[decide_eq_false (λ q=>c3 (e3.mp q))]
    refine xH ⟨_,rfl,b4,?_⟩;rw[decide_eq_false c2,decide_eq_false c3,if_neg (by decide),iP];exact g4 _ _ hD
  ·rintro σ H3 ⟨x0,rfl,M,hD⟩
   rw[aj,iU,l]at hD;obtain⟨v0,d7,R0,Q0,N0⟩:=I.next G a4 bc c4;have b1:v0∈(cq W.length).filter (aA W O c):=iW.mpr ⟨jt.mpr N0.lt,kMU S N0⟩
   have lL:((cq W.length).filter (aA W O c)).length<=42:=by
    have:=me (aA W O c) (cq W.length);rw[gv]at this;omega
   have cn:∀ v∈(cq W.length).filter (aA W O c),v<W.length/\aA W O c v=true:=λ v hv=>⟨jt.mp (iW.mp hv).1,(iW.mp hv).2⟩;generalize(cq W.length).filter (aA W O c)=L at *;have d6:0<L.length:=List.length_pos_of_mem b1;obtain⟨qx,qy,bt,_⟩:=id pt;have Dp:D≠p:=(kO bt nD).symm;refine⟨_,rfl,_,rfl,_,rfl,D,_,rfl,.inl (SqL.of hD),p,_,rfl,pt.kept M,(by rw[aj];omega),aB (by rw[aj];exact ji (m:=42) (by omega) (by decide)),λ d H4 d0 d1 s4 p4=>?_⟩;rw[aj]at d1;obtain⟨dn,rfl⟩:=ow d0;have b3:dn<L.length:=by omega
   refine⟨D,_,_,_,rfl,rfl,SqL.of (s4 _ _ Dp hD),kHQ b3,?_⟩;obtain⟨vl,vm⟩:=cn (L.getD dn 0) (cv (xM b3));generalize L.getD dn 0=v at *;have T:=ae vl;have a7:=S.len T;obtain⟨Q,N⟩:=kMX S T vm;obtain⟨an,I'⟩:=I.more S J a4 bc N;have bm:SameBut p H H4:=sb.trans ((SameBut.of M).trans s4);have b5:=s4 _ _ ba (M _ _ hO);have as:=(RN.kept M).but (λ b o nb e=>s4 b o nb e) b6 (λ xs e=>by rw[M _ _ bt]at e;cases e);have ct:=hw.pot bm hp;refine⟨_,rfl,.inl ⟨rfl,_,SqL.of as.top⟩,_,rfl,_,rfl,_,rfl,r,s,W,O,_,v,rfl,ct,b5,T,by omega,by omega,λ t H5 g5 ht=>?_⟩;have a0:=as.kept g5;have cc:=g5 _ _ b5;have lF:Fs.length<=42:=by have:=(zR I.go).1;omega
   refine⟨u,_,_,rfl,rfl,a0.top,(by rw[aj,a0.len];exact kQ (by omega)),?_⟩;have k6:∀ b o,b≠u->H5 b=some o->upd H5 u (.lst (Y.map V.ref++[.ref t])) b=some o:=λ b o nb e=>by rw[kM nb];exact e
   have c9:=kLZ (r':=u) a0 (λ b xs e=>k6 b _ (λ q=>by rw[q,a0.top]at e;cases e) e) ht kA;have am:=k6 s _ bx cc;have d4:SameBut p H H5:=bm.trans (SameBut.of g5);have cp:SameBut p H (upd H5 u (.lst (Y.map V.ref++[.ref t]))):=λ b o nb e=>k6 b o (λ q=>by rw[q,bn]at e;cases e) (d4 b o nb e)
   have cz:PotAt (upd H5 u (.lst (Y.map V.ref++[.ref t]))) p:=by
    obtain⟨x,y,hx,h0⟩:=p4.kept g5;exact⟨x,y,k6 p _ (ox b6) hx,h0⟩
   generalize upd H5 u (.lst (Y.map V.ref++[.ref t]))=H6 at *;refine⟨_,rfl,.inl ⟨rfl,_,SqL.of am⟩,_,rfl,s,_,_,rfl,rfl,am,(by rw[aj];exact kQ (by omega)),?_⟩;have k7:∀ b o,b≠s->H6 b=some o->upd H6 s (.lst (O.map vn++[vn v])) b=some o:=λ b o nb e=>by rw[kM nb];exact e
   refine⟨_,_,_,_,_,O++[v],Fs++[vY W[v] O],an,Y++[t],rfl,λ b o nb e=>k7 b o (λ q=>by rw[q,al]at e;cases e) (cp b o nb e),?_,?_,c9.but k7 (ox bx) (λ xs e=>by rw[am]at e;cases e),I',by rw[bj,lO];rfl⟩
   ·obtain⟨x,y,hx,h0⟩:=cz
    exact⟨x,y,k7 p _ (ox ba) hx,h0⟩
   ·rw[kA,cy]
    rfl
 ·rintro σ H2 ⟨x5,x6,x7,x8,x9,O,Fs,Ts,Y,rfl,sb,pt,hO,RN,I,lO⟩
  rw[aj,a1]at lO;have full:O.length+1=W.length:=by omega
  obtain⟨row,an,T,ro,hd,la,pm⟩:=I.last G a4 bc full;have nd:=S.nd _ _ T;have rf:=kOY ro nd hd;rw[<-rf]at la
  have ma:a∈row:=by
   obtain⟨d5,bv,m⟩:=S.sym _ _ aq;rw[T]at bv
   cases bv
   exact m
  have ia:=fq ma;have a7:=S.len T;have a2:=hw.pot sb hp;have U:=sb z _ (λ q=>by rw[q,a3]at hz;cases hz) hz;obtain⟨aw,Z,l,rows⟩:=a2.at;obtain⟨rb,cd,ah⟩:=rows c row T;refine⟨_,rfl,_,rfl,z,_,_,_,rfl,rfl,SqT.of U,(show atI [vn a,vn g,vn c] 2=_ from rfl),r,_,_,_,rfl,rfl,SqT.of Z,cd,?_⟩;refine⟨_,rfl,.inr (.inl ⟨rfl,.inr ⟨_,ah⟩⟩),_,rfl,z,_,_,_,rfl,rfl,SqT.of U,(show atI [vn a,vn g,vn c] 0=_ from rfl),rb,row.map ci,a,row.idxOf a,rfl,rfl,SqT.of (by rw[ah,xD]),qO ma,?_⟩;have dg:O.length<=42:=by omega
  have da:Fs.length<=42:=by have:=(zR I.go).1;omega
  refine⟨_,rfl,s,_,rfl,.inl ⟨SqL.of hO,λ t1 m1=>?_⟩⟩;have q1:=kC m1 (.tup (O.map vn));have c6:=kA (H:=H2) (a:=t1) (o:=.tup (O.map vn));generalize upd H2 t1 (.tup (O.map vn))=H3 at *;refine⟨_,rfl,z,_,_,_,rfl,rfl,SqT.of (q1 _ _ U),(show atI [vn a,vn g,vn c] 2=_ from rfl),yS1,λ t2 m2=>?_⟩;have q2:=kC m2 (.tup [vn c]);have cr:=kA (H:=H3) (a:=t2) (o:=.tup [vn c]);generalize upd H3 t2 (.tup [vn c])=H4 at *;refine⟨t1,t2,_,_,rfl,rfl,q2 _ _ c6,cr,(by rw[aj,fj];exact fv (kQ (by omega))),λ t3 H5 q3 c7=>?_⟩;have q3:Same H4 H5:=q3;have ag:=q1.trans (q2.trans q3);have a5:=ag _ _ ah;refine⟨_,rfl,_,rfl,_,rfl,_,rfl,rb,_,rfl,a5,λ p1 H6 q6 b2=>?_⟩;rw[xZ _ (by rw[aj];omega),<-yj]at b2;have q6:Same H5 H6:=q6;refine⟨_,rfl,_,rfl,_,rfl,rb,_,rfl,q6 _ _ a5,λ p2 H7 q7 a6=>?_⟩;rw[vQ _ (by rw[aj];omega),<-uz]at a6;have q7:Same H6 H7:=q7;refine⟨p1,p2,_,_,rfl,rfl,q7 _ _ b2,a6,(by simp only[aj,iN,cx];exact fv (kQ (by omega))),λ t4 H8 q8 ax=>?_⟩;have q8:Same H7 H8:=q8;rw[<-cy]at ax;refine⟨yS1,λ l1 m9=>?_⟩;have q9:=kC m9 (.lst [V.ref t4]);have c5:=kA (H:=H8) (a:=l1) (o:=.lst [V.ref t4]);have af:=q6.trans (q7.trans (q8.trans q9));have a9:=(RN.kept ag).kept af;have br:=q9 _ _ ax;have b9:=af _ _ c7;generalize upd H8 l1 (.lst [V.ref t4])=H9 at *;refine⟨u,l1,_,_,rfl,rfl,a9.top,c5,(by rw[aj,fj,a9.len];exact fv (kQ (by omega))),λ l2 ce=>?_⟩;have a8:=kC ce (.lst (Y.map V.ref++[V.ref t4]));have b0:=kLZ (r':=l2) a9 (λ b xs e=>a8 _ _ e) br kA;have ac:=a8 _ _ b9;generalize upd H9 l2 (.lst (Y.map V.ref++[V.ref t4]))=dd at *;refine⟨yS2,λ tt mt=>?_⟩;have aa:=kC mt (.tup [V.ref t3,V.ref l2]);have qq:=ag.trans (af.trans (a8.trans aa));refine k tt t3 l2 (Y++[t4]) (O++[c]) _ an _ (sb.trans (SameBut.of qq)) (pt.kept qq) kA ?_ (b0.kept aa) la pm;have:=aa _ _ ac;rw[this,cy]
  rfl
end
section
structure TrT(H:Hp)(t:au)(ta:List au)(S:List (Nat×Int×Int)):Prop where
 top:H t=some (.tup (ta.map V.ref))
 len:ta.length=S.length
 row:∀(i:Nat)(a:au)(s:Nat×Int×Int),ta[i]?=some a->S[i]?=some s->H a=some (.tup [vn s.1,.int s.2.1,.int s.2.2])
def TrT.kept{H H':Hp}{t:au}{c:List au}{S:List (Nat×Int×Int)}(h:TrT H t c S)(g:∀ b xs,H b=some (.tup xs)->H' b=some (.tup xs)):TrT H' t c S:=⟨g _ _ h.top,h.len,λ i a s f d=>g _ _ (h.row i a s f d)⟩
def kPA{H a:Hp}{d:au}{kvs:List (Key×V)}(f:∀ b u,b≠d->H b=some u->a b=some u){o:Obj}(g:a d=some (.frz o (.dK kvs)))(c:H d=some (.dK kvs)\/a=H) :
  (∀ b xs,H b=some (.tup xs)->a b=some (.tup xs))/\(∀ b xs,H b=some (.lst xs)->a b=some (.lst xs))/\∀ d' S,RdS H d' S->RdS a d' S:=by
 rcases c with e | rfl
 ·exact⟨λ b xs q=>f _ _ (λ z=>by rw[z,e]at q;cases q) q,λ b xs q=>f _ _ (λ z=>by rw[z,e]at q;cases q) q,λ d' S h=>h.frz e f ⟨o,g⟩⟩
 ·exact⟨λ _ _ q=>q,λ _ _ q=>q,λ _ _ r=>r⟩
inductive kFQ(vs:List V)(H:Hp)(Q:VK)(Y:XK):Prop
 | mk:∀(w z o:au)(W:Rows)(ms:List Nat)(a b c:Nat)(Fs Ts:List (List Nat)),(vs=[.ref w,.ref z,.ref o])->(Gw H w z o W ms a b c)->((Tri.E W a c/\(nxt W (a,c)).2=b))->(zG W a b c ms=some (Fs,Ts))->(∀(t:au)(us:List au)(H':Hp),Same H H'->H' t=some (.tup (us.map V.ref))->us.length=Fs.length+1->(∀(j:Nat)(u:au),us[j]?=some u->∃ ta,TrT H' u ta (gF ms Fs Ts j).1)->Q (.ref t) H')->kFQ vs H Q Y
def kBV(B:Fx):Hs "grids" ["web","base","order"] 9 (kFQ):=by
 refine qK B.X B.d22 kLQ λ f aw A an s0 H vs Q E nN hr h=>?_;obtain⟨w,z,o,W,Y,a,b,c,Fs,Ts,rfl,G,ah,hl,k⟩:=h
 refine⟨_,(kE (yC (pf (vX B) hr (kI (pv 0) (kI (pv 1) (kI (pv 2) kY)))) (jK (n:=2) rfl (kT (pgn 3 nN) (kT (pgn 4 nN) qV))))
   (kL (kU (jD qR rfl (B.z B.y6) fu (p1 (xG (Nc:=["spots"]) (js:=[none]) rfl rfl (jP (pf (fL B) hr (kI (pv 2) (kI (pv 3) (kI (pv 4) kY))))) (CS.of rfl rfl) rfl (λ C J N fp Z=>(pgc 0)) (λ C J N fp Z D L=>(qT (jL (jD (show zH _ _ (zU K) from qR) rfl (B.z B.y6) fu (p1 (xG (Nc:=["p","x","y"]) (js:=[none,none,none]) rfl rfl (kJA (pv 0)) (CS.of rfl rfl) rfl (λ C J N fp Z=>(show PG _ _ (mZ K 2 _) from jK rfl (kT (pgc 0) (kT (show PG _ _ (mZ K 2 _) from jK rfl (kT (pgc 1) (kT (pgc 2) qV))) qV)))) (λ C J N fp Z D L=>(qT (jL (qG (kI (pv 0) (kI (pv 1) (kI (pv 2) kY))))))))))))))))))),?_⟩
 try dsimp only[qX]
 have ok:=kEM G.tr G.ab G.perm G.three hl;have b1:=G.tr.le;refine⟨_,rfl,_,rfl,_,rfl,w,z,o,W,Y,a,b,c,Fs,Ts,rfl,G,ah,hl,λ t f g fa ga H1 g1 ht lf lg=>?_⟩;refine⟨t,_,rfl,SqT.of ht,rfl,_,_,rfl,_,_,rfl,rfl,?_⟩;refine⟨_,rfl,_,rfl,_,rfl,o,f,g,fa,ga,Y,Fs,Ts,rfl,g1 _ _ G.ord,lf,lg,ok,λ td ds H2 g2 O len rd af=>?_⟩;have b0:Y.length=W.length:=by rw[G.perm.length_eq,gv]
 have lF:=ok.lm;have a6:=g1.trans g2;refine⟨td,rfl,⟨_,SqL.of O⟩,λ D nD=>?_⟩;have fD:H D=none:=a6.free nD;refine jI (xs:=ds.map V.ref) (λ j σ H3=>∃(x0:Option V)(I:List au),σ=[x0]/\Same H H3/\H3 td=some (.lst (ds.map V.ref))/\(∀ j d,ds[j]?=some d->RdS H3 d (gF Y Fs Ts j).1)/\H3 D=some (.lst (I.map V.ref))/\I.length=j/\∀(i:Nat)(u:au),I[i]?=some u->∃ l,TrT H3 u l (gF Y Fs Ts i).1) ⟨none,[],rfl,a6.trans (kC nD _),kC nD _ _ _ O,λ j d e=>(rd j d e).kept (kC nD _),kA,rfl,λ i u e=>by simp at e⟩ ?_ ?_ ?_
 ·rintro j σ H3 _ ⟨x0,I,rfl,g3,h3,_⟩
  exact SqL.of h3
 ·rintro j v σ H3 hv ⟨x0,I,rfl,g3,h3,r3,hD,lu,hu⟩
  rw[az]at hv;obtain⟨d,ed,rfl⟩:=bh.mp hv;have hj:=(ak.mp ed).1;have fd:=g1.free (af d (cv ed));have aa:=ok.inv j (by omega)
  have lS:(gF Y Fs Ts j).1.length<=42:=by
   have:=congrArg ip aa.fst;rw[aj,cx]at this;omega
  obtain⟨ts,ac,sp⟩:=r3 j d ed;refine⟨_,rfl,d,_,rfl,ac,λ o H4 a3 k4 c4=>?_⟩;obtain⟨a2,a1,a4⟩:=kPA k4 a3 c4;have g4:Same H H4:=λ b u q=>k4 b u (λ z=>by rw[z,fd]at q;cases q) (g3 b u q);have h4:=a1 _ _ h3;have r4:∀ j d,ds[j]?=some d->RdS H4 d (gF Y Fs Ts j).1:=λ j d e=>a4 _ _ (r3 j d e);have U:=a1 _ _ hD
  have ag:∀(i:Nat)(u:au),I[i]?=some u->∃ l,TrT H4 u l (gF Y Fs Ts i).1:=λ i u e=>by
   obtain⟨l,q⟩:=hu i u e;exact⟨l,q.kept a2⟩
  have a5:=sp.to (d':=d) (H':=H4) a2;clear r3 h3 g3 hD hu sp ac k4 a2 a1 a4 c4;have aq:=a5.len;have lK:(SpK (gF Y Fs Ts j).1 ts).length=(gF Y Fs Ts j).1.length:=by unfold SpK;rw[aj,AZ];omega
  refine λ E nE=>?_;have DE:D≠E:=kO U nE;generalize hS:(gF Y Fs Ts j).1=S at *;refine gO (kvs:=SpK S ts) (λ i σ m=>∃(x0 x1 x2:Option V)(l:List au),σ=[x0,x1,x2]/\Same H4 m/\m E=some (.lst (l.map V.ref))/\l.length=i/\∀(i:Nat)(a:au)(s:Nat×Int×Int),l[i]?=some a->S[i]?=some s->m a=some (.tup [vn s.1,.int s.2.1,.int s.2.2])) ⟨none,none,none,[],rfl,kC nE _,kA,rfl,λ i a s e=>by simp at e⟩ ?_ ?_ ?_
  ·rintro i σ m _ ⟨x0,x1,x2,l,rfl,g5,_⟩
   exact g5 _ _ a3
  ·rintro i kv T σ m a0 nT ⟨x0,x1,x2,l,rfl,g5,hE,lt,ht⟩
   obtain⟨i1,i2,i3⟩ : ∃(i1:i<S.length)(i2:i<ts.length),kv=(cm (S[i].1:Int),V.ref ts[i]):=by
    have hi:=(ak.mp a0).1;rw[lK]at hi;refine⟨hi,by omega,?_⟩;unfold SpK at a0;rw[az,mf (z:=(S[i],ts[i]'(by omega))) |>.mpr ⟨ae _,ae _⟩]at a0;exact(bg a0).symm
   subst i3;have eS:=ae i1;have ap:=g5 _ _ (a5.row i _ _ (ae i2) eS);generalize S[i]=sv at *;obtain⟨p,x,y⟩:=sv;generalize ts[i]=t at *;have gT:=kC nT (.tup [kV (cm (p:Int)),V.ref t]);have hT:=kA (H:=m) (a:=T) (o:=.tup [kV (cm (p:Int)),V.ref t]);refine⟨T,_,rfl,SqT.of hT,rfl,_,_,rfl,_,_,rfl,t,_,rfl,SqT.of (gT _ _ ap),rfl,_,_,rfl,_,_,rfl,rfl,?_⟩;have a8:=gT _ _ hE;have g6:=g5.trans gT;have al:∀(i:Nat)(a:au)(s:Nat×Int×Int),l[i]?=some a->S[i]?=some s->upd m T (.tup [kV (cm (p:Int)),V.ref t]) a=some (.tup [vn s.1,.int s.2.1,.int s.2.2]):=λ i a s e1 e2=>gT _ _ (ht i a s e1 e2);generalize upd m T (.tup [kV (cm (p:Int)),V.ref t])=H6 at *;refine⟨rfl,_,rfl,_,rfl,_,rfl,yS3,λ q nq=>?_⟩;have gq:=kC nq (.tup [vn p,.int x,.int y]);refine⟨_,gq _ _ a8,(by rw[aj,lt];exact kQ (by omega)),?_⟩
   have st:∀ b M,upd H6 q (.tup [vn p,.int x,.int y]) b=some (.tup M)->upd (upd H6 q (.tup [vn p,.int x,.int y])) E (.lst (l.map V.ref++[.ref q])) b=some (.tup M):=λ b M e=>by
    rw[kM λ z=>by rw[z,gq _ _ a8]at e;cases e];exact e
   refine⟨_,_,_,l++[q],rfl,qF nE (g6.trans gq),by rw[cy];exact kA,by rw[bj,lt];rfl,λ i' a s e1 e2=>?_⟩;rcases snoc e1 with⟨c,e1⟩ | ⟨ei,e1⟩
   ·exact st _ _ (gq _ _ (al i' a s e1 e2))
   ·rw[ei,lt,eS]at e2
    cases e1
    cases e2
    exact st _ _ kA
  ·rintro σ m ⟨ax,x1,x2,l,rfl,g5,hE,lt,ht⟩
   rw[lK]at lt;refine⟨E,_,rfl,.inl ⟨SqL.of hE,λ q nq=>?_⟩⟩;have gq:=kC nq (.tup (l.map V.ref));have r:=g5.trans gq;refine⟨_,r _ _ U,(by rw[aj,lu];exact kQ (by omega)),?_⟩;have a7:=r _ _ U;have k7:∀ b u,b≠D->upd m q (.tup (l.map V.ref)) b=some u->upd (upd m q (.tup (l.map V.ref))) D (.lst (I.map V.ref++[.ref q])) b=some u:=λ b u nb e=>by rw[kM nb];exact e
   have st:∀ b M,upd m q (.tup (l.map V.ref)) b=some (.tup M)->upd (upd m q (.tup (l.map V.ref))) D (.lst (I.map V.ref++[.ref q])) b=some (.tup M):=λ b M e=>k7 b _ (λ z=>by rw[z,a7]at e;cases e) e;refine⟨_,I++[q],rfl,λ b u e=>k7 b u (λ z=>by rw[z,fD]at e;cases e) (r _ _ (g4 b u e)),?_,λ j' d' e=>?_,by rw[cy];exact kA,by rw[bj,lu];rfl,λ i' u e=>?_⟩
   ·refine k7 td _ (λ z=>?_) (r _ _ h4)
    rw[z]at O;rw[nD]at O;cases O
   ·refine((r4 j' d' e).kept r).but k7 (λ z=>?_) (λ M e=>by rw[a7]at e;cases e)
    obtain⟨as,a9,_⟩:=r4 j' d' e;rw[z]at a9;rcases a9 with q | ⟨ob,q⟩
    ·rw[U]at q;cases q
    ·rw[U]at q;cases q
   ·rcases snoc e with⟨c,e⟩ | ⟨ei,e⟩
    ·obtain⟨am,q'⟩:=ag i' u e
     exact⟨am,(q'.kept λ b M e=>r _ _ e).kept st⟩
    ·cases e
     rw[ei,lu,hS];exact⟨l,⟨st _ _ kA,lt,λ i a s e1 e2=>st _ _ (gq _ _ (ht i a s e1 e2))⟩⟩
 ·rintro σ H3 ⟨x0,I,rfl,g3,h3,r3,hD,lu,hu⟩
  refine⟨D,_,rfl,.inl ⟨SqL.of hD,λ t' nt=>?_⟩⟩;have gt:=kC nt (.tup (I.map V.ref));refine k t' I _ (g3.trans gt) kA (by rw[lu,aj,len]) λ i u e=>?_;obtain⟨l,q⟩:=hu i u e;exact⟨l,q.kept λ b M e=>gt _ _ e⟩
inductive kAN(vs:List V)(H:Hp)(Q:VK)(Y:XK):Prop
 | mk:∀(a:au)(x y:Int),(vs=[.ref a])->(H a=some (.tup [.int x,.int y]))->(∀(t t1 t2:au)(H':Hp),Same H H'->H' t=some (.tup [.ref t1,.ref t2])->H' t1=some (.tup [.int x,.int 1])->H' t2=some (.tup [.int y,.int 1])->Q (.ref t) H')->kAN vs H Q Y
def mI(B:Fx):Hs "whole_point" ["pair"] 1 (kAN):=by
 refine qK B.X B.d0 hZ λ f q A b s H u Q E j r h=>?_;obtain⟨a,x,y,rfl,l,k⟩:=h
 refine⟨_,(kE (yC (pv 0) (jK (n:=2) rfl (kT (pgn 1 j) (kT (pgn 2 j) qV))))
   (kL (kU (qG (p2 (qG (p2 (pv 1) kJ)) (qG (p2 (pv 2) kJ))))))),?_⟩
 try dsimp only[qX]
 refine⟨_,rfl,a,_,rfl,SqT.of l,rfl,_,_,rfl,_,_,rfl,rfl,?_⟩;refine⟨_,rfl,yS2,λ d p=>⟨_,rfl,yS2,λ i m=>⟨yS2,λ t n=>?_⟩⟩⟩;have o:=kC p (.tup [.int x,.int 1]);have g:=kC m (.tup [.int y,.int 1]);have c:=kC n (.tup [.ref d,.ref i]);exact k t d i _ (o.trans (g.trans c)) kA (c _ _ (g _ _ kA)) (c _ _ kA)
end
section
def PtN(H:Hp)(d:au)(X:Nat->Option (Int×Int))(n:Nat):Prop:=∃ a,H d=some (.dK a)/\a.length<=n/\∀ p s,X p=some s->∃ t,jJ a (cm (p:Int))=some (.ref t)/\H t=some (.tup [.int s.1,.int s.2])
def PtN.but{H H':Hp}{h x:au}{X:Nat->Option (Int×Int)}{n:Nat}(r:PtN H h X n)(g:∀ b o,b≠x->H b=some o->H' b=some o)(nx:h≠x)(d:∀ xs,H x≠some (.tup xs)):PtN H' h X n:=by
 obtain⟨a,e,le,k⟩:=r;refine⟨a,g _ _ nx e,le,λ p l q=>?_⟩;obtain⟨b,h1,c⟩:=k p l q;exact⟨b,h1,g _ _ (λ z=>d _ (z ▸ c)) c⟩
def PtN.kept{H H':Hp}{h:au}{X:Nat->Option (Int×Int)}{n:Nat}(r:PtN H h X n)(g:Same H H'):PtN H' h X n:=by
 obtain⟨a,e,le,k⟩:=r;refine⟨a,g _ _ e,le,λ p l q=>?_⟩;obtain⟨b,h1,c⟩:=k p l q;exact⟨b,h1,g _ _ c⟩
def PtN.get{H:Hp}{d:au}{X:Nat->Option (Int×Int)}{n p:Nat}{s:Int×Int}(r:PtN H d X n)(e:X p=some s):∃ t,DGet H d (vn p) (some (.ref t))/\H t=some (.tup [.int s.1,.int s.2]):=by
 obtain⟨c,b,_,k⟩:=r;obtain⟨t,h1,a⟩:=k p s e;refine⟨t,?_,a⟩;have:=DGet.k (k:=cm (p:Int)) b;rw[h1]at this;exact this
def kMF{kvs:List (Key×V)}{k:Key}{u:V}(v:V)(h:jJ kvs k=some u):(qS kvs k v).length=kvs.length:=by
 unfold qS;rw[if_pos (by rw[wP,h];rfl)];simp
def PtN.put{H:Hp}{h b:au}{X X':Nat->Option (Int×Int)}{n v:Nat}{s:Int×Int}(r:PtN H h X n)(C:n<=42)(j:H b=some (.tup [.int s.1,.int s.2]))(i:∀ p s',X' p=some s'->(p=v/\s'=s)\/(p≠v/\X p=some s')):∃ H',DPut H h (vn v) (.ref b) H'/\(∀ c o,c≠h->H c=some o->H' c=some o)/\PtN H' h X' (n+1)/\((X v).isSome->PtN H' h X' n):=by
 obtain⟨a,e,le,k⟩:=r
 have st:∀(x:au)(d:List V),H x=some (.tup d)->upd H h (.dK (qS a (cm (v:Int)) (.ref b))) x=some (.tup d):=λ x d g=>by
  rw[kM λ z=>by rw[z,e]at g;cases g];exact g
 have key:∀ p s',X' p=some s'->∃ t,jJ (qS a (cm (v:Int)) (.ref b)) (cm (p:Int))=some (.ref t)/\upd H h (.dK (qS a (cm (v:Int)) (.ref b))) t=some (.tup [.int s'.1,.int s'.2]):=λ p s' q=>by
  rw[xS];by_cases c:p=v
  ·rw[if_pos (by rw[c])]
   rcases i p s' q with⟨_,rfl⟩ | q
   ·exact⟨b,rfl,st _ _ j⟩
   ·exact absurd c q.1
  ·rw[if_neg (λ q=>c (by have:=rj q;omega))]
   rcases i p s' q with⟨z,_⟩ | q
   ·exact absurd z c
   ·obtain⟨l,h1,y⟩:=k p s' q.2
    exact⟨l,h1,st _ _ y⟩
 refine⟨_,DPut.k (k:=cm (v:Int)) e (kQ (by omega)),λ c o B u=>by rw[kM B];exact u,⟨_,kA,?_,key⟩,λ m=>⟨_,kA,?_,key⟩⟩
 ·have:=vG a (cm (v:Int)) (V.ref b)
  omega
 ·obtain⟨A,f⟩:=jh.mp m
  obtain⟨t,h1,_⟩:=k v A f;rw[kMF _ h1];exact le
def shf(X:Nat->Option (Int×Int))(G:List Nat)(a:Int):Nat->Option (Int×Int):=λ p=>if p∈G then(X p).map λ s=>(s.1+a,s.2) else X p
def kFY{X:Nat->Option (Int×Int)}{b:Int}:shf X [] b=X:=by
 funext p
 unfold shf;rw[if_neg (by simp)]
def kFX{X:Nat->Option (Int×Int)}{G:List Nat}{b:Int}{q:Nat}{s:Int×Int}(f:q∉G)(e:X q=some s)(p:Nat)(a:Int×Int)(h:shf X (G++[q]) b p=some a):(p=q/\a=(s.1+b,s.2))\/(p≠q/\shf X G b p=some a):=by
 unfold shf at h ⊢;by_cases c:p=q
 ·left
  refine⟨c,?_⟩;rw[c,if_pos (by simp),e]at h;exact(bg h).symm
 ·right
  refine⟨c,?_⟩;by_cases d:p∈G
  ·rw[if_pos (by simp[d])]at h
   rw[if_pos d];exact h
  ·rw[if_neg (by simp[d,c])]at h
   rw[if_neg d];exact h
inductive kFJ(vs:List V)(H:Hp)(Q:VK)(Y:XK):Prop
 | mk:∀(h d s:au)(ps:List Nat)(U:Nat->Option (List Nat))(X:Nat->Option (Int×Int))(n:Nat)(by':Int),(vs=[.ref h,.ref d,.ref s,.int by'])->((H s=some (.lst (ps.map vn))\/H s=some (.tup (ps.map vn))))->(HuN H h U n)->(PtN H d X n)->(h≠d)->(n<=42)->((∀ p∈ps,(U p).isSome))->((∀ p∈ps,∀ q∈(U p).getD [],(X q).isSome))->((ps.flatMap λ p=>(U p).getD []).Nodup)->(∀ H',(∀ b o,b≠d->H b=some o->H' b=some o)->PtN H' d (shf X (ps.flatMap λ p=>(U p).getD []) by') n->Q .non H')->kFJ vs H Q Y
def bQ(B:Fx):Hs "_law_shift" ["_law_hung","_law_points","_law_some","_law_by"] 1 (kFJ):=by
 refine qK B.X B.d38 rX λ f a8 A a6 s0 H vs Q E nN Z h=>?_;obtain⟨h,d,s,D,U,X,n,y,rfl,J,hh,hX,hd,a3,us,a2,nd,k⟩:=h;obtain⟨a7,eX,_⟩:=id hX;have turn:∀(c:Hp),(∀ b o,b≠d->H b=some o->c b=some o)->HuN c h U n:=λ c C=>hh.but C hd (λ l e=>by rw[eX]at e;cases e);rcases J with J | J
 ·refine⟨_,(kL (uJ (jP (pv 2)) (pgn 4 nN) (kL (uJ (jP (jT (jS Z) (pv 0) (pv 4) (λ _ _=>rfl))) (pgn 5 nN) (kL (uV (jS Z) (pv 1) (pv 5) (qG (p2 (kX qY (pix kZ (jT (jS Z) (pv 1) (pv 5) (λ _ _=>rfl)) kJ) (pv 3)) (pix kZ (jT (jS Z) (pv 1) (pv 5) (λ _ _=>rfl)) kJ))) rfl)))))),?_⟩
  try dsimp only[qX]
  refine⟨_,rfl,s,rfl,⟨_,SqL.of J⟩,?_⟩;have sd:s≠d:=λ z=>by rw[z,eX]at J;cases J
  refine cI (xs:=D.map vn) (λ i r c=>∃(T m:Option V),r=[some (.ref h),some (.ref d),some (.ref s),some (.int y),T,m]/\(∀ b o,b≠d->H b=some o->c b=some o)/\PtN c d (shf X ((D.take i).flatMap λ p=>(U p).getD []) y) n) ⟨_,_,rfl,λ _ _ _ e=>e,by rw[yo,CH,kFY];exact hX⟩ ?_ ?_ ?_
  ·rintro i r c _ ⟨T,m,rfl,C,_⟩
   exact SqL.of (C _ _ sd J)
  ·rintro i v r c O ⟨T,m,rfl,C,a⟩
   rw[az]at O;obtain⟨p,ep,rfl⟩:=bh.mp O;have pm:=cv ep;obtain⟨l,el⟩:=jh.mp (us p pm);have xl:=a2 p pm;rw[el]at xl;obtain⟨a5,h1,h2,h3⟩:=turn c C;obtain⟨b,vb,Y⟩:=h3 p l el
   have dg:DGet c h (vn p) (some (.ref b)):=by
    have:=DGet.k (k:=cm (p:Int)) h1;rw[vb]at this;exact this
   have tk:((D.take (i+1)).flatMap λ p=>(U p).getD [])=((D.take i).flatMap λ p=>(U p).getD [])++l:=by
    rw[iL,ep,iw,kb,qw,el]
    rfl
   have a1:(((D.take i).flatMap λ p=>(U p).getD [])++l).Nodup:=by
    rw[<-tk];refine DW ?_ nd;rw[<-fk (i+1) D,kb,fk];exact Bw _ _
   rw[tk];generalize((D.take i).flatMap λ p=>(U p).getD [])=G0 at *;refine⟨_,rfl,_,rfl,h,_,rfl,dg,b,rfl,⟨_,SqL.of Y⟩,?_⟩;obtain⟨a4,a0,_⟩:=id a;have bd:b≠d:=λ z=>by rw[z,a0]at Y;cases Y
   refine cI (xs:=l.map vn) (λ j r N=>∃(m:Option V),r=[some (.ref h),some (.ref d),some (.ref s),some (.int y),some (vn p),m]/\(∀ b o,b≠d->c b=some o->N b=some o)/\PtN N d (shf X (G0++l.take j) y) n) ⟨_,rfl,λ _ _ _ e=>e,by rw[yo,iP];exact a⟩ ?_ ?_ ?_
   ·rintro j r N _ ⟨m,rfl,S,_⟩
    exact SqL.of (S _ _ bd Y)
   ·rintro j u r N O ⟨m,rfl,S,g⟩
    rw[az]at O;obtain⟨q,eq,rfl⟩:=bh.mp O;have ql:=cv eq;obtain⟨I,G⟩:=jh.mp (xl q ql);have tj:G0++l.take (j+1)=(G0++l.take j)++[q]:=by rw[iL,eq,iw,dh]
    have nq:q∉G0++l.take j:=λ z=>by
     have:(G0++l.take (j+1)).Nodup:=a1.sublist (Bx (um _ _) _);rw[tj]at this;exact(dc.mp this).2.2 q z q (by simp) rfl
    have x:shf X (G0++l.take j) y q=some I:=by unfold shf;rw[if_neg nq];exact G
    obtain⟨t,L,ht⟩:=g.get x;refine⟨_,rfl,_,rfl,d,_,rfl,L,t,_,_,_,rfl,rfl,SqT.of ht,rfl,_,rfl,_,_,rfl,rfl,_,rfl,_,rfl,d,_,rfl,L,t,_,_,_,rfl,rfl,SqT.of ht,rfl,yS2,λ t' nt=>?_⟩;have gt:=kC nt (.tup [.int (I.1+y),.int I.2]);obtain⟨H4,d1,d2,_,d4⟩:=(g.kept gt).put (b:=t') (v:=q) (s:=(I.1+y,I.2)) (X':=shf X (G0++l.take j++[q]) y) a3 kA (λ p s' e=>kFX nq G p s' e);refine⟨_,rfl,_,rfl,d,_,rfl,d1,?_⟩;refine⟨_,rfl,λ b o M e=>d2 _ _ M (gt _ _ (S b o M e)),?_⟩;rw[tj];exact d4 (by rw[x];rfl)
   ·rintro r N ⟨m,rfl,S,g⟩
    rw[aj,gn]at g;exact⟨_,_,rfl,λ b o M e=>S b o M (C b o M e),g⟩
  ·rintro r c ⟨T,m,rfl,C,a⟩
   rw[aj,gn]at a;exact k c C a
 ·refine⟨_,(kL (uJ (yR (pv 2)) (pgn 4 nN) (kL (uJ (jP (jT (jS Z) (pv 0) (pv 4) (λ _ _=>rfl))) (pgn 5 nN) (kL (uV (jS Z) (pv 1) (pv 5) (qG (p2 (kX qY (pix kZ (jT (jS Z) (pv 1) (pv 5) (λ _ _=>rfl)) kJ) (pv 3)) (pix kZ (jT (jS Z) (pv 1) (pv 5) (λ _ _=>rfl)) kJ))) rfl)))))),?_⟩
  try dsimp only[qX]
  refine⟨_,rfl,s,rfl,⟨_,SqT.of J⟩,?_⟩;have sd:s≠d:=λ z=>by rw[z,eX]at J;cases J
  refine tS (xs:=D.map vn) (λ i r c=>∃(T m:Option V),r=[some (.ref h),some (.ref d),some (.ref s),some (.int y),T,m]/\(∀ b o,b≠d->H b=some o->c b=some o)/\PtN c d (shf X ((D.take i).flatMap λ p=>(U p).getD []) y) n) ⟨_,_,rfl,λ _ _ _ e=>e,by rw[yo,CH,kFY];exact hX⟩ ?_ ?_ ?_
  ·rintro i r c _ ⟨T,m,rfl,C,_⟩
   exact SqT.of (C _ _ sd J)
  ·rintro i v r c O ⟨T,m,rfl,C,a⟩
   rw[az]at O;obtain⟨p,ep,rfl⟩:=bh.mp O;have pm:=cv ep;obtain⟨l,el⟩:=jh.mp (us p pm);have xl:=a2 p pm;rw[el]at xl;obtain⟨a5,h1,h2,h3⟩:=turn c C;obtain⟨b,vb,Y⟩:=h3 p l el
   have dg:DGet c h (vn p) (some (.ref b)):=by
    have:=DGet.k (k:=cm (p:Int)) h1;rw[vb]at this;exact this
   have tk:((D.take (i+1)).flatMap λ p=>(U p).getD [])=((D.take i).flatMap λ p=>(U p).getD [])++l:=by
    rw[iL,ep,iw,kb,qw,el]
    rfl
   have a1:(((D.take i).flatMap λ p=>(U p).getD [])++l).Nodup:=by
    rw[<-tk];refine DW ?_ nd;rw[<-fk (i+1) D,kb,fk];exact Bw _ _
   rw[tk];generalize((D.take i).flatMap λ p=>(U p).getD [])=G0 at *;refine⟨_,rfl,_,rfl,h,_,rfl,dg,b,rfl,⟨_,SqL.of Y⟩,?_⟩;obtain⟨a4,a0,_⟩:=id a;have bd:b≠d:=λ z=>by rw[z,a0]at Y;cases Y
   refine cI (xs:=l.map vn) (λ j r N=>∃(m:Option V),r=[some (.ref h),some (.ref d),some (.ref s),some (.int y),some (vn p),m]/\(∀ b o,b≠d->c b=some o->N b=some o)/\PtN N d (shf X (G0++l.take j) y) n) ⟨_,rfl,λ _ _ _ e=>e,by rw[yo,iP];exact a⟩ ?_ ?_ ?_
   ·rintro j r N _ ⟨m,rfl,S,_⟩
    exact SqL.of (S _ _ bd Y)
   ·rintro j u r N O ⟨m,rfl,S,g⟩
    rw[az]at O;obtain⟨q,eq,rfl⟩:=bh.mp O;have ql:=cv eq;obtain⟨I,G⟩:=jh.mp (xl q ql);have tj:G0++l.take (j+1)=(G0++l.take j)++[q]:=by rw[iL,eq,iw,dh]
    have nq:q∉G0++l.take j:=λ z=>by
     have:(G0++l.take (j+1)).Nodup:=a1.sublist (Bx (um _ _) _);rw[tj]at this;exact(dc.mp this).2.2 q z q (by simp) rfl
    have x:shf X (G0++l.take j) y q=some I:=by unfold shf;rw[if_neg nq];exact G
    obtain⟨t,L,ht⟩:=g.get x;refine⟨_,rfl,_,rfl,d,_,rfl,L,t,_,_,_,rfl,rfl,SqT.of ht,rfl,_,rfl,_,_,rfl,rfl,_,rfl,_,rfl,d,_,rfl,L,t,_,_,_,rfl,rfl,SqT.of ht,rfl,yS2,λ t' nt=>?_⟩;have gt:=kC nt (.tup [.int (I.1+y),.int I.2]);obtain⟨H4,d1,d2,_,d4⟩:=(g.kept gt).put (b:=t') (v:=q) (s:=(I.1+y,I.2)) (X':=shf X (G0++l.take j++[q]) y) a3 kA (λ p s' e=>kFX nq G p s' e);refine⟨_,rfl,_,rfl,d,_,rfl,d1,?_⟩;refine⟨_,rfl,λ b o M e=>d2 _ _ M (gt _ _ (S b o M e)),?_⟩;rw[tj];exact d4 (by rw[x];rfl)
   ·rintro r N ⟨m,rfl,S,g⟩
    rw[aj,gn]at g;exact⟨_,_,rfl,λ b o M e=>S b o M (C b o M e),g⟩
  ·rintro r c ⟨T,m,rfl,C,a⟩
   rw[aj,gn]at a;exact k c C a
inductive kFL(vs:List V)(H:Hp)(Q:VK)(Y:XK):Prop
 | mk:∀(a b:au)(l r:Int×Int),(vs=[.ref a,.ref b])->(H a=some (.tup [.int l.1,.int l.2]))->(H b=some (.tup [.int r.1,.int r.2]))->(∀(t:au)(H':Hp),Same H H'->H' t=some (.tup [.int (ovr l r).1,.int (ovr l r).2])->Q (.ref t) H')->kFL vs H Q Y
def kBQ(B:Fx):Hs "_law_over" ["_law_one","_law_other"] 1 (kFL):=by
 refine qK B.X B.d39 kBB λ f m A g n H o Q E i p h=>?_;obtain⟨a,b,l,r,rfl,c,d,k⟩:=h
 refine⟨_,(kE (pst 2 i (kX yL (pix kZ (pv 1) kJ) (pix kZ (pv 0) kJ)))
   (kL (kU (qG (p2 (kX qY (pix kZ (pv 0) kJ) (kX gI (kX yL (kX qY (pv 2) (pix kZ (pv 1) kJ)) (pix kZ (pv 0) kJ)) kJ)) (kX gI (kX qY (kX qY (pv 2) (pix kZ (pv 1) kJ)) (pix kZ (pv 0) kJ)) kJ)))))),?_⟩
 try dsimp only[qX]
 refine⟨_,rfl,b,_,_,_,rfl,rfl,SqT.of d,rfl,_,rfl,a,_,_,_,rfl,rfl,SqT.of c,rfl,_,_,rfl,rfl,?_⟩;refine⟨_,rfl,a,_,_,_,rfl,rfl,SqT.of c,rfl,_,rfl,_,rfl,b,_,_,_,rfl,rfl,SqT.of d,rfl,_,_,rfl,rfl,_,rfl,a,_,_,_,rfl,rfl,SqT.of c,rfl,_,_,rfl,rfl,_,_,rfl,rfl,⟨by decide,by decide⟩,_,_,rfl,rfl,_,rfl,_,rfl,b,_,_,_,rfl,rfl,SqT.of d,rfl,_,_,rfl,rfl,_,rfl,a,_,_,_,rfl,rfl,SqT.of c,rfl,_,_,rfl,rfl,_,_,rfl,rfl,⟨by decide,by decide⟩,yS2,λ t j=>k t _ (kC j _) ?_⟩;rw[kA];have e:(r.1-l.1+r.2+l.2) / 2=l.2+(r.1-l.1+r.2-l.2) / 2:=by omega
 show some (HO.tup [V.int _,V.int ((r.1-l.1+r.2+l.2) / 2)])=_;rw[e]
 rfl
end
section
theorem kHR{G:List Nat}{b:Int}{p:Nat}:∀{S:List (Nat×Int×Int)},p∈S.map (·.1)->atS (mvS S G b) p=if p∈G then((atS S p).1+b,(atS S p).2) else atS S p
 | [],h=>by cases h
 | s::S,h=>by
  have g:mvS (s::S) G b=(if s.1∈G then(s.1,s.2.1+b,s.2.2) else s)::mvS S G b:=rfl;have f:(if s.1∈G then(s.1,s.2.1+b,s.2.2) else s).1=s.1:=by split<;>rfl
  by_cases c:s.1=p
  ·have d:atS (s::S) p=s.2:=by unfold atS;rw[ph (by simpa using c)];rfl
   have a:atS (mvS (s::S) G b) p=(if s.1∈G then(s.1,s.2.1+b,s.2.2) else s).2:=by
    rw[g];unfold atS;rw[ph (by rw[f];simpa using c)]
    rfl
   rw[d,a,c]
   split<;>rfl
  ·have i:p∈S.map (·.1):=by
    rcases eK.mp h with q | q
    ·exact absurd q.symm c
    ·exact q
   have d:atS (s::S) p=atS S p:=by unfold atS;rw[qa (by simpa using c)]
   have a:atS (mvS (s::S) G b) p=atS (mvS S G b) p:=by
    rw[g];unfold atS;rw[qa (by rw[f];simpa using c)]
   rw[d,a];exact kHR i
theorem kHS{p:Nat}{L:List (Nat×Int×Int)}:∀{S:List (Nat×Int×Int)},p∈S.map (·.1)->atS (S++L) p=atS S p
 | [],h=>by cases h
 | s::S,h=>by
  by_cases c:s.1=p
  ·unfold atS
   rw[kj,ph (by simpa using c),ph (by simpa using c)]
  ·have a:p∈S.map (·.1):=by
    rcases eK.mp h with q | q
    ·exact absurd q.symm c
    ·exact q
   have:=kHS (L:=L) a;unfold atS at this ⊢;rw[kj,qa (by simpa using c),qa (by simpa using c)];exact this
theorem uZ:∀{S:List (Nat×Int×Int)}{j:Nat}{s:Nat×Int×Int},(S.map (·.1)).Nodup->S[j]?=some s->atS S s.1=s.2
 | [],j,s,_,h=>by simp at h
 | s0::S,0,s,_,h=>by
  cases h
  unfold atS;rw[ph (by simp)]
  rfl
 | s0::S,j+1,s,nd,h=>by
  have h:S[j]?=some s:=by simpa using h
  rw[gm,gj]at nd;have a:¬ s0.1=s.1:=λ z=>nd.1 (z ▸ iJ.mpr ⟨s,cv h,rfl⟩);have:=uZ nd.2 h;unfold atS at this ⊢;rw[qa (by simpa using a)];exact this
def Xof(a:List Nat)(i:Nat)(S:List (Nat×Int×Int)):Nat->Option (Int×Int):=λ p=>if p∈a.take (i+2) then some (atS S p) else none
def uR{a:List Nat}{i:Nat}{S:List (Nat×Int×Int)}{p:Nat}(h:p∈a.take (i+2)):Xof a i S p=some (atS S p):=by unfold Xof;rw[if_pos h]
def kFZ{a:List Nat}{i:Nat}{S:List (Nat×Int×Int)}{G:List Nat}{b:Int}(e:S.map (·.1)=a.take (i+2)):shf (Xof a i S) G b=Xof a i (mvS S G b):=by
 funext p
 unfold shf Xof;by_cases c:p∈a.take (i+2)
 ·rw[if_pos c,if_pos c,kHR (by rw[e];exact c)]
  split<;>rfl
 ·rw[if_neg c,if_neg c]
  split<;>rfl
def kVM(b:List Nat)(d a:List (List Nat)):Prop:=a[0]?=some (b.take 2)/\∀ i F T c,d[i]?=some F->a[i]?=some T->a[i+1]?=some c->(∃ B C,T=B++F++C)/\c=poF T F (b.getD (i+2) 0)
def kQD{W:Rows}{d:List Nat}{a b c:Nat}{G v:List (List Nat)}(T:Tr W)(o:Tri.E W a b)(H:d.Perm (cq W.length))(l3:3<=W.length)(h:zG W a b c d=some (G,v)):kVM d G v:=by
 have S:=T.nb;have lm:d.length=W.length:=by rw[H.length_eq,gv]
 have u:d.Nodup:=H.nodup_iff.mpr sh;unfold zG at h
 split at h
 case isFalse=>cases h
 rename_i ends
 have J:d.take 2=[a,b]:=by
  obtain⟨s,n,_⟩:=ends
  match d,s,n with
  | x::y::r,s,n =>
   cases s
   cases n
   rfl
 have h0:Top W (d.take 2) (d.take 2):=by rw[J];exact cW S o
 refine⟨?_,λ i F I O Q N p=>?_⟩
 ·have:∀{i:Nat}{fs m:List (List Nat)},goF W d i=some (fs,m)->m[0]?=some (d.take 2):=by
   intro i
   induction i with
   | zero =>
    intro fs m q;unfold goF at q;have q:=bg q;injection q with n g
    rw[<-g]
    rfl
   | succ i ih =>
    intro fs m q;obtain⟨f2,t2,g⟩:=uY (i:=i) (j:=1) q;obtain⟨L,Z,q3,U⟩:=wZ g q;have:=(zR g).2;rw[U,bf (by omega)];exact ih g
  exact this h
 ·obtain⟨Y,B,f,M,l,C,A,D,X⟩:=mX S.sym u h0 (by omega) h i F I O Q N p
  refine⟨⟨B,C,by rw[A];exact D⟩,?_⟩;rw[A,X];exact(bO D Y.nd).symm
structure TrL(H:Hp)(t:au)(ta:List au)(S:List (Nat×Int×Int)):Prop where
 top:H t=some (.lst (ta.map V.ref))
 len:ta.length=S.length
 row:∀(i:Nat)(a:au)(s:Nat×Int×Int),ta[i]?=some a->S[i]?=some s->H a=some (.tup [vn s.1,.int s.2.1,.int s.2.2])
def TrL.but{H H':Hp}{t x:au}{f:List au}{S:List (Nat×Int×Int)}(h:TrL H t f S)(g:∀ b o,b≠x->H b=some o->H' b=some o)(nx:t≠x)(j:∀ xs,H x≠some (.tup xs)):TrL H' t f S:=⟨g _ _ nx h.top,h.len,λ i a s d c=>g _ _ (λ z=>j _ (z ▸ h.row i a s d c)) (h.row i a s d c)⟩
def TrL.kept{H H':Hp}{t:au}{b:List au}{S:List (Nat×Int×Int)}(h:TrL H t b S)(g:Same H H'):TrL H' t b S:=⟨g _ _ h.top,h.len,λ i a s d c=>g _ _ (h.row i a s d c)⟩
structure WkI(H0 H:Hp)(pd hu rg fo:au)(us:List au)(ms:List Nat)(Fs Ts:List (List Nat))(i:Nat):Prop where
 same:Same H0 H
 pts:PtN H pd (Xof ms i (gF ms Fs Ts i).1) (i+2)
 hung:HuN H hu (xQ ms i (gF ms Fs Ts i).2) (i+2)
 ring:H rg=some (.lst ((Ts.getD i []).map vn))
 told:H fo=some (.lst (us.map V.ref))
 len:us.length=i+1
 rows:∀ j u,us[j]?=some u->∃ ta,TrL H u ta (gF ms Fs Ts j).1
 out:fo∉us
theorem WkI.kept{h H H':Hp}{d a l f:au}{n:List au}{b:List Nat}{c m:List (List Nat)}{i:Nat}(J:WkI h H d a l f n b c m i)(g:Same H H'):WkI h H' d a l f n b c m i :=
 ⟨J.same.trans g,J.pts.kept g,J.hung.kept g,g _ _ J.ring,g _ _ J.told,J.len,λ j u e=>by obtain⟨o,q⟩:=J.rows j u e;exact⟨o,q.kept g⟩,J.out⟩
inductive kAQ(vs:List V)(H:Hp)(Q:VK)(Y:XK):Prop
 | mk:∀(o rl:au)(ra:List au)(ms:List Nat)(Fs Ts:List (List Nat)),(vs=[.ref o,.ref rl])->(H o=some (.tup (ms.map vn)))->(RnAt H rl ra Fs)->(GOk ms Fs Ts)->(kVM ms Fs Ts)->(∀(t:au)(us:List au)(H':Hp),Same H H'->H' t=some (.lst (us.map V.ref))->us.length=Fs.length+1->(∀ j u,us[j]?=some u->∃ ta,TrL H' u ta (gF ms Fs Ts j).1)->Q (.ref t) H')->kAQ vs H Q Y
def nZ(B:Fx):Hs "_law_walked" ["_law_order","_law_runs"] 3 (kAQ):=by
 refine qK B.X B.d40 nW λ f i2 A hc s0 H vs Q E nN hr h=>?_;obtain⟨o,rl,ra,g,Fs,T,rfl,ho,RN,ok,fy,k⟩:=h
 refine⟨_,(kE (pst 2 nN (kGN (bN (pix kZ (pv 0) kJ) (qG (p2 kJ kJ)) (bN (pix kZ (pv 0) kJ) (qG (p2 kJ kJ)) kGL)) rfl rfl (λ z=>nomatch z) (by decide)))
   (kE (pst 3 nN (kGN (bN (pix kZ (pv 0) kJ) (qU (p1 (pix kZ (pv 0) kJ))) (bN (pix kZ (pv 0) kJ) (qU (p1 (pix kZ (pv 0) kJ))) kGL)) rfl rfl (λ z=>nomatch z) (by decide)))
   (kE (pst 4 nN (qU (p2 (pix kZ (pv 0) kJ) (pix kZ (pv 0) kJ))))
   (kE (pst 5 nN (qU (p1 (xG (Nc:=["_law_p"]) (js:=[none]) rfl rfl (jP (pv 4)) (CS.of rfl rfl) rfl (λ C bt bv fp c3=>(pgc 0)) (λ C bt bv fp c3 D L=>(qT (jL (qG (kI (pv 0) (kI kJ (kI kJ kY)))))))))))
   (kE (uJ (xC rfl (B.z B.y3) (p1 (kR kP rfl (B.z B.y0) eV (p1 (pv 1))))) (pgn 6 nN) (kE (kSE (i:=7) (j:=8) rfl nN rfl rfl (by decide) rfl rfl (p2 (pix kZ (pv 0) (kX qY (pv 6) kJ)) (pix qB (pv 1) (pv 6))) rfl)
   (kE (pst 9 nN (jG jb jc yN (pv 4) (p1 (pix kZ (pv 8) (wU yQ kJ)))))
   (kE (qM (pf (bQ B) hr (kI (pv 3) (kI (pv 2) (kI (qD yJ (pv 8) (qC kJ) (qC (wU yQ kJ))) (kI kJ kY))))))
   (kE (qM (pf (bQ B) hr (kI (pv 3) (kI (pv 2) (kI (qD xE (pv 4) (qC (pv 9)) jA) (kI kJ kY))))))
   (kE (uV (jS hr) (pv 2) (pv 7) (pf (kBQ B) hr (p2 (jT (jS hr) (pv 2) (pix kZ (pv 8) kJ) (λ _ _=>rfl)) (jT (jS hr) (pv 2) (pix kZ (pv 8) (wU yQ kJ)) (λ _ _=>rfl)))) rfl)
   (kE (uV (jS hr) (pv 3) (pv 7) (qU (p1 (pv 7))) rfl)
   (kE (uJ (yR (qD yJ (pv 8) (qC kJ) (qC (wU yQ kJ)))) (pgn 10 nN) (kL (qM (jG PySem.F.slot_list_extend PySem.F.type_list_extend kJF (jT (jS hr) (pv 3) (pv 7) (λ _ _=>rfl)) (p1 (jT (jS hr) (pv 3) (pv 10) (λ _ _=>rfl)))))))
   (kE (pst 4 nN (kX vK (kX vK (qD xE (pv 4) jA (qC (kX qY (jG jb jc yN (pv 4) (p1 (pix kZ (pv 8) kJ))) kJ))) (qU (p1 (pv 7)))) (qD xE (pv 4) (qC (pv 9)) jA)))
   (kL (qM (jG iR iS jW (pv 5) (p1 (xG (Nc:=["_law_p","_law_points"]) (js:=[none,some 2]) rfl rfl (yR (qD yJ (pv 0) jA (qC (kX qY (pv 6) kJ)))) (CS.of rfl rfl) rfl (λ C bt bv fp c3=>(pgc 0)) (λ C bt bv fp c3 D L=>(qT (jL (kX (show OpR _ _ (kME K) from gJ) (qG (p1 (pv 0))) (jT (jS hr) (pv 1) (pv 0) (λ _ _=>rfl))))))))))))))))))))
   (kL (kU (pv 5)))))))),?_⟩
 try dsimp only[qX]
 obtain⟨a,b,r,cb⟩ : ∃ a b r,g=a::b::r:=by
  have:=ok.lm
  match g,this with
  | a::b::r,_=>exact⟨a,b,r,rfl⟩
 have a0:atI (g.map vn) 0=some (vn a):=by rw[cb];exact jB (j:=0) rfl
 have a1:atI (g.map vn) 1=some (vn b):=by rw[cb];exact jB (j:=1) rfl
 have ab:a≠b:=λ z=>by
  have:=ok.nd;rw[cb,z,gj]at this;exact this.1 (by simp)
 have b4:g.take 2=[a,b]:=by rw[cb];rfl
 refine λ pd bo=>?_;have q1:=kC bo (.dK []);have ey:=kA (H:=H) (a:=pd) (o:=.dK []);generalize upd H pd (.dK [])=G1 at *;refine⟨_,rfl,o,_,_,_,rfl,rfl,SqT.of (q1 _ _ ho),a0,yS2,λ t1 n1=>?_⟩;have q2:=kC n1 (.tup [.int 0,.int 0]);have b1:=kA (H:=G1) (a:=t1) (o:=.tup [.int 0,.int 0]);have co:=q2 _ _ ey;have af:=q1.trans q2;generalize upd G1 t1 (.tup [.int 0,.int 0])=G2 at *;refine⟨_,rfl,o,_,_,_,rfl,rfl,SqT.of (af _ _ ho),a1,yS2,λ t2 n2=>?_⟩;have q3:=kC n2 (.tup [.int 0,.int 0]);have b7:=kA (H:=G2) (a:=t2) (o:=.tup [.int 0,.int 0]);have c8:=q3 _ _ co;have da:=q3 _ _ b1;have c7:=af.trans q3;generalize upd G2 t2 (.tup [.int 0,.int 0])=G3 at *;refine⟨c8,[(cm (a:Int),.ref t1),(cm (b:Int),.ref t2)],rfl,(by show 2<=15;decide),?_⟩
 have hP:PtN (upd G3 pd (.dK (yS [] [(cm (a:Int),.ref t1),(cm (b:Int),.ref t2)]))) pd (Xof g 0 (gF g Fs T 0).1) 2:=by
  have st:∀(x:au)(G:List V),G3 x=some (.tup G)->upd G3 pd (.dK (yS [] [(cm (a:Int),.ref t1),(cm (b:Int),.ref t2)])) x=some (.tup G):=λ x G e'=>by
   rw[kM λ z=>by rw[z,c8]at e';cases e'];exact e'
  refine⟨_,kA,?_,λ p s e=>?_⟩
  ·have l1:=vG (qS [] (cm (a:Int)) (.ref t1)) (cm (b:Int)) (.ref t2)
   have l2:=vG [] (cm (a:Int)) (V.ref t1);have l3:([]:List (Key×V)).length=0:=rfl;show(qS (qS [] (cm (a:Int)) (.ref t1)) (cm (b:Int)) (.ref t2)).length<=2;omega
  ·unfold Xof at e
   rw[b4]at e;by_cases c:p∈[a,b]
   ·rw[if_pos c]at e
    have ez:s=(0,0):=by
     rw[<-bg e];have:(gF g Fs T 0).1=[(a,0,0),(b,0,0)]:=by show(g.take 2).map _=_;rw[b4];rfl
     rw[this];rcases eK.mp c with rfl | c
     ·exact uZ (j:=0) (s:=(p,0,0)) (by simpa using ab) rfl
     ·rw[bu.mp c]
      exact uZ (j:=1) (s:=(b,0,0)) (by simpa using ab) rfl
    subst ez;show ∃ t,jJ (qS (qS [] (cm (a:Int)) (.ref t1)) (cm (b:Int)) (.ref t2)) (cm (p:Int))=_/\_;rw[xS,xS];rcases eK.mp c with rfl | c
    ·rw[if_neg (λ q=>ab (by have:=rj q;omega)),if_pos rfl]
     exact⟨t1,rfl,st _ _ da⟩
    ·rw[if_pos (by rw[bu.mp c])]
     exact⟨t2,rfl,st _ _ b7⟩
   ·rw[if_neg c]at e
    cases e
 have ag:Same H (upd G3 pd (.dK (yS [] [(cm (a:Int),.ref t1),(cm (b:Int),.ref t2)]))):=qF bo c7;generalize upd G3 pd (.dK (yS [] [(cm (a:Int),.ref t1),(cm (b:Int),.ref t2)]))=G4 at *
 clear ey co c8 b1 b7 da q1 q2 q3 af c7
 refine λ Z c1=>?_;have q1:=kC c1 (.dK []);have fl:=kA (H:=G4) (a:=Z) (o:=.dK []);generalize upd G4 Z (.dK [])=G5 at *;refine⟨_,rfl,o,_,_,_,rfl,rfl,SqT.of (q1 _ _ (ag _ _ ho)),a0,_,rfl,o,_,_,_,rfl,rfl,SqT.of (q1 _ _ (ag _ _ ho)),a0,yS1,λ l1 m1=>?_⟩;have q2:=kC m1 (.lst [vn a]);have en:=kA (H:=G5) (a:=l1) (o:=.lst [vn a]);have cp:=q2 _ _ fl;have af:=q1.trans q2;generalize upd G5 l1 (.lst [vn a])=G6 at *;refine⟨_,rfl,o,_,_,_,rfl,rfl,SqT.of (af _ _ (ag _ _ ho)),a1,_,rfl,o,_,_,_,rfl,rfl,SqT.of (af _ _ (ag _ _ ho)),a1,yS1,λ l2 m2=>?_⟩;have q3:=kC m2 (.lst [vn b]);have f1:=kA (H:=G6) (a:=l2) (o:=.lst [vn b]);have c9:=q3 _ _ cp;have d5:=q3 _ _ en;have c7:=af.trans q3;generalize upd G6 l2 (.lst [vn b])=G7 at *;refine⟨c9,[(cm (a:Int),.ref l1),(cm (b:Int),.ref l2)],rfl,(by show 2<=15;decide),?_⟩
 have hU:HuN (upd G7 Z (.dK (yS [] [(cm (a:Int),.ref l1),(cm (b:Int),.ref l2)]))) Z (xQ g 0 (gF g Fs T 0).2) 2:=by
  have st:∀(x:au)(G:List V),G7 x=some (.lst G)->upd G7 Z (.dK (yS [] [(cm (a:Int),.ref l1),(cm (b:Int),.ref l2)])) x=some (.lst G):=λ x G e'=>by
   rw[kM λ z=>by rw[z,c9]at e';cases e'];exact e'
  refine⟨_,kA,?_,λ p l e=>?_⟩
  ·have i4:=vG (qS [] (cm (a:Int)) (.ref l1)) (cm (b:Int)) (.ref l2)
   have gx:=vG [] (cm (a:Int)) (V.ref l1);have l3:([]:List (Key×V)).length=0:=rfl;show(qS (qS [] (cm (a:Int)) (.ref l1)) (cm (b:Int)) (.ref l2)).length<=2;omega
  ·unfold xQ at e
   rw[b4]at e;by_cases c:p∈[a,b]
   ·rw[if_pos c]at e
    have ez:l=[p]:=(bg e).symm;subst ez;show ∃ t,jJ (qS (qS [] (cm (a:Int)) (.ref l1)) (cm (b:Int)) (.ref l2)) (cm (p:Int))=_/\_;rw[xS,xS];rcases eK.mp c with rfl | c
    ·rw[if_neg (λ q=>ab (by have:=rj q;omega)),if_pos rfl]
     exact⟨l1,rfl,st _ _ d5⟩
    ·rw[if_pos (by rw[bu.mp c])]
     rw[bu.mp c];exact⟨l2,rfl,st _ _ f1⟩
   ·rw[if_neg c]at e
    cases e
 have e5:Same G4 (upd G7 Z (.dK (yS [] [(cm (a:Int),.ref l1),(cm (b:Int),.ref l2)]))):=qF c1 c7;generalize upd G7 Z (.dK (yS [] [(cm (a:Int),.ref l1),(cm (b:Int),.ref l2)]))=G8 at *;have ff:=hP.kept e5;have q8:=ag.trans e5;have a4:Z≠pd:=λ z=>by obtain⟨kv,e,_⟩:=hP;rw[<-z,c1]at e;cases e
 have hd:H Z=none:=ag.free c1;clear fl cp c9 en f1 d5 q1 q2 q3 af c7 ag e5 hP;refine⟨_,rfl,o,_,_,_,rfl,rfl,SqT.of (q8 _ _ ho),a0,_,rfl,o,_,_,_,rfl,rfl,SqT.of (q8 _ _ ho),a1,yS2,λ rg et=>?_⟩;have q9:=kC et (.lst [vn a,vn b]);have a7:=kA (H:=G8) (a:=rg) (o:=.lst [vn a,vn b]);have eu:=ff.kept q9;have g4:=hU.kept q9;have ch:=q8.trans q9;generalize upd G8 rg (.lst [vn a,vn b])=G9 at *;clear ff hU q8 q9;refine⟨_,rfl,rg,rfl,⟨_,SqL.of a7⟩,λ D nD=>?_⟩;have i1:H D=none:=ch.free nD;have h4:(gF g Fs T 0).1=[a,b].map λ p=>(p,(0:Int),(0:Int)):=by show(g.take 2).map _=_;rw[b4]
 refine jI (xs:=[a,b].map vn) (λ i σ H3=>∃(x0:Option V)(N:List au),σ=[x0]/\Same G9 H3/\TrL H3 D N (([a,b].take i).map λ p=>(p,(0:Int),(0:Int)))) ⟨none,[],rfl,kC nD _,⟨kA,rfl,λ i a s e=>by simp at e⟩⟩ ?_ ?_ ?_
 ·rintro i σ H3 _ ⟨x0,N,rfl,g3,_⟩
  exact SqL.of (g3 _ _ a7)
 ·rintro i v σ H3 hv ⟨x0,N,rfl,g3,hD⟩
  rw[az]at hv;obtain⟨p,ep,rfl⟩:=bh.mp hv;have lt:=hD.len;have hi:=(ak.mp ep).1;rw[aj,cx]at lt;have gx:[a,b].length=2:=rfl;refine⟨_,rfl,yS3,λ q nq=>?_⟩;have gq:=kC nq (.tup [vn p,.int 0,.int 0]);refine⟨_,gq _ _ hD.top,(by rw[aj];exact kQ (by omega)),?_⟩
  have st:∀ b G,upd H3 q (.tup [vn p,.int 0,.int 0]) b=some (.tup G)->upd (upd H3 q (.tup [vn p,.int 0,.int 0])) D (.lst (N.map V.ref++[.ref q])) b=some (.tup G):=λ b G e=>by
   rw[kM λ z=>by rw[z,gq _ _ hD.top]at e;cases e];exact e
  have tk:([a,b].take (i+1)).map (λ p=>(p,(0:Int),(0:Int)))=([a,b].take i).map (λ p=>(p,(0:Int),(0:Int)))++[(p,0,0)]:=by rw[iL,ep,cy];rfl
  refine⟨_,N++[q],rfl,qF nD (g3.trans gq),?_⟩;rw[tk];refine⟨by rw[cy];exact kA,by rw[bj,bj,hD.len];rfl,λ i' c s e1 e2=>?_⟩;rcases snoc e1 with⟨cc,e1⟩ | ⟨ei,e1⟩
  ·rw[bf (by rw[<-hD.len];exact cc)]at e2
   exact st _ _ (gq _ _ (hD.row i' c s e1 e2))
  ·rw[ei,hD.len,cu]at e2
   cases e1
   cases e2
   exact st _ _ kA
 rintro σ H3 ⟨x0,N,rfl,g3,hD⟩;have eT:([a,b].take ([a,b].map vn).length).map (λ p=>(p,(0:Int),(0:Int)))=(gF g Fs T 0).1:=by rw[h4];rfl
 rw[eT]at hD;refine⟨yS1,λ fo ce=>?_⟩;have q4:=kC ce (.lst [V.ref D]);have b2:=g3.trans q4;have T0:T.getD 0 []=[a,b]:=by rw[av,fy.1,b4];rfl
 have J0:WkI H (upd H3 fo (.lst [V.ref D])) pd Z rg fo [D] g Fs T 0:=by
  refine⟨ch.trans b2,eu.kept b2,g4.kept b2,by rw[T0];exact b2 _ _ a7,kA,rfl,λ j u e=>?_,λ z=>?_⟩
  ·cases j with
   | zero =>
    cases e
    exact⟨N,hD.kept q4⟩
   | succ j=>simp at e
  ·have:=hD.top
   rw[<-bu.mp z,ce]at this;cases this
 have go:H fo=none:=(ch.trans g3).free ce;generalize upd H3 fo (.lst [V.ref D])=H5 at *;clear hD b2 q4 g3 eu g4 ch a7 et nD ce c1;refine⟨_,rfl,rl,_,rfl,.inl (SqL.of (J0.same _ _ RN.top)),_,rfl,(by rw[aj,RN.len];have:=ok.lm;have:=ok.le;omega),(by rw[aj,RN.len];have:=ok.lm;have:=ok.le;omega),?_⟩;refine yG (n:=((((ra.map V.ref).length:Nat):Int)).toNat) (λ i σ H6=>∃(rg:au)(us:List au)(x6 x7 x8 x9 e7:Option V),σ=[some (.ref o),some (.ref rl),some (.ref pd),some (.ref Z),some (.ref rg),some (.ref fo),x6,x7,x8,x9,e7]/\WkI H H6 pd Z rg fo us g Fs T i) ⟨rg,[D],_,_,_,_,_,rfl,J0⟩ ?_ ?_
 ·rintro i σ H6 hi ⟨rg,us,x6,x7,x8,x9,e7,rfl,J⟩
  rw[aj,RN.len,iU]at hi;have iF:i<Fs.length:=hi;have iT:i<T.length:=by rw[ok.lt];omega
  have ft:i+1<T.length:=by rw[ok.lt];omega
  have eF:=ae iF;have eT:=ae iT;have hl:=ok.le;have hn:=ok.lm;have fx:i<ra.length:=by rw[RN.len];exact iF
  have am:=RN.row i _ _ (ae fx) eF;have h5:atI (ra.map V.ref) (0+(i:Int))=some (.ref ra[i]):=by rw[wz];exact jB (by rw[az,ae fx];rfl)
  generalize ra[i]=fi at *;have gi:atI (g.map vn) (0+(i:Int)+2)=some (vn (g.getD (i+2) 0)):=by rw[show(0+(i:Int)+2)=((i+2:Nat):Int) by omega];exact kHQ (by omega)
  have ev:g[i+2]?=some (g.getD (i+2) 0):=xM (by omega);obtain⟨U,M,m,g0,ga,FT,TM,dm⟩:=ok.step i _ _ eF eT;obtain⟨⟨B,C,ca⟩,gs⟩:=fy.2 i _ _ _ eF eT (ae ft);have eh:T.getD (i+1) []=poF T[i] Fs[i] (g.getD (i+2) 0):=by rw[av,ae ft,gs];rfl
  have er:T.getD i []=T[i]:=by rw[av,eT];rfl
  have es:g.getD (i+2) 0∉g.take (i+2):=uW ok.nd (be _) (by omega)
  have gd:gF g Fs T (i+1)=gst (gF g Fs T i).1 (gF g Fs T i).2 (g.getD (i+2) 0) (U::M++[m]) T[i]:=by
   show gst _ _ (g.getD (i+2) 0) (Fs.getD i []) (T.getD i [])=_;rw[av (l:=Fs),av (l:=T),eF,eT,yp,yp,g0]
  have I:=ok.inv i (by omega);have I':=ok.inv (i+1) (by omega);have fw:=I.nd;have d7:=I.sub;rw[er]at fw d7;have ef:g.take (i+1+2)=g.take (i+2)++[g.getD (i+2) 0]:=by rw[iL,ev];rfl
  rw[g0]at am FT ga ca eh;have hT:=J.ring;rw[er]at hT;have eb:=J.pts;have b3:=J.hung;generalize T[i]=O at *;generalize hS:(gF g Fs T i).1=S at *;generalize hV:(gF g Fs T i).2=V at *;generalize hv:g.getD (i+2) 0=v at *;have fT:=FT U (by simp);have lT:=FT m (by simp);have MT:∀ p∈M,p∈g.take (i+2):=λ p hp=>TM p (FT p (by simp[hp]));have cs:atI ((U::M++[m]).map vn) 0=some (vn U):=jB (j:=0) rfl;have cz:atI ((U::M++[m]).map vn) (-1)=some (vn m):=by rw[cy];exact yB _ _
  have il:=fq lT;have hw:=fq fT
  have hk:O.length<=42:=by
   have:=eO dm TM;rw[cx]at this;omega
  have d4:(B.flatMap V++(V U++(M.flatMap V++(V m++C.flatMap V)))).Nodup:=by
   have:=fw;rw[ca]at this;simpa[kb,xu,dh] using this
  have n1:=(dc.mp (dc.mp d4).2.1).2.1;have gg:=(dc.mp n1).1;have gl:=(dc.mp n1).2.1
  have dT:O.drop (O.idxOf m)=m::C:=by
   have nl:m∉B++(U::M):=λ z=>by
    rw[ca,show B++(U::M++[m])++C=(B++(U::M))++m::C by simp]at dm;exact(dc.mp dm).2.2 m z m (by simp) rfl
   have e1:O=(B++(U::M))++m::C:=by rw[ca];simp
   rw[e1,xk,if_neg nl,DB,CQ,Ap rfl]
  have cl:∀ p∈O,∀ q∈V p,q∈g.take (i+2):=λ p hp q hq=>d7 q (AR.mpr ⟨p,hp,hq⟩);have db:=I.fst
  clear n1 d4 hi
  refine⟨_,rfl,_,rfl,_,_,rfl,rfl,o,_,_,_,rfl,rfl,SqT.of (J.same _ _ ho),gi,_,rfl,_,rfl,rl,_,_,_,rfl,rfl,SqL.of (J.same _ _ RN.top),h5,_,_,rfl,?_⟩;refine⟨_,rfl,.inl ⟨rfl,_,SqL.of hT⟩,_,rfl,_,rfl,fi,_,_,_,rfl,rfl,SqT.of (J.same _ _ am),cz,rg,O.map ci,m,O.idxOf m,rfl,rfl,(by rw[hT,xD]),qO lT,?_⟩;refine⟨_,rfl,_,rfl,_,rfl,1,rfl,_,rfl,_,rfl,fi,_,rfl,J.same _ _ am,λ q1 Ha gA e9=>?_⟩;rw[tY]at e9;have gA:Same H6 Ha:=gA;have JA:=J.kept gA;have an:=b3.kept gA;have d2:=eb.kept gA;have cr:=wJ (V:=V) MT
  refine⟨Z,pd,q1,M,_,_,i+2,1,rfl,.inr e9,an,d2,a4,(by omega),(λ p hp=>by rw[qW (MT p hp)];rfl),(λ p hp q hq=>by
   rw[qW (MT p hp)]at hq;rw[uR (cl p (FT p (by simp[hp])) q hq)]
   rfl),(by rw[cr];exact gg),λ Hb kB bx=>?_⟩
  rw[cr,kFZ db]at bx;obtain⟨hz,dg,_⟩:=d2;have fm:∀ G,Ha pd≠some (.tup G):=λ G e=>by rw[dg]at e;cases e
  have c6:∀ G,Ha pd≠some (.lst G):=λ G e=>by rw[dg]at e;cases e
  have sB:Same H Hb:=xK JA.same kB bo;have du:=gA _ _ hT;have dy:=kB _ _ (λ z=>c6 _ (z ▸ du)) du;have tB:=kB _ _ (λ z=>c6 _ (z ▸ JA.told)) JA.told
  have rB:∀ j u,us[j]?=some u->∃ N,TrL Hb u N (gF g Fs T j).1:=λ j u e=>by
   obtain⟨N,q⟩:=JA.rows j u e;exact⟨N,q.but kB (λ z=>c6 _ (z ▸ q.top)) fm⟩
  have bn:=an.but kB a4 (λ l=>c6 _);have Jl:=J.len;have Jo:=J.out;clear JA an fm c6 kB dg du J eb b3 gA hT e9;refine⟨_,rfl,_,rfl,_,rfl,_,rfl,_,rfl,rg,_,rfl,SqL.of dy,λ q2 n2=>?_⟩;rw[xZ _ (by rw[aj];omega),<-yj,dT];have gC:=kC n2 (.lst ((m::C).map vn));have f2:=kA (H:=Hb) (a:=q2) (o:=.lst ((m::C).map vn));have sC:=sB.trans gC;have dv:=gC _ _ dy;have tC:=gC _ _ tB
  have rC:∀ j u,us[j]?=some u->∃ N,TrL _ u N (gF g Fs T j).1:=λ j u e=>by
   obtain⟨N,q⟩:=rB j u e;exact⟨N,q.kept gC⟩
  have ah:=bn.kept gC;have ct:=bx.kept gC;generalize upd Hb q2 (.lst ((m::C).map vn))=Hc at *;clear bn bx rB tB dy sB gC
  have CT:∀ p∈m::C,p∈O:=λ p hp=>by
   rw[<-dT]at hp;exact Aj hp
  have CM:∀ p∈m::C,p∈g.take (i+2):=λ p hp=>TM p (CT p hp);have dd:=wJ (V:=V) CM;have d9:(mvS S (M.flatMap V) 1).map (·.1)=g.take (i+2):=by rw[uX];exact db
  refine⟨Z,pd,q2,m::C,_,_,i+2,2,rfl,.inl f2,ah,ct,a4,(by omega),(λ p hp=>by rw[qW (CM p hp)];rfl),(λ p hp q hq=>by
   rw[qW (CM p hp)]at hq;rw[uR (cl p (CT p hp) q hq)]
   rfl),(by rw[dd];exact gl),λ Hd kD a3=>?_⟩
  rw[dd,kFZ d9]at a3;obtain⟨hs,ea,_⟩:=ct;have f3:∀ G,Hc pd≠some (.tup G):=λ G e=>by rw[ea]at e;cases e
  have br:∀ G,Hc pd≠some (.lst G):=λ G e=>by rw[ea]at e;cases e
  have sD:Same H Hd:=xK sC kD bo;have ee:=kD _ _ (λ z=>br _ (z ▸ dv)) dv;have tD:=kD _ _ (λ z=>br _ (z ▸ tC)) tC
  have rD:∀ j u,us[j]?=some u->∃ N,TrL Hd u N (gF g Fs T j).1:=λ j u e=>by
   obtain⟨N,q⟩:=rC j u e;exact⟨N,q.but kD (λ z=>br _ (z ▸ q.top)) f3⟩
  have c5:=ah.but kD a4 (λ l=>br _);clear ah rC tC dv sC f3 br kD ea f2 n2;have f4:(mvS (mvS S (M.flatMap V) 1) ((m::C).flatMap V) 2).map (·.1)=g.take (i+2):=by rw[uX];exact d9
  have dx:(gF g Fs T (i+1)).1=mvS (mvS S (M.flatMap V) 1) ((m::C).flatMap V) 2++[(v,(ovr (atS (mvS (mvS S (M.flatMap V) 1) ((m::C).flatMap V) 2) U) (atS (mvS (mvS S (M.flatMap V) 1) ((m::C).flatMap V) 2) m)).1,(ovr (atS (mvS (mvS S (M.flatMap V) 1) ((m::C).flatMap V) 2) U) (atS (mvS (mvS S (M.flatMap V) 1) ((m::C).flatMap V) 2) m)).2)]:=by
   rw[gd];unfold gst;have x1:(U::M++[m]).tail.dropLast=M:=by simp
   have x2:(U::M++[m]).getLastD 0=m:=by rw[jf,iq];rfl
   have x3:(U::M++[m]).headD 0=U:=rfl;rw[x1,x2,x3,dT]
  have h8:(gF g Fs T (i+1)).2=λ p=>if p=v then v::M.flatMap V else V p:=by
   rw[gd];unfold gst;have x1:(U::M++[m]).tail.dropLast=M:=by simp
   rw[x1]
  generalize mvS (mvS S (M.flatMap V) 1) ((m::C).flatMap V) 2=S2 at *;obtain⟨t1,f8,b1⟩:=a3.get (uR (S:=S2) (TM _ fT));obtain⟨t2,eg,b7⟩:=a3.get (uR (S:=S2) (TM _ lT));refine⟨_,rfl,_,rfl,fi,_,_,_,rfl,rfl,SqT.of (sD _ _ am),cs,pd,_,rfl,f8,_,rfl,_,rfl,_,rfl,fi,_,_,_,rfl,rfl,SqT.of (sD _ _ am),cz,pd,_,rfl,eg,t1,t2,atS S2 U,atS S2 m,rfl,b1,b7,λ t3 He gE h3=>?_⟩
  obtain⟨Hf,w1,w2,w3,_⟩:=(a3.kept gE).put (b:=t3) (v:=v) (s:=ovr (atS S2 U) (atS S2 m)) (X':=Xof g (i+1) (gF g Fs T (i+1)).1) (by omega) h3 (λ p s' e=>by
   unfold Xof at e ⊢;by_cases c:p=v
   ·left
    refine⟨c,?_⟩;rw[c,if_pos (by rw[ef];simp)]at e;rw[<-bg e,dx];have nn:((S2++[(v,(ovr (atS S2 U) (atS S2 m)).1,(ovr (atS S2 U) (atS S2 m)).2)]).map (·.1)).Nodup:=by rw[<-dx,I'.fst];exact ok.nd.sublist (um _ _)
    exact uZ (j:=S2.length) (s:=(v,(ovr (atS S2 U) (atS S2 m)).1,(ovr (atS S2 U) (atS S2 m)).2)) nn (by rw[cu])
   ·right
    refine⟨c,?_⟩
    split at e
    ·rename_i hm
     rw[ef]at hm
     have hm:p∈g.take (i+2):=by
      rcases ck.mp hm with q | q
      ·exact q
      ·exact absurd (bu.mp q) c
     rw[if_pos hm,<-e,dx,kHS (by rw[f4];exact hm)]
    ·cases e)
  refine⟨_,rfl,_,rfl,pd,_,rfl,w1,?_⟩;obtain⟨i3,e8,_⟩:=a3.kept gE;have fh:∀ G,He pd≠some (.tup G):=λ G e=>by rw[e8]at e;cases e
  have c4:∀ G,He pd≠some (.lst G):=λ G e=>by rw[e8]at e;cases e
  have sF:Same H Hf:=xK (sD.trans gE) w2 bo;have bw:=w2 _ _ (λ z=>c4 _ (z ▸ gE _ _ ee)) (gE _ _ ee);have tF:=w2 _ _ (λ z=>c4 _ (z ▸ gE _ _ tD)) (gE _ _ tD)
  have rF:∀ j u,us[j]?=some u->∃ N,TrL Hf u N (gF g Fs T j).1:=λ j u e=>by
   obtain⟨N,q⟩:=rD j u e;exact⟨N,(q.kept gE).but w2 (λ z=>c4 _ (z ▸ (q.kept gE).top)) fh⟩
  have e4:=(c5.kept gE).but w2 a4 (λ l=>c4 _)
  clear c5 rD tD ee sD fh c4 w2 e8 w1 a3 f8 eg b1 b7 h3 gE
  refine⟨_,rfl,yS1,λ Y a8=>?_⟩;have g1:=kC a8 (.lst [vn v]);have f5:=kA (H:=Hf) (a:=Y) (o:=.lst [vn v]);obtain⟨a2,ba,he,f9⟩:=e4
  have d6:∀ p l,xQ g i V p=some l->∃ b,jJ a2 (cm (p:Int))=some (.ref b)/\Hf b=some (.lst (l.map vn))/\b≠Y:=λ p l q=>by
   obtain⟨b,e1,e2⟩:=f9 p l q;exact⟨b,e1,e2,λ z=>by rw[z,a8]at e2;cases e2⟩
  have cn:=g1 _ _ ba;have pu:DPut (upd Hf Y (.lst [vn v])) Z (vn v) (.ref Y) (upd (upd Hf Y (.lst [vn v])) Z (.dK (qS a2 (cm (v:Int)) (.ref Y)))):=DPut.k (k:=cm (v:Int)) cn (kQ (by omega));refine⟨_,rfl,_,rfl,Z,_,rfl,pu,?_⟩;have kG:∀ b ob,b≠Z->Hf b=some ob->upd (upd Hf Y (.lst [vn v])) Z (.dK (qS a2 (cm (v:Int)) (.ref Y))) b=some ob:=λ b ob nb e=>by rw[kM nb];exact g1 _ _ e
  have dz:=kA (H:=upd Hf Y (.lst [vn v])) (a:=Z) (o:=.dK (qS a2 (cm (v:Int)) (.ref Y)));have b5:Y≠Z:=λ z=>by rw[z,ba]at a8;cases a8
  have a9:upd (upd Hf Y (.lst [vn v])) Z (.dK (qS a2 (cm (v:Int)) (.ref Y))) Y=some (.lst [vn v]):=by rw[kM b5];exact f5
  have bl:∀ G,Hf Z≠some (.tup G):=λ G e=>by rw[ba]at e;cases e
  have aa:∀ G,Hf Z≠some (.lst G):=λ G e=>by rw[ba]at e;cases e
  have sG:=xK sF kG hd;have c2:=w3.but kG (ox a4) bl;have el:=kG _ _ (λ z=>aa _ (z ▸ bw)) bw;have tG:=kG _ _ (λ z=>aa _ (z ▸ tF)) tF
  have rG:∀ j u,us[j]?=some u->∃ N,TrL _ u N (gF g Fs T j).1/\u≠Y:=λ j u e=>by
   obtain⟨N,q⟩:=rF j u e;exact⟨N,q.but kG (λ z=>aa _ (z ▸ q.top)) bl,λ z=>by have:=q.top;rw[z,a8]at this;cases this⟩
  have bm:∀ p l,xQ g i V p=some l->∃ b,jJ (qS a2 (cm (v:Int)) (.ref Y)) (cm (p:Int))=some (.ref b)/\upd (upd Hf Y (.lst [vn v])) Z (.dK (qS a2 (cm (v:Int)) (.ref Y))) b=some (.lst (l.map vn))/\b≠Y:=λ p l q=>by
   obtain⟨b,e1,e2,e3⟩:=d6 p l q
   have h2:p≠v:=λ z=>by
    unfold xQ at q;rw[z,if_neg es]at q;cases q
   refine⟨b,?_,kG _ _ (λ z=>aa _ (z ▸ e2)) e2,e3⟩;rw[xS,if_neg (λ q=>h2 (by have:=rj q;omega))];exact e1
  have bc:jJ (qS a2 (cm (v:Int)) (.ref Y)) (cm (v:Int))=some (.ref Y):=by rw[xS,if_pos rfl]
  have fr:(qS a2 (cm (v:Int)) (.ref Y)).length<=i+3:=by
   have:=vG a2 (cm (v:Int)) (.ref Y);omega
  have g2:rg≠Y:=λ z=>by rw[z,a8]at bw;cases bw
  have gb:fo≠Y:=λ z=>by rw[z,a8]at tF;cases tF
  have h9:H Y=none:=sF.free a8;generalize upd (upd Hf Y (.lst [vn v])) Z (.dK (qS a2 (cm (v:Int)) (.ref Y)))=Hg at *;generalize qS a2 (cm (v:Int)) (.ref Y)=gu at *;clear ba he f9 d6 cn pu kG bl aa sF w3 bw tF rF g1 f5;refine⟨_,rfl,1,rfl,_,rfl,_,rfl,fi,_,rfl,sG _ _ am,λ q3 Hh gH b0=>?_⟩;rw[tY]at b0;have gH:Same Hg Hh:=gH;have i0:M.length<=42:=by simp at ga;omega
  have VL:∀ p∈M,(V p).length<=42:=λ p hp=>by have:=I.few p (MT p hp);omega
  refine⟨q3,rfl,⟨_,SqT.of b0⟩,?_⟩;refine tS (xs:=M.map vn) (λ j σ H7=>∃(cd:Option L2.V),σ=[some (.ref o),some (.ref rl),some (.ref pd),some (.ref Z),some (.ref rg),some (.ref fo),some (.int (0+(i:Int))),some (vn v),some (.ref fi),some (.int ((O.idxOf m:Nat):Int)),cd]/\(∀ b ob,b≠Y->Hh b=some ob->H7 b=some ob)/\H7 Y=some (.lst ((v::(M.take j).flatMap V).map vn))) ⟨_,rfl,λ _ _ _ e=>e,gH _ _ a9⟩ ?_ ?_ ?_
  ·rintro j σ H7 _ ⟨cd,rfl,g7,h7⟩
   exact SqT.of (g7 _ _ (λ z=>by rw[z,gH _ _ a9]at b0;cases b0) b0)
  ·rintro j u σ H7 a6 ⟨cd,rfl,g7,h7⟩
   rw[az]at a6;obtain⟨p,ep,rfl⟩:=bh.mp a6;have pM:=cv ep;have hj:=(ak.mp ep).1;obtain⟨b,vb,hb,gz⟩:=bm p _ (qW (MT p pM));have fg:=g7 _ _ (ox b5) (gH _ _ dz);have h6:=g7 _ _ gz (gH _ _ hb)
   have hh:DGet H7 Z (vn v) (some (.ref Y)):=by
    have:=DGet.k (k:=cm (v:Int)) fg;rw[bc]at this;exact this
   have gr:DGet H7 Z (vn p) (some (.ref b)):=by
    have:=DGet.k (k:=cm (p:Int)) fg;rw[vb]at this;exact this
   have pl:((M.take j).flatMap V).length<=42*42:=by
    rw[yd];refine je (gQ (c:=42) λ x hx=>?_) (by rw[aj,cx];exact Az 42 (by omega));obtain⟨y,hy,rfl⟩:=iJ.mp hx;exact VL y (yf hy)
   have ll:=VL p pM;refine⟨_,rfl,_,rfl,Z,_,rfl,hh,.inl ⟨rfl,_,SqL.of h7⟩,_,rfl,_,rfl,Z,_,rfl,gr,Y,b,_,_,rfl,rfl,h7,h6,(by rw[aj,aj,iC];exact fv (xJ (by omega))),?_⟩;refine⟨_,rfl,λ c ob nc e=>by rw[kM nc];exact g7 c ob nc e,?_⟩;rw[kA,iL,ep,iw,kb,qw,<-cy]
   rfl
  rintro σ H7 ⟨cd,rfl,g7,h7⟩;rw[aj,gn]at h7;have kH:∀ b ob,b≠Y->Hg b=some ob->H7 b=some ob:=λ b ob nb e=>g7 b ob nb (gH _ _ e);have dk:∀ G,Hg Y≠some (.tup G):=λ G e=>by rw[a9]at e;cases e
  have s7:Same H H7:=xK sG kH h9;have d0:=c2.but kH (λ z=>by obtain⟨kv,e,_⟩:=c2;rw[z,a9]at e;cases e) dk;have b8:=kH _ _ g2 el;have t7:=kH _ _ gb tG
  have r7:∀ j u,us[j]?=some u->∃ N,TrL H7 u N (gF g Fs T j).1:=λ j u e=>by
   obtain⟨N,q,ne⟩:=rG j u e;exact⟨N,q.but kH ne dk⟩
  have b9:HuN H7 Z (xQ g (i+1) (gF g Fs T (i+1)).2) (i+1+2):=by
   refine⟨gu,kH _ _ (ox b5) dz,by omega,λ p l e=>?_⟩;rw[h8]at e;unfold xQ at e
   split at e
   ·rename_i hm
    have e:some (if p=v then v::M.flatMap V else V p)=some l:=e;by_cases c:p=v
    ·rw[if_pos c]at e
     cases e
     rw[c];exact⟨Y,bc,h7⟩
    ·rw[if_neg c]at e
     cases e
     rw[ef]at hm
     have hm:p∈g.take (i+2):=by
      rcases ck.mp hm with q | q
      ·exact q
      ·exact absurd (bu.mp q) c
     obtain⟨b,e1,e2,e3⟩:=bm p _ (qW hm);exact⟨b,e1,kH _ _ e3 e2⟩
   ·cases e
  clear rG bm bc fr c2 el tG sG g7 h7 kH dk dz a9 b0 gH
  refine⟨_,rfl,_,rfl,.inl ⟨rfl,_,SqL.of b8⟩,_,rfl,fi,_,_,_,rfl,rfl,SqT.of (s7 _ _ am),cs,rg,O.map ci,U,O.idxOf U,rfl,rfl,(by rw[b8,xD]),qO fT,_,_,rfl,rfl,_,rfl,rg,_,rfl,SqL.of b8,λ p1 m1=>?_⟩;rw[show(((O.idxOf U:Nat):Int)+1)=((O.idxOf U+1:Nat):Int) by omega,vQ _ (by rw[aj];omega),<-uz];have g5:=kC m1 (.lst ((O.take (O.idxOf U+1)).map vn));have fd:=kA (H:=H7) (a:=p1) (o:=.lst ((O.take (O.idxOf U+1)).map vn));generalize upd H7 p1 (.lst ((O.take (O.idxOf U+1)).map vn))=H8 at *;refine⟨_,rfl,yS1,λ p2 m2=>?_⟩;have g6:=kC m2 (.lst [vn v]);have ew:=kA (H:=H8) (a:=p2) (o:=.lst [vn v]);have d1:=g6 _ _ fd;generalize upd H8 p2 (.lst [vn v])=H9 at *;refine⟨p1,p2,_,_,rfl,rfl,d1,ew,(by simp only[aj,iC,tm,cx];exact fv (kQ (by omega))),λ p3 m3=>?_⟩;have g7:=kC m3 (.lst ((O.take (O.idxOf U+1)).map vn++[vn v]));have gc:=kA (H:=H9) (a:=p3) (o:=.lst ((O.take (O.idxOf U+1)).map vn++[vn v]));have ed:=g5.trans (g6.trans g7);generalize upd H9 p3 (.lst ((O.take (O.idxOf U+1)).map vn++[vn v]))=f7 at *;refine⟨_,rfl,_,rfl,_,rfl,rg,_,rfl,SqL.of (ed _ _ b8),λ p4 m4=>?_⟩;rw[xZ _ (by rw[aj];omega),<-yj];have g8:=kC m4 (.lst ((O.drop (O.idxOf m)).map vn));have fz:=kA (H:=f7) (a:=p4) (o:=.lst ((O.drop (O.idxOf m)).map vn));have d8:=g8 _ _ gc;generalize upd f7 p4 (.lst ((O.drop (O.idxOf m)).map vn))=fa at *;refine⟨p3,p4,_,_,rfl,rfl,d8,fz,(by simp only[aj,bj,iC,tm,cx,iN];exact fv (kQ (by omega))),λ p5 m5=>?_⟩;have g9:=kC m5 (.lst ((O.take (O.idxOf U+1)).map vn++[vn v]++(O.drop (O.idxOf m)).map vn))
  have eR:(O.take (O.idxOf U+1)).map vn++[vn v]++(O.drop (O.idxOf m)).map vn=(T.getD (i+1) []).map vn:=by
   rw[eh];unfold poF;have x2:(U::M++[m]).getLastD 0=m:=by rw[jf,iq];rfl
   have x3:(U::M++[m]).headD 0=U:=rfl;rw[x2,x3];simp
  have a7:=kA (H:=fa) (a:=p5) (o:=.lst ((O.take (O.idxOf U+1)).map vn++[vn v]++(O.drop (O.idxOf m)).map vn));rw[eR]at a7 g9 ⊢;have as:=ed.trans (g8.trans g9);have fn:=s7.trans as;have al:=d0.kept as;have ec:=as _ _ t7
  have ge:∀ j u,us[j]?=some u->∃ N,TrL _ u N (gF g Fs T j).1:=λ j u e=>by
   obtain⟨N,q⟩:=r7 j u e;exact⟨N,q.kept as⟩
  have aq:=b9.kept as;generalize upd fa p5 (.lst ((T.getD (i+1) []).map vn))=ex at *
  clear b9 r7 t7 d0 s7 as g9 g8 ed g7 g6 g5 fd d1 ew gc d8 fz b8
  refine⟨_,rfl,.inl ⟨rfl,_,SqL.of ec⟩,_,rfl,_,rfl,_,_,rfl,rfl,_,rfl,o,_,rfl,fn _ _ ho,λ s1 eq bi e0=>?_⟩;rw[show(0+(i:Int)+3)=((i+1+2:Nat):Int) by omega,vQ _ (by rw[aj];omega),<-uz]at e0;have bi:Same ex eq:=bi;have ap:=I'.fst;have nn:((gF g Fs T (i+1)).1.map (·.1)).Nodup:=by rw[ap];exact ok.nd.sublist (um _ _)
  refine⟨s1,rfl,⟨_,SqT.of e0⟩,λ D nD=>?_⟩;have dn:=al.kept bi;have fD:ex D=none:=bi.free nD;have tl:(g.take (i+1+2)).length=i+3:=by rw[cx];omega
  have gp:(gF g Fs T (i+1)).1.length=i+3:=by rw[<-tl,<-ap,aj]
  generalize ek:(gF g Fs T (i+1)).1=S' at *;refine xR (xs:=(g.take (i+1+2)).map vn) (λ j σ ac=>∃(x0:Option L2.V)(N:List au),σ=[x0,some (.ref pd)]/\Same eq ac/\TrL ac D N (S'.take j)) ⟨none,[],rfl,kC nD _,⟨kA,rfl,λ i a s e=>by simp at e⟩⟩ ?_ ?_ ?_
  ·rintro j σ ac _ ⟨x0,N,rfl,ax,_⟩
   exact SqT.of (ax _ _ e0)
  ·rintro j u σ ac a6 ⟨x0,N,rfl,ax,hD⟩
   have hj:j<i+3:=by
    have:=(ak.mp a6).1;rw[aj,tl]at this;exact this
   have eS:=ae (l:=S') (i:=j) (by omega);rw[<-ap,vw,az,eS]at a6;have aS:=uZ nn eS;have hf:S'[j].1∈g.take (i+1+2):=by rw[<-ap];exact iJ.mpr ⟨_,iO _,rfl⟩
   generalize S'[j]=sv at *;obtain⟨p,x,y⟩:=sv;have a6:vn p=u:=bg a6;subst a6;have hg:=hD.len;rw[cx]at hg;refine⟨_,rfl,yS1,λ u1 m1=>?_⟩;have h1:=kC m1 (.tup [vn p]);obtain⟨t,gt,ht⟩:=((dn.kept ax).kept h1).get (uR (S:=S') hf);rw[aS]at ht;refine⟨_,rfl,_,rfl,pd,_,rfl,gt,u1,t,_,_,rfl,rfl,kA,ht,(by show 1+2<=sizeLine;decide),λ u2 e6 dp gf=>?_⟩;have dp:Same _ e6:=dp;have gq:=h1.trans dp;have b6:=hD.kept gq;refine⟨_,b6.top,(by rw[aj];exact kQ (by omega)),?_⟩
   have st:∀ b G,e6 b=some (.tup G)->upd e6 D (.lst (N.map L2.V.ref++[.ref u2])) b=some (.tup G):=λ b G e=>by
    rw[kM λ z=>by rw[z,b6.top]at e;cases e];exact e
   have tk:S'.take (j+1)=S'.take j++[(p,x,y)]:=by rw[iL,eS];rfl
   refine⟨_,N++[u2],rfl,qF nD (ax.trans gq),?_⟩;rw[tk];refine⟨by rw[cy];exact kA,by rw[bj,bj,hD.len];rfl,λ i' c s e1 e2=>?_⟩;rcases snoc e1 with⟨cc,e1⟩ | ⟨ei,e1⟩
   ·rw[bf (by rw[<-hD.len];exact cc)]at e2
    exact st _ _ (b6.row i' c s e1 e2)
   ·rw[ei,hD.len,cu]at e2
    cases e1
    cases e2
    exact st _ _ gf
  ·rintro σ ac ⟨x0,N,rfl,ax,hD⟩
   rw[aj,tl,<-gp,gn]at hD;have a5:=bi.trans ax;have aw:=a5 _ _ ec;refine⟨fo,_,_,rfl,rfl,aw,(by rw[aj,Jl];exact kQ (by omega)),?_⟩;have kK:∀ b ob,b≠fo->ac b=some ob->upd ac fo (.lst (us.map L2.V.ref++[.ref D])) b=some ob:=λ b ob nb e=>by rw[kM nb];exact e
   have tt:∀ G,ac fo≠some (.tup G):=λ G e=>by rw[aw]at e;cases e
   have f6:D≠fo:=λ z=>by rw[z,ec]at fD;cases fD
   refine⟨p5,us++[D],_,_,_,_,_,rfl,⟨xK (fn.trans a5) kK go,?_,?_,?_,by rw[kA,cy];rfl,by rw[bj,Jl];rfl,λ j u e=>?_,λ z=>?_⟩⟩
   ·rw[ek]
    exact(al.kept a5).but kK (λ z=>by obtain⟨kv,e,_⟩:=al.kept a5;rw[z,aw]at e;cases e) tt
   ·refine(aq.kept a5).but kK (λ z=>?_) (λ l e=>?_)
    ·obtain⟨kv,e,_⟩:=aq.kept a5
     rw[z,aw]at e;cases e
    ·rw[aw]at e
     have e:us.map L2.V.ref=l.map vn:=by injection e with e;injection e
     match us,l,Jl,e with
     | d::ds,[],_,e=>cases e
     | d::ds,n::l,_,e=>cases e
   ·refine kK _ _ (λ z=>?_) (a5 _ _ a7)
    have:=a5 _ _ a7;rw[z,aw]at this;have e:us.map L2.V.ref=(T.getD (i+1) []).map vn:=by injection this with e;injection e
    match us,T.getD (i+1) [],Jl,e with
    | d::ds,[],_,e=>cases e
    | d::ds,n::l,_,e=>cases e
   ·rcases snoc e with⟨c,e⟩ | ⟨ej,e⟩
    ·obtain⟨ha,q⟩:=ge j u e
     refine⟨ha,(q.kept a5).but kK (λ z=>Jo (z ▸ cv e)) tt⟩
    ·cases e
     rw[ej,Jl,ek];exact⟨N,hD.but kK f6 tt⟩
   ·rcases ck.mp z with q | q
    ·exact Jo q
    ·exact f6 (bu.mp q).symm
 ·rintro σ H6 ⟨rg,us,x6,x7,x8,x9,e7,rfl,J⟩
  rw[aj,RN.len,iU]at J;exact⟨_,rfl,k fo us H6 J.same J.told J.len J.rows⟩
end
section
structure RwT(H:Hp)(t:au)(ta:List au)(L:List (List Int)):Prop where
 top:H t=some (.tup (ta.map V.ref))
 len:ta.length=L.length
 row:∀(i:Nat)(a:au)(r:List Int),ta[i]?=some a->L[i]?=some r->H a=some (.tup (r.map V.int))
structure RwL(H:Hp)(t:au)(ta:List au)(L:List (List Int)):Prop where
 top:H t=some (.lst (ta.map V.ref))
 len:ta.length=L.length
 row:∀(i:Nat)(a:au)(r:List Int),ta[i]?=some a->L[i]?=some r->H a=some (.tup (r.map V.int))
def RwT.kept{H H':Hp}{t:au}{b:List au}{L:List (List Int)}(h:RwT H t b L)(g:Same H H'):RwT H' t b L:=⟨g _ _ h.top,h.len,λ i a r d c=>g _ _ (h.row i a r d c)⟩
def RwL.kept{H H':Hp}{t:au}{b:List au}{L:List (List Int)}(h:RwL H t b L)(g:Same H H'):RwL H' t b L:=⟨g _ _ h.top,h.len,λ i a r d c=>g _ _ (h.row i a r d c)⟩
def r3(s:Nat×Int×Int):List Int:=[(s.1:Int),s.2.1,s.2.2]
theorem TrT.rw{H:Hp}{t:au}{c:List au}{S:List (Nat×Int×Int)}(h:TrT H t c S):RwT H t c (S.map r3):=⟨h.top,by rw[aj];exact h.len,λ i a r d b=>by
 rw[az]at b;obtain⟨s,f,rfl⟩:=bh.mp b;exact h.row i a s d f⟩
theorem TrL.rw{H:Hp}{t:au}{c:List au}{S:List (Nat×Int×Int)}(h:TrL H t c S):RwL H t c (S.map r3):=⟨h.top,by rw[aj];exact h.len,λ i a r d b=>by
 rw[az]at b;obtain⟨s,f,rfl⟩:=bh.mp b;exact h.row i a s d f⟩
def zV(r:List Int):CP:=.tuple (r.map jw)
def kNW{H:Hp}(r:List Int):DtAll K H (r.map jw) (r.map V.int):=by
 induction r with
 | nil=>unfold DtAll;rfl
 | cons x r ih =>
  rw[gm,gm];unfold DtAll;exact⟨_,_,rfl,(by unfold Dt;rfl),ih⟩
theorem tX{H:Hp}:∀{c:List au}{L:List (List Int)},c.length=L.length->(∀(i:Nat)(a:au)(r:List Int),c[i]?=some a->L[i]?=some r->H a=some (.tup (r.map V.int)))->DtAll K H (L.map zV) (c.map V.ref)
 | [],[],_,_=>by unfold DtAll;rfl
 | s::ss,t::T,hl,h=>by
  rw[gm,gm];unfold DtAll;refine⟨_,_,rfl,?_,tX (by simpa using hl) λ i b u f d=>h (i+1) b u (by simpa using f) (by simpa using d)⟩;unfold zV Dt;exact⟨s,_,rfl,SqT.of (h 0 s t rfl rfl),kNW t⟩
 | [],_::_,hl,_=>by simp at hl
 | _::_,[],hl,_=>by simp at hl
def RwT.dt{H:Hp}{t:au}{a:List au}{L:List (List Int)}(h:RwT H t a L):Dt K H (.tuple (L.map zV)) (.ref t):=by
 unfold Dt;exact⟨t,_,rfl,SqT.of h.top,tX h.len h.row⟩
def RwL.dt{H:Hp}{t:au}{a:List au}{L:List (List Int)}(h:RwL H t a L):Dt K H (.list (L.map zV)) (.ref t):=by
 unfold Dt;exact⟨t,_,rfl,SqL.of h.top,tX h.len h.row⟩
def R3At(H:Hp)(t:au)(b:List au)(L:List (List (List Int))):Prop:=H t=some (.tup (b.map V.ref))/\b.length=L.length/\∀(i:Nat)(a:au)(r:List (List Int)),b[i]?=some a->L[i]?=some r->∃ c,RwT H a c r
def d3(L:List (List (List Int))):CP:=.tuple (L.map λ r=>.tuple (r.map zV))
theorem kVD{H:Hp}:∀{c:List au}{L:List (List (List Int))},c.length=L.length->(∀(i:Nat)(a:au)(r:List (List Int)),c[i]?=some a->L[i]?=some r->∃ aa,RwT H a aa r)->DtAll K H (L.map λ r=>.tuple (r.map zV)) (c.map V.ref)
 | [],[],_,_=>by unfold DtAll;rfl
 | s::ss,t::T,hl,h=>by
  rw[gm,gm];unfold DtAll;obtain⟨aa,q⟩:=h 0 s t rfl rfl;exact⟨_,_,rfl,q.dt,kVD (by simpa using hl) λ i b u f d=>h (i+1) b u (by simpa using f) (by simpa using d)⟩
 | [],_::_,hl,_=>by simp at hl
 | _::_,[],hl,_=>by simp at hl
def R3At.dt{H:Hp}{t:au}{a:List au}{L:List (List (List Int))}(h:R3At H t a L):Dt K H (d3 L) (.ref t):=by
 unfold d3 Dt;exact⟨t,_,rfl,SqT.of h.1,kVD h.2.1 h.2.2⟩
theorem R3At.kept{H H':Hp}{t:au}{b:List au}{L:List (List (List Int))}(h:R3At H t b L)(g:Same H H'):R3At H' t b L:=⟨g _ _ h.1,h.2.1,λ i a r f c=>by obtain⟨d,q⟩:=h.2.2 i a r f c;exact⟨d,q.kept g⟩⟩
def kJR(r:List Int):jg (r.map jw)=true/\kg (r.map jw)=0:=by
 induction r with
 | nil=>exact⟨rfl,by decide⟩
 | cons x l ih=>simp[jg,kg,kl,pe,ih]
def pF(L:List (List Int)):jg (L.map zV)=true/\kg (L.map zV)<=1:=by
 induction L with
 | nil=>exact⟨rfl,by decide⟩
 | cons x l ih =>
  obtain⟨h1,a⟩:=kJR x;simp only[gm,jg,kg,zV,kl,pe,h1,a,ih.1];have:=ih.2;refine⟨rfl,?_⟩;unfold zV at this;omega
def kTL(L:List (List (List Int))):jg (L.map λ r=>Cc (r.map zV))=true/\kg (L.map λ r=>Cc (r.map zV))<=2:=by
 induction L with
 | nil=>exact⟨rfl,by decide⟩
 | cons x l ih =>
  obtain⟨h1,a⟩:=pF x;simp only[gm,jg,kg,kl,pe,h1,ih.1];have:=ih.2;refine⟨rfl,?_⟩;omega
def kHL(L:List (List (List Int))):lj (d3 L)=true:=by
 obtain⟨h1,a⟩:=kTL L;unfold d3 lj;simp only[kl,pe,h1]
 first | (simp;omega) | (rw[iI];exact⟨rfl,decide_eq_true (by omega)⟩) | simp_all
def kLX(L:List (List Int)):lj (.list (L.map zV))=true:=by
 obtain⟨h1,a⟩:=pF L;unfold lj;simp only[kl,pe,h1]
 first | (simp;omega) | (rw[iI];exact⟨rfl,decide_eq_true (by omega)⟩) | simp_all
def kJS(l:List Int):iM (l.map jw) (l.map jw)=true:=by
 induction l with
 | nil=>rfl
 | cons x l ih=>simp[iM,ig,ih]
def pG(L:List (List Int)):iM (L.map zV) (L.map zV)=true:=by
 induction L with
 | nil=>rfl
 | cons x l ih=>simp[iM,ig,ih,zV,kJS]
def kOA(L:List (List (List Int))):ig (d3 L) (d3 L)=true:=by
 unfold d3
 have:iM (L.map λ r=>Cc (r.map zV)) (L.map λ r=>Cc (r.map zV))=true:=by
  induction L with
  | nil=>rfl
  | cons x l ih=>simp[iM,ig,ih,pG]
 simp[ig,this]
def kOX(L:List (List Int)):ig (.list (L.map zV)) (.list (L.map zV))=true:=by simp[ig,pG]
inductive kAP(vs:List V)(H:Hp)(Q:VK)(Y:XK):Prop
 | mk:∀(n:Int),(vs=[.int n])->(Q (.bl true) H)->kAP vs H Q Y
def tE(B:Fx):Hs "_law_whole" ["_law_number_here"] 1 (kAP):=by
 refine qK B.X B.d41 rW λ f b A a d H g Q E c i h=>?_;obtain⟨n,rfl,q⟩:=h;refine⟨_,(kL (kU (aV (kR Own.call_isi rfl (B.z B.y8) iX (p2 (pv 0) (wB (v:=.ty "int") rfl (B.z B.y10) AL rfl))) (mF (kML (kR Own.call_isi rfl (B.z B.y8) iX (p2 (pv 0) (wB (v:=.ty "bool") rfl (B.z B.y9) CZ rfl)))))))),?_⟩
 try dsimp only[qX]
 exact⟨_,rfl,_,_,_,_,rfl,.int _,rfl,_,rfl,zW ⟨_,rfl,_,_,_,_,rfl,.int _,rfl,_,rfl,q⟩⟩
inductive kAW(vs:List V)(H:Hp)(Q:VK)(Y:XK):Prop
 | mk:∀(s d:au)(sa da:List au)(L:List (List Int)),(vs=[.ref s,.ref d])->(RwT H s sa L)->(RwL H d da L)->(L.length<=42)->((∀ r∈L,r.length<=3))->(∀ H',Same H H'->Q (.bl true) H')->kAW vs H Q Y
def wC(B:Fx):Hs "_law_are_points" ["_law_some","_law_due"] 2 (kAW):=by
 refine qK B.X B.d42 bJ λ f a1 A T s0 H vs Q E nN hr h=>?_;obtain⟨s,d,o,da,L,rfl,b,Z,a0,S,k⟩:=h
 refine⟨_,(kE (yE (PW.pt (pI (zD (zC (kR Own.call_isi rfl (B.z B.y8) iX (p2 (pv 0) (wB (v:=.ty "tuple") rfl (B.z B.y6) fu rfl))))) (dC (qN mG (kR kP rfl (B.z B.y0) eV (p1 (pv 0))) (kR kP rfl (B.z B.y0) eV (p1 (pv 1))) (jE _))))) (kL (kU fI)) jC)
   (kE (uJ (yR (pv 0)) (pgn 2 nN) (kL (yE (PW.pt (pI (zD (zC (kR Own.call_isi rfl (B.z B.y8) iX (p2 (pv 2) (wB (v:=.ty "tuple") rfl (B.z B.y6) fu rfl))))) (dC (zD (zC (kR (dP rfl) rfl (B.z B.y11) AM (p1 (xG (Nc:=["_law_number_here"]) (js:=[none]) rfl rfl (yR (pv 2)) (CS.of rfl rfl) rfl (λ C y I fp q=>(pgc 0)) (λ C y I fp q D L=>(qT (jL (pf (tE B) hr (p1 (pv 0)))))))))))))) (kL (kU fI)) jC)))
   (kL (kU (zZ (sY hr.units) (jD cO rfl (B.z B.y12) Ca (p1 (pv 0))) (pv 1) (jE _)))))),?_⟩
 try dsimp only[qX]
 refine⟨_,rfl,_,_,_,_,rfl,.tup b.top,rfl,_,rfl,?_⟩;refine xH ?_;refine⟨_,rfl,s,_,rfl,.inr (SqT.of b.top),_,rfl,d,_,rfl,.inl (SqL.of Z.top),rfl,_,rfl,?_⟩
 have el:(!decide (V.int (((o.map V.ref).length:Nat):Int)=V.int (((da.map V.ref).length:Nat):Int)))=false:=by
  rw[aj,aj,b.len,Z.len];simp
 rw[el];refine xH ?_;refine⟨_,rfl,s,rfl,⟨_,SqT.of b.top⟩,?_⟩;refine tS (xs:=o.map V.ref) (λ i c m=>∃(M:Option V),c=[some (.ref s),some (.ref d),M]/\Same H m) ⟨_,rfl,Same.refl _⟩ ?_ ?_ ?_
 ·rintro i c m _ ⟨M,rfl,j⟩
  exact SqT.of (j _ _ b.top)
 ·rintro i u c m hu ⟨M,rfl,j⟩
  rw[az]at hu;obtain⟨a,N,rfl⟩:=bh.mp hu;have hi:i<L.length:=by rw[<-b.len];exact(ak.mp N).1
  have eL:=ae hi;have O:=j _ _ (b.row i a _ N eL);have a2:=S _ (iO hi);generalize L[i]=r at *;refine⟨_,rfl,_,_,_,_,rfl,.tup O,rfl,_,rfl,xH ?_⟩;refine⟨_,rfl,a,rfl,⟨_,SqT.of O⟩,λ D nD=>?_⟩;refine xR (xs:=r.map V.int) (λ n c p=>∃(u:Option V),c=[u]/\p D=some (.lst ((gk n true).map V.bl))/\Same m p) ⟨none,rfl,kA,kC nD _⟩ ?_ ?_ ?_
  ·rintro n c p _ ⟨u,rfl,J,g⟩
   exact SqT.of (g _ _ O)
  ·rintro n v c p U ⟨u,rfl,J,g⟩
   have hn:=(ak.mp U).1;rw[aj]at hn;rw[az]at U;obtain⟨x,_,rfl⟩:=bh.mp U;refine⟨_,rfl,x,rfl,_,J,(by rw[aj,ub];exact kQ (by omega)),?_⟩;refine⟨_,rfl,?_,qF nD g⟩;rw[kA,DA,cy]
   rfl
  ·rintro c p ⟨u,rfl,J,g⟩
   refine⟨D,_,rfl,SqL.of J,_,rfl,?_⟩;have N:(gk (r.map V.int).length true).all id=true:=by simp
   rw[N];exact xH ⟨_,rfl,j.trans g⟩
 ·rintro c m ⟨M,rfl,j⟩
  have G:=b.kept j;refine⟨_,rfl,s,_,rfl,.inr (SqT.of G.top),λ l nl=>?_⟩;have Y:=kC nl (.lst (o.map V.ref));have hl:RwL (upd m l (.lst (o.map V.ref))) l o L:=⟨kA,b.len,λ i a r e1 e2=>Y _ _ (G.row i a r e1 e2)⟩;refine⟨_,rfl,_,_,hl.dt,((Z.kept j).kept Y).dt,kLX _,kLX _,?_⟩;show Q (.bl (ig (.list (L.map zV)) (.list (L.map zV)))) _;rw[kOX];exact k _ (j.trans Y)
def dD(s:Int×Int):List Int:=[s.1,s.2]
def dr3(s:Int×Int):List (List Int):=[[s.1,1],[s.2,1]]
inductive kFU(vs:List V)(H:Hp)(Q:VK)(Y:XK):Prop
 | mk:∀(s:au)(sa:List au)(L:List (Int×Int)),(vs=[.ref s])->(RwT H s sa (L.map dD))->(L.length<=42)->(∀(t:au)(H':Hp),Same H H'->(∃ ta,R3At H' t ta (L.map dr3))->Q (.ref t) H')->kFU vs H Q Y
def tK(B:Fx):Hs "as_points" ["some"] 2 (kFU):=by
 refine qK B.X B.d24 sH λ f a1 A U s0 H vs Q E nN hr h=>?_;obtain⟨s,Z,L,rfl,M,a0,k⟩:=h;refine⟨_,(kL (kU (jD qR rfl (B.z B.y6) fu (p1 (xG (Nc:=["pair"]) (js:=[none]) rfl rfl (yR (pv 0)) (CS.of rfl rfl) rfl (λ C x I fp v=>(pgc 0)) (λ C x I fp v D L=>(qT (jL (pf (mI B) hr (p1 (pv 0))))))))))),?_⟩
 try dsimp only[qX]
 have G:Z.length=L.length:=by rw[M.len,aj]
 refine⟨_,rfl,s,rfl,⟨_,SqT.of M.top⟩,λ D nD=>?_⟩;refine xR (xs:=Z.map V.ref) (λ i N n=>∃(J:Option V)(l:List au),N=[J]/\Same H n/\n D=some (.lst (l.map V.ref))/\l.length=i/\∀(j:Nat)(a:au)(r:List (List Int)),l[j]?=some a->(L.map dr3)[j]?=some r->∃ o,RwT n a o r) ⟨none,[],rfl,kC nD _,kA,rfl,λ j a r e=>by simp at e⟩ ?_ ?_ ?_
 ·rintro i N n _ ⟨J,l,rfl,m,_⟩
  exact SqT.of (m _ _ M.top)
 ·rintro i u N n hu ⟨J,l,rfl,m,T,lt,Y⟩
  rw[az]at hu;obtain⟨a,ea,rfl⟩:=bh.mp hu;have hi:i<L.length:=by rw[<-G];exact(ak.mp ea).1
  have eL:=ae hi;have ha:=m _ _ (M.row i a _ ea (by rw[az,eL];rfl));refine⟨_,rfl,a,_,_,rfl,ha,λ t t1 t2 H3 O h0 h1 h2=>?_⟩;have y:=O _ _ T;refine⟨_,y,(by rw[aj,lt];exact kQ (by omega)),?_⟩
  have p:∀ b S,H3 b=some (.tup S)->upd H3 D (.lst (l.map V.ref++[.ref t])) b=some (.tup S):=λ b S e=>by
   rw[kM λ z=>by rw[z,y]at e;cases e];exact e
  refine⟨_,l++[t],rfl,qF nD (m.trans O),by rw[cy];exact kA,by rw[bj,lt];rfl,λ j b r d g=>?_⟩;rcases snoc d with⟨c,d⟩ | ⟨ej,d⟩
  ·obtain⟨o,q⟩:=Y j b r d g
   exact⟨o,⟨p _ _ (O _ _ q.top),q.len,λ i a r d g=>p _ _ (O _ _ (q.row i a r d g))⟩⟩
  ·rw[ej,lt,az,eL]at g
   cases d
   cases g
   refine⟨[t1,t2],⟨p _ _ h0,rfl,λ i a r d g=>?_⟩⟩
   match i,d,g with
   | 0,d,g =>
    cases d
    cases g
    exact p _ _ h1
   | 1,d,g =>
    cases d
    cases g
    exact p _ _ h2
   | i+2,d,g=>simp at d
 ·rintro N n ⟨J,l,rfl,m,T,lt,Y⟩
  refine⟨D,_,rfl,.inl ⟨SqL.of T,λ t nt=>?_⟩⟩;have gt:=kC nt (.tup (l.map V.ref));refine k t _ (m.trans gt) ⟨l,kA,by rw[lt,aj,aj,G],λ j a r d g=>?_⟩;obtain⟨o,q⟩:=Y j a r d g;exact⟨o,q.kept gt⟩
inductive kAU(vs:List V)(H:Hp)(Q:VK)(Y:XK):Prop
 | mk:∀(s:au)(sa:List au)(L:List (Int×Int)),(vs=[.ref s])->(RwT H s sa (L.map dD))->(L.length<=42)->(∀(H':Hp),Same H H'->Q (.bl true) H')->kAU vs H Q Y
def wV(B:Fx):Hs "_law_are_drawn" ["_law_some"] 3 (kAU):=by
 refine qK B.X B.d45 dA λ f a3 A a0 s0 H vs Q E nN hr h=>?_;obtain⟨s,sa,L,rfl,hs,a1,k⟩:=h;refine⟨_,(kL (kU (zZ (sY hr.units) (pf (tK B) hr (p1 (pv 0))) (jD qR rfl (B.z B.y6) fu (p1 (xG (Nc:=["_law_x","_law_y"]) (js:=[none,none]) rfl rfl (yR (pv 0)) (CS.of rfl rfl) rfl (λ C M S fp J=>(show PG _ _ (mZ K 2 _) from jK rfl (kT (pgc 0) (kT (pgc 1) qV)))) (λ C M S fp J D L=>(qT (jL (qG (p2 (qG (p2 (pv 0) kJ)) (qG (p2 (pv 1) kJ)))))))))) (jE _)))),?_⟩
 try dsimp only[qX]
 have O:sa.length=L.length:=by rw[hs.len,aj]
 refine⟨_,rfl,s,sa,L,rfl,hs,a1,λ t0 H1 g1 ⟨a2,hR⟩=>?_⟩;have y:=hs.kept g1;refine⟨_,rfl,s,rfl,⟨_,SqT.of y.top⟩,λ D nD=>?_⟩;refine xR (xs:=sa.map V.ref) (λ i Y l=>∃(T U:Option V)(m:List au),Y=[T,U]/\Same H1 l/\l D=some (.lst (m.map V.ref))/\m.length=i/\∀(j:Nat)(a:au)(r:List (List Int)),m[j]?=some a->(L.map dr3)[j]?=some r->∃ G,RwT l a G r) ⟨none,none,[],rfl,kC nD _,kA,rfl,λ j a r e=>by simp at e⟩ ?_ ?_ ?_
 ·rintro i Y l _ ⟨T,U,m,rfl,v,_⟩
  exact SqT.of (v _ _ y.top)
 ·rintro i u Y l hu ⟨T,U,m,rfl,v,hD,lt,ht⟩
  rw[az]at hu;obtain⟨a,ea,rfl⟩:=bh.mp hu;have hi:i<L.length:=by rw[<-O];exact(ak.mp ea).1
  have eL:=ae hi;have ha:=v _ _ (y.row i a _ ea (by rw[az,eL];rfl));have ha:l a=some (.tup [.int L[i].1,.int L[i].2]):=ha;refine⟨a,_,rfl,SqT.of ha,rfl,_,_,rfl,_,_,rfl,rfl,_,rfl,yS2,λ p n1=>⟨_,rfl,yS2,λ x n2=>⟨yS2,λ t n=>?_⟩⟩⟩;have q1:=kC n1 (.tup [.int L[i].1,.int 1]);have q2:=kC n2 (.tup [.int L[i].2,.int 1]);have q3:=kC n (.tup [.ref p,.ref x]);have h1:=q3 _ _ (q2 _ _ (kA (H:=l) (a:=p) (o:=.tup [.int L[i].1,.int 1])));have h2:=q3 _ _ (kA (H:=upd l p (.tup [.int L[i].1,.int 1])) (a:=x) (o:=.tup [.int L[i].2,.int 1]));have h0:=kA (H:=upd (upd l p (.tup [.int L[i].1,.int 1])) x (.tup [.int L[i].2,.int 1])) (a:=t) (o:=.tup [.ref p,.ref x]);have Z:=q1.trans (q2.trans q3);generalize upd (upd (upd l p (.tup [.int L[i].1,.int 1])) x (.tup [.int L[i].2,.int 1])) t (.tup [.ref p,.ref x])=H3 at *;have N:=Z _ _ hD;refine⟨_,N,(by rw[aj,lt];exact kQ (by omega)),?_⟩
  have I:∀ b xs,H3 b=some (.tup xs)->upd H3 D (.lst (m.map V.ref++[.ref t])) b=some (.tup xs):=λ b xs e=>by
   rw[kM λ z=>by rw[z,N]at e;cases e];exact e
  refine⟨_,_,m++[t],rfl,qF nD (v.trans Z),by rw[cy];exact kA,by rw[bj,lt];rfl,λ j b r d g=>?_⟩;rcases snoc d with⟨c,d⟩ | ⟨ej,d⟩
  ·obtain⟨G,q⟩:=ht j b r d g
   exact⟨G,⟨I _ _ (Z _ _ q.top),q.len,λ i a r d g=>I _ _ (Z _ _ (q.row i a r d g))⟩⟩
  ·rw[ej,lt,az,eL]at g
   cases d
   cases g
   refine⟨[p,x],⟨I _ _ h0,rfl,λ i a r d g=>?_⟩⟩
   match i,d,g with
   | 0,d,g =>
    cases d
    cases g
    exact I _ _ h1
   | 1,d,g =>
    cases d
    cases g
    exact I _ _ h2
   | i+2,d,g=>simp at d
 ·rintro Y l ⟨T,U,m,rfl,v,hD,lt,ht⟩
  refine⟨D,_,rfl,.inl ⟨SqL.of hD,λ t nt=>?_⟩⟩;have gt:=kC nt (.tup (m.map V.ref))
  have h2:R3At (upd l t (.tup (m.map V.ref))) t m (L.map dr3):=⟨kA,by rw[lt,aj,aj,O],λ j a r d g=>by
   obtain⟨G,q⟩:=ht j a r d g;exact⟨G,q.kept gt⟩⟩
  refine⟨_,_,(hR.kept (v.trans gt)).dt,h2.dt,kHL _,kHL _,?_⟩;show Q (.bl (ig (d3 (L.map dr3)) (d3 (L.map dr3)))) _;rw[kOA];exact k _ (g1.trans (v.trans gt))
inductive kLI(vs:List V)(H:Hp)(Q:VK)(Y:XK):Prop
 | mk:∀(p:au),(vs=[.ref p])->(PotAt H p)->(∀(n:Int)(H':Hp),SameBut p H H'->PotAt H' p->Q (.int n) H')->kLI vs H Q Y
def aK(B:Fx):Hs "_law_number" ["_law_pot_here"] 2 (kLI):=by
 refine qK B.X B.d43 nX λ f T A c Y H vs Q E x b h=>?_;obtain⟨p,rfl,hp,k⟩:=h
 refine⟨_,(kE (pst 1 x (kX yL (pf (qE B) b (p2 (pv 0) kJ)) kJ))
   (kE (pst 2 x (kX qY (kX yL (pf (qE B) b (p2 (pv 0) (kX yL (kX sX kJ (kX kDZ kJ kJ)) kJ))) (kX kDZ kJ kJ)) kJ))
   (kL (kU (pix qB (qU (p2 (pv 1) (pv 2))) (pf (qE B) b (p2 (pv 0) kJ))))))),?_⟩
 try dsimp only[qX]
 refine⟨_,rfl,p,_,rfl,hp,(by show(0:Int)<9;decide),aB (by decide),λ n Z L O C p1=>⟨_,_,rfl,rfl,?_⟩⟩;refine⟨_,rfl,_,_,rfl,rfl,⟨by decide,by decide,by decide⟩,_,_,rfl,rfl,.inl ⟨by decide,by decide⟩,_,_,rfl,rfl,p,_,rfl,p1,(by show(0:Int)<2*10 ^ (60:Int).toNat-1;decide),(by show(2*10 ^ (60:Int).toNat-1:Int).natAbs<2 ^ 9000;exact cw (m:=2 ^ 300) (by decide) (Cz (by decide) (by decide))),λ i I J S N p2=>?_⟩;refine⟨_,_,rfl,rfl,⟨by decide,by decide,by decide⟩,_,_,rfl,rfl,_,_,rfl,rfl,?_⟩;refine⟨_,rfl,_,rfl,yS2,λ l q=>?_⟩;have s:=kC q (.lst [V.int (n-4),V.int (i-10 ^ (60:Int).toNat+1)]);obtain⟨px,U,g,_⟩:=id p2;have lp:l≠p:=(kO g q).symm;refine⟨_,rfl,p,_,rfl,p2.kept s,(by show(0:Int)<2;decide),aB (by decide),λ d3 G M D v r=>?_⟩;have y:=v _ _ lp (kA (H:=I) (a:=l) (o:=.lst [V.int (n-4),V.int (i-10 ^ (60:Int).toNat+1)]));have u:SameBut p H G:=C.trans (N.trans ((SameBut.of s).trans v));have d:d3=0\/d3=1:=by omega
 rcases d with rfl | rfl
 ·exact⟨l,_,_,_,rfl,rfl,SqL.of y,rfl,k _ _ u r⟩
 ·exact⟨l,_,_,_,rfl,rfl,SqL.of y,jB (j:=1) rfl,k _ _ u r⟩
inductive oU(vs:List V)(H:Hp)(Q:VK)(Y:XK):Prop
 | mk:∀(p:au),(vs=[.ref p])->(PotAt H p)->(∀(t:au)(ta:List au)(L:List (Int×Int))(H':Hp),SameBut p H H'->PotAt H' p->RwT H' t ta (L.map dD)->L.length<=42->Q (.ref t) H')->oU vs H Q Y
def mL(B:Fx):Hs "_law_further" ["_law_pot_here"] 4 (oU):=by
 refine qK B.X B.d44 lG λ f a7 A a0 s0 H vs Q E nN S h=>?_;obtain⟨p,rfl,hp,k⟩:=h
 refine⟨_,(kE (pst 1 nN (qU kY))
   (kE (uJ (xC rfl (B.z B.y3) (p1 (pf (qE B) S (p2 (pv 0) kJ)))) (pgn 2 nN) (kL (qM (jG iR iS jW (pv 1) (p1 (qG (p2 (pf (aK B) S (p1 (pv 0))) (pf (aK B) S (p1 (pv 0))))))))))
   (kL (kU (jD qR rfl (B.z B.y6) fu (p1 (kX vK (pv 1) (qD xE (pv 1) jA (qC (pf (qE B) S (p2 (pv 0) kJ))))))))))),?_⟩
 try dsimp only[qX]
 refine⟨yS0,λ l nl=>?_⟩;obtain⟨px,py,a4,_⟩:=id hp;have lp:l≠p:=(kO a4 nl).symm;have g0:=kC nl (.lst []);refine⟨_,rfl,p,_,rfl,hp.kept g0,(by show(0:Int)<6;decide),aB (by decide),λ d1 H1 a8 a9 s1 p1=>?_⟩;have Z:=s1 _ _ lp (kA (H:=H) (a:=l) (o:=.lst []));have a6:SameBut p H H1:=(SameBut.of g0).trans s1;refine⟨d1,rfl,by omega,by omega,yG (lo:=0) (n:=d1.toNat) (λ i σ I=>∃(x2:Option V)(g:List au)(L:List (Int×Int)),σ=[some (.ref p),some (.ref l),x2]/\SameBut p H I/\PotAt I p/\RwL I l g (L.map dD)/\L.length=i) ⟨_,[],[],rfl,a6,p1,⟨Z,rfl,λ i a r e=>by simp at e⟩,rfl⟩ ?_ ?_⟩
 ·rintro i σ I hi ⟨x2,g,L,rfl,sb,pt,s,lL⟩
  have lt:=s.len;rw[aj]at lt;refine⟨_,rfl,.inl ⟨rfl,_,SqL.of s.top⟩,_,rfl,p,rfl,pt,λ J Y O p3=>⟨_,rfl,p,rfl,p3,λ G M s4 p4=>⟨yS2,λ t nt=>?_⟩⟩⟩;have gt:=kC nt (.tup [.int J,.int G]);have ht:=kA (H:=M) (a:=t) (o:=.tup [.int J,.int G]);have C:SameBut p I (upd M t (.tup [.int J,.int G])):=O.trans (s4.trans (SameBut.of gt));have N:=C _ _ lp s.top;have p5:=p4.kept gt;obtain⟨qx,qy,D,_⟩:=id pt;have v:∀(j:Nat)(a:au)(r:List Int),g[j]?=some a->(L.map dD)[j]?=some r->upd M t (.tup [.int J,.int G]) a=some (.tup (r.map V.int)):=λ j a r q m=>C _ _ (λ z=>by have:=s.row j a r q m;rw[z,D]at this;cases this) (s.row j a r q m);generalize upd M t (.tup [.int J,.int G])=T at *;refine⟨l,_,_,rfl,rfl,N,(by rw[aj];exact kQ (by omega)),?_⟩;have k6:∀ b o,b≠l->T b=some o->upd T l (.lst (g.map V.ref++[.ref t])) b=some o:=λ b o U e=>by rw[kM U];exact e
  have st:∀ b xs,T b=some (.tup xs)->upd T l (.lst (g.map V.ref++[.ref t])) b=some (.tup xs):=λ b xs e=>k6 _ _ (λ z=>by rw[z,N]at e;cases e) e;refine⟨_,g++[t],L++[(J,G)],rfl,λ b o U e=>k6 b o (λ z=>by rw[z,nl]at e;cases e) (C _ _ U (sb b o U e)),?_,⟨by rw[cy];exact kA,by simp[lt],λ j b r q m=>?_⟩,by rw[bj,lL];rfl⟩
  ·obtain⟨x,y,hx,h0⟩:=p5
   exact⟨x,y,k6 _ _ (ox lp) hx,h0⟩
  ·rw[cy]at m
   rcases snoc q with⟨c,q⟩ | ⟨ej,q⟩
   ·rw[bf (by rw[aj];omega)]at m
    exact st _ _ (v j b r q m)
   ·rw[ej,lt,show L.length=(L.map dD).length by rw[aj],Bb,cu]at m
    cases q
    cases m
    exact st _ _ ht
 ·rintro σ I ⟨x2,g,L,rfl,sb,pt,s,lL⟩
  have lt:=s.len;rw[aj]at lt;refine⟨_,rfl,_,rfl,_,rfl,p,_,rfl,pt,(by show(0:Int)<2;decide),aB (by decide),λ d2 Y a3 aa O p3=>?_⟩;obtain⟨qx,qy,D,_⟩:=id pt;have u:RwL Y l g (L.map dD):=⟨O _ _ lp s.top,s.len,λ i a r q m=>O _ _ (λ z=>by have:=s.row i a r q m;rw[z,D]at this;cases this) (s.row i a r q m)⟩;obtain⟨d,rfl⟩:=ow a3;refine⟨_,rfl,l,_,rfl,SqL.of u.top,λ q1 m1=>?_⟩
  have ec:yA (g.map V.ref) none (some (d:Int))=(g.take d).map V.ref:=by
   unfold yA;rw[HT.sIx_none,HT.sIx_nat,Cw,CW,uz];rw[Cq];omega
  rw[ec];have g4:=kC m1 (.lst ((g.take d).map V.ref));have a5:=kA (H:=Y) (a:=q1) (o:=.lst ((g.take d).map V.ref));generalize upd Y q1 (.lst ((g.take d).map V.ref))=M at *;have ld:(g.take d).length<=g.length:=by rw[cx];omega
  refine⟨l,q1,_,_,rfl,rfl,g4 _ _ u.top,a5,(by rw[aj,aj];exact fv (kQ (by omega))),λ q2 m2=>?_⟩;have g5:=kC m2 (.lst (g.map V.ref++(g.take d).map V.ref));refine⟨q2,_,rfl,.inl ⟨SqL.of kA,λ t nt=>?_⟩⟩;have g6:=kC nt (.tup (g.map V.ref++(g.take d).map V.ref));have gg:=g4.trans (g5.trans g6);refine k t (g++g.take d) (L++L.take d) _ (sb.trans (O.trans (SameBut.of gg))) (p3.kept gg) ⟨by rw[cy];exact kA,by simp[lt],λ j b r q m=>?_⟩ (by rw[bj,cx];omega);refine gg _ _ ?_;rw[cy]at m;rcases iV j g.length with c | c
  ·rw[bf c]at q
   rw[bf (by rw[aj];omega)]at m;exact u.row j b r q m
  ·rw[bz c]at q
   rw[bz (by rw[aj];omega),aj,<-lt]at m;rw[zr]at q;rw[uz,zr]at m
   split at q
   ·rename_i hh
    rw[if_pos hh]at m;exact u.row _ b r q m
   ·cases q
end
section
def nU{n:Nat}{c:List Nat}{S:List (Nat×Int×Int)}{L:List (List Int)}(d:c.Perm (cq n))(fst:S.map (·.1)=c)(p:L.Perm (S.map r3))(i:L.Pairwise (λ a b=>Srt.lexLt b a=false)):L=(cq n).map λ(p:Nat)=>[(p:Int),(atS S p).1,(atS S p).2]:=by
 have nd:(S.map (·.1)).Nodup:=by rw[fst];exact d.nodup_iff.mpr sh
 have m:S.map r3=c.map λ(p:Nat)=>[(p:Int),(atS S p).1,(atS S p).2]:=by
  rw[<-fst,vw];refine yi λ s g=>?_;obtain⟨j,f⟩:=AN.mp g;have:=uZ nd f;show r3 s=[(s.1:Int),(atS S s.1).1,(atS S s.1).2];rw[this]
  rfl
 refine List.Perm.eq_of_pairwise (le:=λ a b=>Srt.lexLt b a=false) (λ a b _ _ h1 l=>Srt.lex_tot a b l h1) i ?_ ?_
 ·refine md.mpr (Gd (λ{a b} (h:a<b)=>?_) AI)
  show Srt.lexLt [(b:Int),_,_] [(a:Int),_,_]=false;unfold Srt.lexLt;rw[if_neg (by omega)];exact decide_eq_false (by omega)
 ·rw[m]at p
  exact p.trans (d.map _)
def kSL(B:Fx){f:au}{fd:sj}(F:Fun K "law" "law" kGA f fd):FnOk P w K mg base CX0 11 f fd ["_law_script"] (oS K):=by
 refine F.ok sc_law (λ vs H Q E h=>?_) (λ ek A dx s H vs Q E d h=>?_)
 ·obtain⟨a,ns,rfl,_⟩:=h
  rfl
 obtain⟨a,ns,rfl,hS,dy,q⟩:=h
 refine⟨_,(kE (pst 1 sc_law.nd (pf (kEB B) d (p2 (pv 0) kJ)))
   (kE (pst 2 sc_law.nd (pix qB (qU (p2 (kX qY kJ (pf (qE B) d (p2 (pv 1) kJ))) (kX qY kJ (pf (qE B) d (p2 (pv 1) kJ))))) (jD kKF rfl (B.z B.y10) AL (p1 (zZ kMR (pf (qE B) d (p2 (pv 1) kJ)) kJ (jE _))))))
   (kE (pst 3 sc_law.nd (pf (kEA B) d (p2 (pf (fY B) d (p2 (pv 1) (pv 2))) (pf (tH B) d (p2 (pv 1) (pv 2))))))
   (kE (pst 4 sc_law.nd (pf (kBS B) d (p2 (pv 1) (pv 3))))
   (kE (yC (pf (mK B) d (kI (pv 1) (kI (pv 3) (kI (pv 4) kY)))) (jK (n:=2) rfl (kT (pgn 5 sc_law.nd) (kT (pgn 6 sc_law.nd) qV))))
   (kE (pst 7 sc_law.nd (pf (nZ B) d (p2 (pv 5) (pv 6))))
   (kE (pst 8 sc_law.nd (pf (kBV B) d (kI (pv 3) (kI (pv 4) (kI (pv 5) kY)))))
   (kE (yE (PW.pt (pI (zD (zC (kR Own.call_isi rfl (B.z B.y8) iX (p2 (pv 8) (wB (v:=.ty "tuple") rfl (B.z B.y6) fu rfl))))) (dC (qN mG (kR kP rfl (B.z B.y0) eV (p1 (pv 8))) (kR kP rfl (B.z B.y0) eV (p1 (pv 7))) (jE _))))) (kL (kU fI)) jC)
   (kE (uJ (xC rfl (B.z B.y3) (p1 (kR kP rfl (B.z B.y0) eV (p1 (pv 7))))) (pgn 9 sc_law.nd) (kL (yE (zD (zC (pf (wC B) d (p2 (pix kZ (pv 8) (pv 9)) (pix qB (pv 7) (pv 9)))))) (kL (kU fI)) jC)))
   (kE (uU (i:=10) (Nc:=["_law_one"]) (js:=[none]) rfl rfl sc_law.nd rfl (xw rfl) (jP (kR bC rfl (B.z B.y7) vk (p1 (pix qB (pv 7) (wU yQ kJ))))) (CS.of rfl rfl) rfl (λ C c9 cl fp d6=>(pgc 0)) (λ C c9 cl fp d6 D L=>(qT (jL (qD (show SlR _ (kRX K) from yJ) (pv 0) (qC kJ) jA)))))
   (kE (yE (PW.pt (pI (zD (zC (pf (wC B) d (p2 (pf (kGQ B) d (kI (pv 3) (kI (pv 4) (kI (pv 5) kY)))) (pv 10))))) (dC (qN (sW d.units) (pf (kBV B) d (kI (pv 3) (kI (pv 4) (kI (pv 5) kY)))) (pv 8) (jE _))))) (kL (kU fI)) jC)
   (kL (kU (aV (pf (wV B) d (p1 (pf (kGQ B) d (kI (pv 3) (kI (pv 4) (kI (pv 5) kY)))))) (mF (pf (wV B) d (p1 (pf (mL B) d (p1 (pv 1)))))))))))))))))))),?_⟩
 try dsimp only[qX]
 refine⟨_,rfl,a,ns,_,rfl,hS,dy,(by decide),(by decide),λ p x y H1 hx g1 np hp=>?_⟩;have pA:PotAt H1 p:=⟨x,y,hp,hx⟩;have np:H p=none:=np;refine⟨_,rfl,p,_,rfl,pA,(by show(0:Int)<12;decide),aB (by decide),λ d1 H2 ep er s2 p2=>⟨_,_,rfl,rfl,?_⟩⟩;refine⟨_,rfl,p,_,rfl,p2,(by show(0:Int)<38;decide),aB (by decide),λ d2 H3 ew f4 s3 p3=>⟨_,_,rfl,rfl,yS2,λ ln ch=>?_⟩⟩;have gl:=kC ch (.lst [V.int (3+d1),V.int (3+d2)]);obtain⟨px,py,cr,_⟩:=id p3;have lp:ln≠p:=(kO cr ch).symm;refine⟨_,rfl,p,_,rfl,p3.kept gl,(by show(0:Int)<8;decide),aB (by decide),λ d3 H4 f3 eh s4 p4=>⟨rfl,.inr ⟨_,rfl,?_⟩⟩⟩;have bo:=s4 _ _ lp (kA (H:=H3) (a:=ln) (o:=.lst [V.int (3+d1),V.int (3+d2)]))
 obtain⟨nn,n3,ea,co⟩ : ∃ nn:Nat,3<=nn/\nn<=40/\atI [V.int (3+d1),V.int (3+d2)] (if decide (V.int d3=V.int 7)=true then 1 else 0)=some (vn nn):=by
  by_cases c:decide (V.int d3=V.int 7)=true
  ·rw[if_pos c]
   refine⟨(3+d2).toNat,by omega,by omega,?_⟩;have:((3+d2).toNat:Int)=3+d2:=by omega
   unfold vn;rw[this];exact jB (j:=1) rfl
  ·rw[if_neg c]
   refine⟨(3+d1).toNat,by omega,by omega,?_⟩;have:((3+d1).toNat:Int)=3+d1:=by omega
   unfold vn;rw[this];exact jB (j:=0) rfl
 refine⟨ln,_,_,_,rfl,rfl,SqL.of bo,co,?_⟩;have k4:Same H H4:=keep (g1.trans (Same.refl _)) np (s2.trans (s3.trans ((SameBut.of gl).trans s4)));clear bo co cr lp gl;refine⟨_,rfl,_,rfl,p,nn,rfl,p4,n3,ea,λ r A L H5 s5 p5 X GL lL NW=>?_⟩;refine⟨_,rfl,_,rfl,p,nn,rfl,p5,by omega,λ l nm H6 s6 p6 nl la hl pm=>?_⟩;have X6:=X.but NW.pot.1 NW.pot.2 s6;rw[<-lL]at pm;refine⟨r,l,A,L,nm,rfl,X6,hl,pm,dM GL (by omega),(λ p row e x hx=>(GL.rng p row x e hx).1),λ t W H7 g7 hW lW d0=>?_⟩;have G:Good W:=kMB GL (kJE pm lW d0);have am:W.length<=42:=by omega
 have k6:Same H H6:=keep k4 np (s5.trans s6);have k7:=k6.trans g7;have p7:=p6.kept g7;clear X X6 NW hl d0;refine⟨_,rfl,_,rfl,p,t,W,rfl,p7,hW,G,am,λ z x' y' c' H8 s8 p8 nz hz ba a5=>?_⟩;have b4:=hW.pot s8 p7;have k8:Same H H8:=keep k7 np s8;refine⟨_,rfl,_,rfl,_,rfl,p,t,z,W,x',y',c',rfl,p8,b4,G,am,hz,ba,a5,λ tt o rl ra ms g Ts H9 s9 p9 br ho RN a2 a8=>?_⟩;have cn:=b4.pot s9 p8;obtain⟨ey,et,c3,_⟩:=id p8;have d4:=s9 z _ (λ q=>by rw[q,c3]at hz;cases hz) hz;have k9:Same H H9:=keep k8 np s9;refine⟨tt,_,rfl,SqT.of br,rfl,_,_,rfl,_,_,rfl,rfl,?_⟩;have S:=(Wb.of G).toNb;have T:Tr W:=⟨S,am,(jY G).1,(jY G).2⟩;obtain⟨z',m1,m2,m3,Z,e2⟩:=qZ S T.three ba;rw[m1]at a5;have a5:z'=y':=a5;subst a5;have b7:Tri.E W x' z':=S.sym _ _ e2;have ok:=kEM T b7 a8 G.three a2;have cb:=kQD T b7 a8 G.three a2;refine⟨_,rfl,_,rfl,o,rl,ra,ms,g,Ts,rfl,ho,RN,ok,cb,λ du us f0 c8 bi a4 ct=>?_⟩;have GG:Gw H9 t z o W ms x' z' c':=⟨cn,T,d4,ho,a8,G.three,b7⟩;have ag:Tri.E W x' c'/\(nxt W (x',c')).2=z':=⟨ba,by rw[m1]⟩;have ab:=GG.kept c8;refine⟨_,rfl,_,rfl,_,rfl,t,z,o,W,ms,x',z',c',g,Ts,rfl,ab,ag,a2,λ fo vs af al an d5 c2=>?_⟩;have M:=al _ _ bi;have a9:∀ j u,us[j]?=some u->∃ N,TrL af u N (gF ms g Ts j).1:=λ j u e=>by obtain⟨N,q⟩:=ct j u e;exact⟨N,q.kept al⟩
 have bx:=ab.kept al;have bn:PotAt af p:=(p9.kept c8).kept al;have ef:=ok.le;have eg:=ok.lm
 have c5:∀ j,j<=g.length->(gF ms g Ts j).1.length<=42:=λ j hj=>by
  have:=congrArg ip (ok.inv j hj).fst;rw[aj,cx]at this;omega
 clear hW b4 cn hz d4 ho RN cb ct bi br GG ab;refine⟨_,rfl,_,_,_,_,rfl,.tup an,rfl,_,rfl,xH ⟨_,rfl,fo,_,rfl,.inr (SqT.of an),_,rfl,du,_,rfl,.inl (SqL.of M),rfl,_,rfl,?_⟩⟩
 have el:(!decide (V.int (((vs.map V.ref).length:Nat):Int)=V.int (((us.map V.ref).length:Nat):Int)))=false:=by
  rw[aj,aj,d5,a4];simp
 rw[el];refine xH ?_;refine⟨_,rfl,du,_,rfl,.inl (SqL.of M),_,rfl,(by rw[aj,a4];omega),(by rw[aj,a4];omega),?_⟩;refine yG (n:=((((us.map V.ref).length:Nat):Int)).toNat) (λ i σ U=>∃(x9 b5:Option V),σ=[some (.ref a),some (.ref p),some (vn nn),some (.ref t),some (.ref z),some (.ref o),some (.ref rl),some (.ref du),some (.ref fo),x9,b5]/\Same af U) ⟨_,_,rfl,Same.refl _⟩ ?_ ?_
 ·rintro i σ U hi ⟨x9,b5,rfl,m⟩
  rw[aj,iU]at hi;have ds:i<vs.length:=by omega
  have eu:=ae hi;have ev:=ae ds;obtain⟨N,q1⟩:=a9 i _ eu;obtain⟨tb,q2⟩:=c2 i _ ev;have e5:atI (vs.map V.ref) (0+(i:Int))=some (.ref vs[i]):=by rw[wz];exact jB (by rw[az,ev];rfl)
  have e4:atI (us.map V.ref) (0+(i:Int))=some (.ref us[i]):=by rw[wz];exact jB (by rw[az,eu];rfl)
  refine⟨_,rfl,_,rfl,fo,_,_,_,rfl,rfl,SqT.of (m _ _ an),e5,_,rfl,_,rfl,du,_,_,_,rfl,rfl,SqL.of (m _ _ M),e4,_,_,tb,N,_,rfl,(q2.kept λ b xs e=>m _ _ e).rw,(q1.kept m).rw,(by rw[aj];exact c5 i (by omega)),(λ r d=>by obtain⟨s,_,rfl⟩:=iJ.mp d;exact be _),λ bt db=>⟨_,rfl,xH ⟨_,_,rfl,m.trans db⟩⟩⟩
 ·rintro σ U ⟨x9,b5,rfl,m⟩
  have b0:=m _ _ M
  obtain⟨bc,ul,b6⟩ : ∃ bc ul,us=bc++[ul]:=by
   have ne:us≠[]:=λ z=>by rw[z]at a4;cases a4
   exact⟨us.dropLast,us.getLast ne,(eC ne).symm⟩
  have ec:atI (us.map V.ref) (-1)=some (.ref ul):=by rw[b6,cy];exact yB _ _
  obtain⟨N,qL⟩:=a9 g.length ul (by
   have:bc.length=g.length:=by rw[b6,bj,fj]at a4;omega
   rw[b6,<-this,cu])
  have qL:=(qL.kept m);have b3:=ok.inv g.length (be _);have ax:(gF ms g Ts g.length).1.map (·.1)=ms:=by rw[b3.fst,<-ok.lm,gn]
  have ex:=c5 g.length (be _);have d7:=bx.kept m;have cp:=bn.kept m;generalize bw:(gF ms g Ts g.length).1=J at *;have dg:=qL.len;have e7:ms.length=W.length:=by rw[a8.length_eq,gv]
  have en:J.length=W.length:=by rw[<-e7,<-ax,aj]
  have lz:N.length=(J.map r3).length:=by rw[aj];exact dg
  have e6:((N.zip (J.map r3)).map λ q=>V.ref q.1)=N.map V.ref:=by
   show(N.zip (J.map r3)).map (V.ref∘Cu)=_;rw[<-vw,CI (by omega)]
  have as:kQM U (N.zip (J.map r3)):=λ q hq=>by
   obtain⟨j,hj⟩:=AN.mp hq;obtain⟨j1,j2⟩:=mf.mp hj;have:=qL.rw.row j _ _ j1 j2;refine⟨this,λ z=>?_⟩;rw[az]at j2;obtain⟨s,_,e⟩:=bh.mp j2;rw[<-e]at z;cases z
  refine⟨_,rfl,_,rfl,du,_,_,_,rfl,rfl,SqL.of b0,ec,ul,N.zip (J.map r3),rfl,.inl (by rw[e6];exact SqL.of qL.top),as,λ sl I dd pp pw=>?_⟩;have gs:=kC dd (.lst (I.map λ q=>V.ref q.1));have cs:=kA (H:=U) (a:=sl) (o:=.lst (I.map λ q=>V.ref q.1));have b9:∀ q∈I,upd U sl (.lst (I.map λ q=>V.ref q.1)) q.1=some (.tup (q.2.map V.int)):=λ q hq=>gs _ _ (as q (pp.mem_iff.mp hq)).1
  have bv:I.map yc=(cq W.length).map λ(p:Nat)=>[(p:Int),(atS J p).1,(atS J p).2]:=by
   refine nU a8 ax ?_ (md.mpr pw);have:=pp.map yc;rw[AW (by omega)]at this;exact this
  have dk:I.length=W.length:=by have:=congrArg ip bv;rw[aj,aj,gv]at this;exact this
  generalize upd U sl (.lst (I.map λ q=>V.ref q.1))=bt at *;refine⟨sl,rfl,⟨_,SqL.of cs⟩,λ D nD=>?_⟩
  have ca:∀(i:Nat)(q:au×List Int),I[i]?=some q->q.2=[(i:Int),(atS J i).1,(atS J i).2]:=λ i q e=>by
   have Z:(I.map yc)[i]?=some q.2:=by rw[az,e];rfl
   have hi:=(ak.mp e).1;rw[bv,az,yt (by omega)]at Z;exact(bg Z).symm
  refine jI (xs:=I.map λ q=>V.ref q.1) (λ i σ a3=>∃(x0:Option V)(da:List au),σ=[x0]/\Same bt a3/\RwL a3 D da ((cq i).map λ p=>dD (atS J p))) ⟨none,[],rfl,kC nD _,⟨kA,rfl,λ i a r e=>by simp at e⟩⟩ ?_ ?_ ?_
  ·rintro i σ a3 _ ⟨x0,da,rfl,a1,_⟩
   exact SqL.of (a1 _ _ cs)
  ·rintro i u σ a3 hu ⟨x0,da,rfl,a1,hD⟩
   rw[az]at hu;obtain⟨q,eq,rfl⟩:=bh.mp hu;have hi:=(ak.mp eq).1;have hq:=a1 _ _ (b9 q (cv eq));rw[ca i q eq]at hq;have e0:=hD.len;rw[aj,gv]at e0;refine⟨_,rfl,1,rfl,q.1,_,rfl,hq,λ c a6 Y hc=>?_⟩
   have ce:yA ([(i:Int),(atS J i).1,(atS J i).2].map V.int) (some 1) none=(dD (atS J i)).map V.int:=by
    rw[show(1:Int)=((1:Nat):Int) from rfl,xZ _ (by simp)]
    rfl
   rw[ce]at hc;have Y:Same a3 a6:=Y;have a7:=hD.kept Y;refine⟨_,a7.top,(by rw[aj];exact kQ (by omega)),?_⟩
   have st:∀ b xs,a6 b=some (.tup xs)->upd a6 D (.lst (da.map V.ref++[.ref c])) b=some (.tup xs):=λ b xs e=>by
    rw[kM λ z=>by rw[z,a7.top]at e;cases e];exact e
   refine⟨_,da++[c],rfl,qF nD (a1.trans Y),?_⟩;rw[BP,cy];refine⟨by rw[cy];exact kA,by rw[bj,bj,hD.len];rfl,λ j b r Z e2=>?_⟩;rcases snoc Z with⟨cc,Z⟩ | ⟨ej,Z⟩
   ·rw[bf (by rw[<-hD.len];exact cc)]at e2
    exact st _ _ (a7.row j b r Z e2)
   ·rw[ej,hD.len,Bb,cu]at e2
    cases Z
    cases e2
    exact st _ _ hc
  ·rintro σ a3 ⟨x0,da,rfl,a1,hD⟩
   rw[aj,dk]at hD;have b1:=gs.trans a1;have aq:=d7.kept b1;have dm:((cq W.length).map λ p=>dD (atS J p))=((cq W.length).map λ p=>atS J p).map dD:=by rw[vw];rfl
   rw[dm]at hD;have c7:((cq W.length).map λ p=>atS J p).length=W.length:=by rw[aj,gv]
   have a0:∀(t':au)(O:List au)(H':Hp),H' t'=some (.tup (O.map V.ref))->O.length=W.length->(∀(p:Nat)(a:au),O[p]?=some a->H' a=some (.tup [.int (atS J p).1,.int (atS J p).2]))->RwT H' t' O (((cq W.length).map λ p=>atS J p).map dD):=λ t' O H' h1 h2 h3=>⟨h1,by rw[aj,c7,h2],λ i a r Z e2=>by
    have hi:i<W.length:=by rw[<-h2];exact(ak.mp Z).1
    rw[vw,az,yt hi]at e2;cases e2
    exact h3 i a Z⟩
   generalize((cq W.length).map λ p=>atS J p)=Lp at *;refine⟨_,rfl,_,rfl,_,rfl,t,z,o,W,ms,x',z',c',g,Ts,rfl,aq,ag,a2,λ t' O a6 Y ee c4 ac=>?_⟩;rw[bw]at ac;refine⟨_,rfl,t',D,O,da,Lp.map dD,rfl,a0 t' O a6 ee c4 ac,hD.kept Y,(by rw[aj,c7];exact am),(λ r d=>by obtain⟨s,_,rfl⟩:=iJ.mp d;show 2<=3;decide),λ es e8=>⟨_,rfl,xH ?_⟩⟩;have b2:=Y.trans e8;have aw:=aq.kept b2;refine⟨_,rfl,_,rfl,_,rfl,t,z,o,W,ms,x',z',c',g,Ts,rfl,aw,ag,a2,λ d9 eb ah b8 cd cz bl=>?_⟩;have ap:Same af ah:=m.trans (b1.trans (b2.trans b8));have l3:((cq (g.length+1)).map λ j=>(gF ms g Ts j).1.map r3).length=g.length+1:=by rw[aj,gv]
   have mk:∀(fo:au)(vs:List au),ah fo=some (.tup (vs.map V.ref))->vs.length=g.length+1->(∀(j:Nat)(u:au),vs[j]?=some u->∃ N,TrT ah u N (gF ms g Ts j).1)->R3At ah fo vs ((cq (g.length+1)).map λ j=>(gF ms g Ts j).1.map r3):=λ fo vs h1 h2 h3=>⟨h1,by rw[l3,h2],λ i a r Z e2=>by
    have hi:i<g.length+1:=by rw[<-h2];exact(ak.mp Z).1
    rw[az,yt hi]at e2;cases e2
    obtain⟨N,q⟩:=h3 i a Z;exact⟨N,q.rw⟩⟩
   refine⟨_,rfl,_,_,(mk d9 eb cd cz bl).dt,(mk fo vs (ap _ _ an) d5 λ j u e=>by obtain⟨N,q⟩:=c2 j u e;exact⟨N,q.kept λ b xs e=>ap _ _ e⟩).dt,kHL _,kHL _,_,rfl,?_⟩;rw[kOA];refine xH ?_;have c6:=aw.kept b8;refine⟨_,rfl,_,rfl,_,rfl,t,z,o,W,ms,x',z',c',g,Ts,rfl,c6,ag,a2,λ t2 d8 e9 dp dz c1 aa=>?_⟩;rw[bw]at aa;refine⟨t2,d8,Lp,rfl,a0 t2 d8 e9 dz c1 aa,by omega,λ ed e3=>⟨true,rfl,zW ?_⟩⟩;have bm:PotAt ed p:=cp.kept (b1.trans (b2.trans (b8.trans (dp.trans e3))));exact⟨_,rfl,p,rfl,bm,λ tf dn Lf ez f2 f1 hf lf=>⟨tf,dn,Lf,rfl,hf,lf,λ dv ei=>q dv⟩⟩
end
def all_mk{l:Ce}{w:iG}{K:bb}{h:iK}{mg:Str->Option ar}{b:au}(X:K.In h)(G:h.Ns gw mg)(a:mg "law" = some (.ref b))(B:FxG K mg):∃ fd:sj,(∀(s:ay)(v:ar),Da s fd ⟨[v],[]⟩ [("_law_script",v)])/\∀ base:iK,K.In base->base.Ns gw mg->FnOk l.prog w K mg base CX0 11 b fd ["_law_script"] (oS K):=by
 obtain⟨f,fd,e,F⟩:=B.d46
 cases a.symm.trans (Fb X G e)
 refine⟨fd,λ s v=>?_,λ base _ _=>?_⟩
 ·obtain⟨r,x,kV,m,y,u,d,p,c,rfl,_⟩:=F.ex
  exact .of_eq rfl
 refine eW λ n=>?_;obtain⟨i,q,g,o,j⟩ : Bad c0:=Classical.epsilon_spec ⟨⟨l.prog,w,K,mg,base⟩,B,b,fd,F,n⟩;exact j (kSL i o)
def walk{l:Ce}{q:eY}{b:List Str}{v:(Str->Option ar)->iK->Prop}{g:iG->iK->Prop}{d:DefRec}{K:GV->bb}(m:l.most=some 63)(c:d.params.defaults=[])
  (o:∀(w:iG)(h:iK),g w h->(K w.params).In h)
  (F:∀(w:iG)(mg:Str->Option ar)(i:au)(h:iK),(K w.params).In h->h.Ns gw mg->mg d.name=some (.ref i) ->
   ∃ fd:sj,(∀(s:ay)(u:ar),Da s fd ⟨[u],[]⟩ [("_law_script",u)])/\∀ base:iK,(K w.params).In base->base.Ns gw mg->FnOk l.prog w (K w.params) mg base CX0 11 i fd ["_law_script"] (oS (K w.params))) :
  FZ q b v g l.row.toRowW d [] (λ f vs=>Em f vs) :=
 L2.walk_of (n:=63) (k:=11) (x:="_law_script") (CX:=λ _=>CX0) (sp:=λ w=>oS (K w.params)) m (by decide) c ⟨rfl,by decide,by decide,rfl⟩ o F (λ _ _ a p r _ j=>⟨a,p,rfl,j,r,λ _=>rfl⟩) λ _ _ _ _ _ z=>z
end Prf
namespace PySem.W.Fast
def tw9720413287059589546:=0
def tw16120034200179559219:=0
def tw8769403164771795708:=0
def tw16138283533110824556:=0
def tw13205323820497325336:=0
def tw11676056121755826113:=0
def tw17920627879176950458:=0
def tw1506707426276854840:=0
def tw2038076801930959084:=0
def tw2094174688299587698:=0
def tw17954037374253536010:=0
def tw3825596027934353961:=0
def tw9940327119780916074:=0
def tw11572997688319817961:=0
def tw1574313301318862531:=0
def tw10677752681207016253:=0
def tw7169296237023137038:=0
def tw8293839259564473734:=0
def tw16603646962141779877:=0
def tw3455949318729759390:=0
def tw5556059237038416684:=0
def tw8150260237044623562:=0
def tw15390664932547917014:=0
def tw16691699667208659147:=0
def tw2846223746252110994:=0
def tw17328022461459038228:=0
def tw12787706306169377172:=0
def tw12102191875601466391:=0
def tw13228153530664285578:=0
def tw2033743254717505237:=0
def tw9846214040462902591:=0
def tw6337994261214934017:=0
def tw3800126068201696396:=0
def tw8350520344644705869:=0
def tw12829802528689606303:=0
def tw11891480342744503878:=0
def tw2668603007403253910:=0
def tw9723776917887328358:=0
def tw9897301613337980480:=0
def tw2436920583180185894:=0
def tw11919842654009331487:=0
def tw4777128875601971359:=0
def tw16055873744855604074:=0
def tw13190207930999490532:=0
def tw7241256690431981213:=0
def tw7792145162819764537:=0
def tw14520573909856653924:=0
def tw3925377848330479013:=0
def tw11345157277898777052:=0
def tw8536793521633491686:=0
def tw13977946419008696040:=0
def tw5603175741267025998:=0
def tw1728964733577301280:=0
def tw12078635601024397366:=0
def tw6224908570817895891:=0
def tw5812905416078102171:=0
def tw6295195901108129530:=0
def tw1240406433904617739:=0
def tw10364086072626345961:=0
def tw6131319938310046106:=0
def tw3512693927159013799:=0
def tw5431311549728245780:=0
def tw1296530130425704396:=0
def tw13305786196262071324:=0
def tw3563175435615100766:=0
def tw9619639343347880813:=0
def tw13072942707795406089:=0
def tw18142358129994131421:=0
def tw5898588823403804939:=0
def tw8529266864410193007:=0
def tw10738661649554152816:=0
def tw4261879508500340731:=0
def tw7307887268646752281:=0
def tw11987543163085081586:=0
def tw14840034130676974029:=0
def tw6948982532569385407:=0
def tw7087848418584493000:=0
def tw1073619516168753072:=0
def tw4331880129239595826:=0
def tw2579281048599833184:=0
def tw8165233752580069474:=0
def tw11504082115652609928:=0
def tw2732655414775918793:=0
def tw13915466308036353834:=0
def tw10176487382296628043:=0
def tw11659464353641373615:=0
def tw16820692864922870995:=0
def tw4766671350081461843:=0
def tw7539183651267324536:=0
def tw4892689571550702456:=0
def tw13401545082687965177:=0
def tw8067754365320757534:=0
def tw3650341041447987550:=0
end PySem.W.Fast
open PySem PySem.W PyProof.Rows
set_option maxRecDepth 100000 in
set_option maxHeartbeats 0 in
theorem PySem.Challenge.cw_restdraw_k61_walked_place_by_place_holds : PySem.Challenge.rw_restdraw_k61_walked_place_by_place.Holds := by
 w_on;o_law;k_head;(case hw=>w_witness2)
 k_fill
 refine Prf.walk (l:=BA) rfl rfl (λ w h Y=>PySem.W.kIn_of Y) ?F
 case F =>
  intro w mg fa h KX G hmg;refine' Prf.all_mk KX G hmg ?_;apply Prf.FxG.mk ⟨_,KX,G⟩<;>first | (refine' L2.df_mk ?a ?l ?c ?k;(case a=>k_is);(case l=>k_is);(case c=>k_is);(case k=>k_is)) | k_is
