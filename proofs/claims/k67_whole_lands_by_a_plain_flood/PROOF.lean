import PyProof.Rows.All
import Wide.All
import OpenK.AllK
import Wide.FinOn
import Lean
import PyProof.EqAt
import PyProof.EqKinds
import PyProof.TupleCall
import PySem.Challenge.RW_quartersheet_k67_whole_lands_by_a_plain
set_option Elab.async false
set_option linter.all false
set_option maxRecDepth 100000
set_option maxHeartbeats 4000000
noncomputable section
section
open PySem PySem.Spec PyProof.Rows
abbrev Ip:=@wpAny_bind
abbrev Iq:=@List.length_map
abbrev Ir:=@Heap.get?_push_of_some
abbrev Iu:=@List.mem_singleton
abbrev Iv:=@List.mem_map
abbrev Iw:=@Nat.le_refl
abbrev Ix:=@List.getElem?_eq_some_iff
abbrev Iy:=@List.length_append
abbrev Iz:=@List.mem_append
abbrev IA:=@List.mem_cons_of_mem
abbrev IB:=@wpAny_pure
abbrev IC:=@decide_eq_true
abbrev ID:=@List.mem_of_getElem?
abbrev IE:=@List.getElem?_eq_getElem
abbrev IF:=@List.mem_cons_self
abbrev IG:=@Nat.zero_le
abbrev IH:=@Heap.get?_push_size
abbrev II:=@PassesOwn.never
abbrev IJ:=@Nat.lt_of_lt_of_le
abbrev IK:=@Heap.lt_size
abbrev IL:=@Bool.false_ne_true
abbrev IM:=@List.getElem?_map
abbrev IN:=@Array.length_toList
abbrev IP:=@List.mem_cons
abbrev IQ:=@Bool.false_eq_true
abbrev IR:=@List.map_cons
abbrev IS:=@List.take_of_length_le
abbrev IT:=@List.map_append
abbrev IU:=@Nat.le_trans
abbrev IV:=@List.size_toArray
abbrev IW:=@List.mem_append_right
abbrev IX:=@Option.map_eq_some_iff
abbrev IY:=@Array.getElem?_eq_getElem
abbrev IZ:=@of_decide_eq_true
abbrev I0:=@Nat.ne_of_lt
abbrev I8:=@Option.isSome_iff_exists
abbrev I9:=@wpS_bind
abbrev I_:=@congrArg
abbrev Ja:=@List.mem_append_left
abbrev Jb:=@List.length_cons
abbrev Jc:=@List.pairwise_map
abbrev Jd:=@decide_eq_true_iff
abbrev Je:=@List.getElem?_of_mem
abbrev Jf:=@List.take_add_one
abbrev Jg:=@List.map_congr_left
abbrev Jh:=@decide_eq_false
abbrev Ji:=@List.mem_filter
abbrev Jj:=@List.getElem?_append_left
abbrev Jk:=@Heap.get?_update_other
abbrev Jl:=@List.length_take
abbrev Jm:=@List.mem_range
abbrev Jn:=@Int.toNat_natCast
abbrev Jo:=@wpS_pure
abbrev Jp:=@List.map_map
abbrev Jq:=@List.length_singleton
abbrev Jr:=@List.mem_map_of_mem
abbrev Js:=@List.getElem?_append_right
abbrev Jt:=@List.append_nil
abbrev Ju:=@List.take_append_drop
abbrev Jv:=@List.append_assoc
abbrev Jw:=@List.take_length
abbrev Jx:=@List.flatMap_append
abbrev Jy:=@wpAny_mono
abbrev Jz:=@List.eq_nil_of_length_eq_zero
abbrev JA:=@List.pairwise_iff_getElem
abbrev JB:=@List.pairwise_append
abbrev JC:=@Bool.and_eq_true
abbrev JD:=@Option.isSome_map
abbrev JE:=@List.nodup_cons
abbrev JF:=@List.nodup_append
abbrev JG:=@Nat.pow_succ
abbrev JH:=@Bool.eq_iff_iff
abbrev JI:=@List.length_pos_of_mem
abbrev JJ:=@Array.getElem?_toList
abbrev JK:=@List.pairwise_cons
abbrev JL:=@List.nil_append
abbrev JM:=@List.drop_eq_getElem_cons
abbrev JN:=@Array.toList_append
abbrev JO:=@Int.zero_add
abbrev JP:=@List.lt_irrefl
abbrev JQ:=@List.range_succ
abbrev JR:=@List.filter_cons_of_neg
abbrev JS:=@Int.natCast_mul
abbrev JT:=@Array.getD_eq_getD_getElem?
abbrev JU:=@List.mem_of_mem_take
abbrev JV:=@Nat.lt_or_ge
abbrev JW:=@Nat.le_of_lt
abbrev JX:=@List.length_drop
abbrev JY:=@Array.perm_iff_toList_perm
abbrev JZ:=@Nat.add_mul
abbrev J_:=@List.length_range
abbrev Ka:=@List.foldl_append
abbrev Kb:=@Nat.lt_irrefl
abbrev Kc:=@List.sum_cons
abbrev Kd:=@List.getElem?_eq_none_iff
abbrev Ke:=@List.getElem?_eq_none
abbrev Kf:=@List.foldl_cons
abbrev Kg:=@List.find?_cons
abbrev Kh:=@List.filter_append
abbrev Ki:=@Nat.lt_succ_self
abbrev Kj:=@Nat.pow_le_pow_right
abbrev Kk:=@Nat.ne_of_gt
abbrev Kl:=@List.take_succ
abbrev Km:=@List.nodup_nil
abbrev Kn:=@Int.toNat_of_nonneg
abbrev Ko:=@Int.le_refl
abbrev Kq:=@Nat.le_of_not_lt
abbrev Kr:=@List.length_filter_le
abbrev Ks:=@Int.le_trans
abbrev Kt:=@Int.emod_lt_of_pos
abbrev Ku:=@Nat.two_pow_pos
abbrev Kv:=@Nat.not_lt_zero
abbrev Kw:=@List.forIn_cons
abbrev Kx:=@List.ext_getElem?
abbrev Ky:=@Int.natCast_add
abbrev Kz:=@List.replicate_succ
abbrev KA:=@List.pairwise_singleton
abbrev KB:=@List.length_eq_zero_iff
abbrev KC:=@List.filter_cons_of_pos
abbrev KE:=@List.not_mem_nil
abbrev KF:=@Nat.mul_le_mul
abbrev KG:=@Nat.zero_add
abbrev KH:=@Nat.mul_comm
abbrev KI:=@Nat.le_succ
abbrev KJ:=@List.length_replicate
abbrev KL:=@Int.emod_nonneg
abbrev KM:=@Nat.mod_lt
abbrev KN:=@Nat.lt_succ_of_lt
abbrev KO:=@List.flatten_cons
abbrev KP:=@Bool.eq_false_iff
abbrev KQ:=@Nat.mul_le_mul_right
abbrev KR:=@List.mem_of_find?_eq_some
abbrev KS:=@List.mem_flatMap
abbrev KU:=@Array.toList_inj
abbrev KW:=@Nat.add_sub_cancel'
abbrev KY:=@Option.map_some
abbrev KZ:=@Nat.mul_assoc
abbrev K0:=@Nat.lt_of_le_of_lt
abbrev K1:=@Nat.div_add_mod
abbrev K2:=@Nat.add_sub_cancel_left
abbrev K3:=@List.of_mem_zip
abbrev K4:=@List.getElem?_take
abbrev K5:=@List.getElem?_replicate
abbrev K6:=@Array.forIn_toList
abbrev K7:=@Array.getElem?_eq_none
abbrev K8:=@List.getElem?_inj
abbrev K9:=@List.flatMap_cons
abbrev K_:=@List.find?_isSome
abbrev La:=@Array.toList_push
abbrev Lb:=@Nat.succ_pos
abbrev Lc:=@Nat.sub_zero
abbrev Ld:=@Nat.lt_trans
abbrev Le:=@Nat.le_of_eq
abbrev Lf:=@Nat.add_comm
abbrev Lg:=@List.mem_iff_getElem?
abbrev Lh:=@List.map_nil
abbrev Li:=@Heap.get?_update_self
abbrev Lj:=@Int.le_max_right
abbrev Lk:=@List.mem_erase_of_ne
abbrev Ll:=@List.any_cons
abbrev Lm:=@List.all_cons
abbrev Ln:=@Array.getElem?_setIfInBounds
abbrev Lo:=@Nat.min_eq_left
abbrev Lp:=@List.sum_append
abbrev Lq:=@List.filterMap_cons
abbrev Lr:=@Int.fdiv_eq_ediv_of_nonneg
abbrev Ls:=@of_decide_eq_false
abbrev Lu:=@Nat.add_zero
abbrev Lw:=@Nat.add_sub_cancel
abbrev Lx:=@List.getElem?_drop
abbrev Ly:=@Int.lt_of_lt_of_le
abbrev Lz:=@Array.toList
abbrev LA:=@List.forIn_nil
abbrev LB:=@List.drop_zero
abbrev LC:=@List.drop_take
abbrev LD:=@Int.neg_le_neg
abbrev LF:=@Heap.size_push
abbrev LG:=@Nat.lt_trichotomy
abbrev LH:=@Nat.lt_of_succ_lt
abbrev LI:=@List.take_sublist
abbrev LJ:=@List.reverse_perm
abbrev LK:=@Nat.pow_add
abbrev LL:=@Nat.one_mul
abbrev LM:=@Nat.add_assoc
abbrev LN:=@Nat.div_eq_of_lt
abbrev LP:=@List.mem_reverse
abbrev LQ:=@List.lookup_cons
abbrev LR:=@List.getElem_mem
abbrev LU:=@List.any_eq_true
abbrev LV:=@List.all_eq_true
abbrev LW:=@Int.min_le_right
abbrev LX:=@Int.min_eq_right
abbrev LY:=@Int.max_eq_right
abbrev LZ:=@Array.toList_map
abbrev L0:=@Nat.zero_mul
abbrev L1:=@Nat.sub_self
abbrev L3:=@Nat.le_antisymm
abbrev L4:=@List.prefix_rfl
abbrev L5:=@List.length_nil
abbrev L6:=@List.find?_some
abbrev L7:=@Int.min_eq_left
abbrev L8:=@Int.max_eq_left
abbrev L9:=@Int.le_of_lt
abbrev L_:=@List.take_zero
abbrev Ma:=@List.drop_drop
abbrev Mb:=@List.map_id
abbrev Mc:=@wpS_mono
abbrev Md:=@List.sum
end
namespace Tim
open PySem PyProof.Rows
variable {prog:Program}{A:Around}{E:Value->Shared->Prop}{s:Shared}{a₀:Array Keyed}{κ:SortKind}{key:Keyed->Int}
section
variable {w:World}
def eE (prog:Program)(w:World)(A:Around)(E:Value->Shared->Prop)(s:Shared)(a₀:Array Keyed)(κ:SortKind)(key:Keyed->Int):Prop :=
 ∀(x y:Keyed) (C:Bool->Shared->Prop),x∈a₀.toList->y∈a₀.toList->C (decide (key x<key y)) s->wpAny (model prog w) A (keyLt' κ x.1 y.1) C (fun _ _=>False) s
structure SB (a₀:Array Keyed)(κ:SortKind)(st:SortSt):Prop where
 perm:(arrOf st).Perm a₀
 kind:kindOf st=κ
 ok:failedOf st=none
theorem SB.size {st:SortSt}(h:SB a₀ κ st):(arrOf st).size=a₀.size:=h.perm.size_eq
theorem SB.mem {st:SortSt}(h:SB a₀ κ st)(B:x∈(arrOf st).toList):x∈a₀.toList:=(JY.mp h.perm).mem_iff.mp B
theorem SB.set {st:SortSt}(h:SB a₀ κ st)(B:xs.Perm (arrOf st)):SB a₀ κ (setArr st xs):=⟨B.trans h.perm,h.kind,h.ok⟩
def kat (key:Keyed->Int)(xs:Array Keyed)(i:Nat):Int:=match xs[i]? with
 |some p=>key p
 |none=>0
theorem gK (h:xs[i]? = ys[j]?):kat key xs i=kat key ys j:=by unfold kat;rw[h]
theorem aU (h:xs[i]? = some p):kat key xs i=key p:=by unfold kat;rw[h]
def Seg (key:Keyed->Int)(xs:Array Keyed)(lo hi:Nat):Prop:=∀i j,lo<=i->i<=j->j<hi->kat key xs i<=kat key xs j
theorem yT (L:eE prog w A E s a₀ κ key){st:SortSt}(B:kindOf st=κ)(G:x∈a₀.toList)(J:y∈a₀.toList)(h:Q (some (decide (key x<key y))) st):
  wpS (model prog w) A E s (lt' x y) Q st:=by
 rw[lt'_eq];refine I9 (wpS_get ?_);rw[B];refine I9 (wpS_lift (wpAny_attempt (Jy (L x y (fun b s'=>b=decide (key x<key y)/\s'=s) G J ⟨rfl,rfl⟩) (fun b s' O=>?_) fun _ _ e=>e.elim)));obtain⟨rfl,rfl⟩:=O;exact⟨rfl,Jo h⟩
theorem gL {st:SortSt}(hi:arr[i]? = some p)(h:Q p st):wpS (model prog w) A E s (elem' arr i) Q st:=by
 rw[elem'_eq,hi];exact Jo h
theorem jn {xs:Array Keyed}{i:Nat}{p:Keyed}(h:xs[i]? = some p):p∈xs.toList:=by
 have:p∈xs:=Array.mem_of_getElem? h
 exact Array.mem_toList_iff.mpr this
theorem mK (L:eE prog w A E s a₀ κ key){i j:Nat}{st:SortSt}{Q:Option Bool->SortSt->Prop}(B:SB a₀ κ st)(hi:i<a₀.size)(hj:j<a₀.size)(h:Q (some (decide (kat key (arrOf st) i<kat key (arrOf st) j))) st):
  wpS (model prog w) A E s (ltAt' i j) Q st:=by
 rw[ltAt'_eq];refine I9 (wpS_get ?_);have G:(arrOf st)[i]? = some ((arrOf st)[i]'(by rw[B.size];exact hi)):=IY _;have J:(arrOf st)[j]? = some ((arrOf st)[j]'(by rw[B.size];exact hj)):=IY _;refine I9 (gL G (I9 (gL J ?_)));refine yT L B.kind (B.mem (jn G)) (B.mem (jn J)) ?_;rw[aU G,aU J]at h;exact h
def ku:Bool->Keyed->Array Keyed->Nat->Nat->Nat->StateT SortSt Sem (Option Nat):=sortPriv% PySem.Builtin.gallop
def vU (left:Bool)(x:Keyed)(u:Array Keyed)(base i:Nat):StateT SortSt Sem (Option Bool):=do
 let y <-elem' u (base+i)
 if left then lt' y x else return (<-lt' x y).map (!·)
abbrev St3:=Option (Option Nat)×Nat×Nat
def za (left:Bool)(x:Keyed)(u:Array Keyed)(base n p q:Nat):StateT SortSt Sem (Option Nat):=do
 let r <-forIn [0:n] ((none,p,q):St3) fun _ r=>
  if r.2.1≥r.2.2 then pure (ForInStep.done (none,r.2.1,r.2.2)) else do
   let y <-vU left x u base (r.2.1+(r.2.2-r.2.1)/2)
   match y with
   |some more=>if more=true then pure (ForInStep.yield (none,r.2.1+(r.2.2-r.2.1)/2+1,r.2.2)) else pure (ForInStep.yield (none,r.2.1,r.2.1+(r.2.2-r.2.1)/2))
   |_=>pure (ForInStep.done (some none,r.2.1,r.2.2))
 match r.1 with
 |some v=>pure v
 |none=>pure (some r.2.2)
def Ez (left:Bool)(x:Keyed)(u:Array Keyed)(base n room:Nat)(pl:Nat->Nat)(stop:Bool->Bool):StateT SortSt Sem St3 :=
 forIn [0:n] ((none,0,1):St3) fun _ r=>
  if r.2.2≥room then pure (ForInStep.done (none,r.2.1,r.2.2)) else do
   let y <-vU left x u base (pl r.2.2)
   match y with
   |some more=>if stop more=true then pure (ForInStep.done (none,r.2.1,r.2.2)) else pure (ForInStep.yield (none,r.2.2,2*r.2.2+1))
   |_=>pure (ForInStep.done (some none,r.2.1,r.2.2))
theorem xV (left:Bool)(x:Keyed)(u:Array Keyed)(base n B:Nat):ku left x u base n B=(do
  let y <-vU left x u base B
  match y with
  |some right=>
   if right=true then do
    let r <-Ez left x u base n (n-B) (fun k=>B+k) (fun m=> !m)
    match r.1 with
    |some v=>pure v
    |none=>za left x u base n (B+r.2.1+1) (B+min r.2.2 (n-B))
   else do
    let r <-Ez left x u base n (B+1) (fun k=>B-k) (fun m=>m)
    match r.1 with
    |some v=>pure v
    |none=>za left x u base n (B+1-min r.2.2 (B+1)) (B-r.2.1)
  |_=>pure none):=by
 kernel_rfl
def bd (key:Keyed->Int)(left:Bool)(x:Keyed)(u:Array Keyed)(base i:Nat):Bool:=if left then decide (kat key u (base+i)<key x) else !decide (key x<kat key u (base+i))
theorem iL (B:Seg key u base (base+n))(G:j<=i)(hi:i<n)(h:bd key left x u base i=true):bd key left x u base j=true:=by
 have:=B (base+j) (base+i) (by simp) (by lia) (by lia)
 unfold bd at h ⊢;cases left with
 |true=>
  rw[if_pos rfl]at h ⊢;have h':=IZ h;exact IC (by lia)
 |false=>
  rw[if_neg (by decide)]at h ⊢;have h':¬ key x<kat key u (base+i):=by simpa using h
  have:¬ key x<kat key u (base+j):=by lia
  simpa using this
theorem tV (L:eE prog w A E s a₀ κ key){left:Bool}{x:Keyed}{u:Array Keyed}{base n i:Nat}{st:SortSt}{Q:Option Bool->SortSt->Prop}(G:kindOf st=κ)(J:x∈a₀.toList)(O:∀y∈u.toList,y∈a₀.toList)
  (Y:base+n<=u.size) (hi:i<n) (h:Q (some (bd key left x u base i)) st):wpS (model prog w) A E s (vU left x u base i) Q st:=by
 unfold vU;have B:u[base+i]? = some (u[base+i]'(by lia)):=IY _;refine I9 (gL B ?_);unfold bd at h;rw[aU B]at h;cases left with
 |true=>
  rw[if_pos rfl]at h ⊢;exact yT L G (O _ (jn B)) J h
 |false=>
  rw[if_neg (by decide)]at h ⊢;exact I9 (yT L G J (O _ (jn B)) (Jo h))
theorem y_ (L:eE prog w A E s a₀ κ key){st:SortSt}(hk:kindOf st=κ)(hx:x∈a₀.toList)(hu:∀y∈u.toList,y∈a₀.toList)
  (hb:base+n<=u.size) (sg:Seg key u base (base+n)) (O:p<=q) (hq:q<=n) (lo:∀i,i<p->bd key left x u base i=true) (hi:∀i,q<=i->i<n->bd key left x u base i=false)
  (h:∀k,k<=n->(∀i,i<k->bd key left x u base i=true)->(∀i,k<=i->i<n->bd key left x u base i=false)->Q (some k) st):wpS (model prog w) A E s (za left x u base n p q) Q st:=by
 unfold za;refine I9 (Mc (wpS_forRange (I:=fun t c B=>B=st/\∃p q,c=(none,p,q)/\p<=q/\q<=n/\q-p<=n-t/\(∀i,i<p->bd key left x u base i=true)/\(∀i,q<=i->i<n->bd key left x u base i=false))
  (Q:=fun c B=>B=st/\∃q,c=(none,q,q)/\q<=n/\(∀i,i<q->bd key left x u base i=true)/\(∀i,q<=i->i<n->bd key left x u base i=false)) ?step ?fin ⟨rfl,p,q,rfl,O,hq,by lia,lo,hi⟩) ?post)
 case post=>
  rintro c B ⟨rfl,q,rfl,h1,h2,Y⟩;exact Jo (h q h1 h2 Y)
 case fin=>
  rintro c B ⟨rfl,p,q,rfl,h1,h2,Y,G,J⟩;have e:p=q:=by lia
  subst e;exact⟨rfl,p,rfl,h2,G,J⟩
 case step=>
  rintro t c B _ ht ⟨rfl,p,q,rfl,h1,h2,Y,G,J⟩;dsimp only;by_cases e:p≥q
  ·rw[if_pos e];have e':p=q:=by lia
   subst e';exact Jo ⟨rfl,p,rfl,h2,G,J⟩
  ·rw[if_neg e];refine I9 (tV L hk hx hu hb (n:=n) (by lia) ?_);dsimp only;cases hm:bd key left x u base (p+(q-p)/2) with
   |true=>
    rw[if_pos rfl];exact Jo ⟨rfl,_,_,rfl,by lia,h2,by lia,fun i hi=>iL sg (by lia) (by lia) hm,J⟩
   |false=>
    rw[if_neg (by decide)];refine Jo ⟨rfl,_,_,rfl,by simp,by lia,by lia,G,fun i h6 h7=>?_⟩;cases z:bd key left x u base i with
    |false=>rfl
    |true=>rw[iL sg h6 h7 z]at hm;cases hm
theorem CA (L:eE prog w A E s a₀ κ key)(G:∀m,stop m=(m != good)){st:SortSt}(hk:kindOf st=κ)(hx:x∈a₀.toList)(hu:∀y∈u.toList,y∈a₀.toList)
  (hb:base+n<=u.size) (hr:room<=n) (Y:∀k,k<room->pl k<n) (h0:bd key left x u base (pl 0)=good) (a0:0<room)
  (h:∀B step,B<step->B<room->bd key left x u base (pl B)=good->(room<=step\/bd key left x u base (pl step) = !good)->Q (none,B,step) st):wpS (model prog w) A E s (Ez left x u base n room pl stop) Q st:=by
 unfold Ez;refine wpS_forRange (I:=fun t c J=>J=st/\∃B step,c=(none,B,step)/\B<step/\B<room/\t+1<=step/\bd key left x u base (pl B)=good) ?step ?fin ⟨rfl,0,1,rfl,by simp,a0,by simp,h0⟩
 case fin=>
  rintro c J ⟨rfl,B,step,rfl,h1,h2,h3,O⟩;exact h B step h1 h2 O (.inl (by lia))
 case step=>
  rintro t c J _ ht ⟨rfl,B,step,rfl,h1,h2,h3,O⟩;dsimp only;by_cases e:step≥room
  ·rw[if_pos e];exact Jo (h B step h1 h2 O (.inl e))
  ·rw[if_neg e];refine I9 (tV L hk hx hu hb (Y step (by lia)) ?_);dsimp only;by_cases hm:bd key left x u base (pl step)=good
   ·have e2:stop (bd key left x u base (pl step))=false:=by rw[G,hm];cases good<;>rfl
    rw[e2,if_neg (by decide)];exact Jo ⟨rfl,step,2*step+1,rfl,by lia,by lia,by lia,hm⟩
   ·have hm':bd key left x u base (pl step) = !good:=by
     cases q:bd key left x u base (pl step)<;>cases good<;>simp_all
    have e2:stop (bd key left x u base (pl step))=true:=by rw[G,hm'];cases good<;>rfl
    rw[e2,if_pos rfl];exact Jo (h B step h1 h2 O (.inr hm'))
theorem D6 (h:bd key left x u b i=true):kat key u (b+i)<=key x:=by
 unfold bd at h;cases left<;>simp at h<;>lia
theorem D7 (h:bd key left x u b i=false):key x<=kat key u (b+i):=by
 unfold bd at h;cases left<;>simp at h<;>lia
theorem kr (L:eE prog w A E s a₀ κ key){st:SortSt}(G:kindOf st=κ)(J:x∈a₀.toList)(O:∀y∈u.toList,y∈a₀.toList)
  (Y:base+n<=u.size) (hh:hint<n) (sg:Seg key u base (base+n))
  (h:∀k,k<=n->(∀t,base<=t->t<base+k->kat key u t<=key x)->(∀t,base+k<=t->t<base+n->key x<=kat key u t)->Q (some k) st):wpS (model prog w) A E s (ku left x u base n hint) Q st:=by
 rw[xV]
 replace h:∀k,k<=n->(∀i,i<k->bd key left x u base i=true)->(∀i,k<=i->i<n->bd key left x u base i=false)->Q (some k) st:=fun k a b c=>h k a (fun t t1 t2=>by
  have:=D6 (b (t-base) (by lia))
  rwa [KW t1]at this) fun t t1 t2=>by
  have:=D7 (c (t-base) (by lia) (by lia))
  rwa [KW (by lia)]at this
 have dn:∀i,i<n->bd key left x u base i=false->∀j,i<=j->j<n->bd key left x u base j=false:=fun i hi e j hj a1=>by
  cases q:bd key left x u base j with
  |false=>rfl
  |true=>rw[iL sg hj a1 q]at e;cases e
 refine I9 (tV L G J O Y hh ?_);dsimp only;cases hp:bd key left x u base hint with
 |true=>
  rw[if_pos rfl];refine I9 (CA L (by intro m;cases m<;>rfl) G J O Y (by simp) (fun k G=>by lia) hp (by lia) fun a0 step h1 h2 h3 B=>?_);dsimp only;refine y_ L G J O Y sg (by lia) (by lia) (fun i hi=>iL sg (by lia) (by lia) h3) (fun i h5 h6=>?_) h;rcases B with B | B
  ·lia
  ·by_cases h7:n-hint<=step
   ·lia
   ·exact dn (hint+step) (by lia) B i (by lia) h6
 |false=>
  rw[if_neg (by decide)];refine I9 (CA L (by intro m;cases m<;>rfl) G J O Y (by assumption) (fun k G=>by lia) hp (by simp) fun a0 step h1 h2 h3 B=>?_);dsimp only;refine y_ L G J O Y sg (by omega) (by lia) (fun i hi=>?_) (fun i h5 h6=>dn (hint-a0) (by lia) h3 i h5 h6) h;rcases B with B | B
  ·lia
  ·by_cases h7:hint+1<=step
   ·lia
   ·exact iL sg (by lia) (by lia) B
end
end Tim
set_option maxHeartbeats 4000000
namespace Tim
open PySem PyProof.Rows
variable {prog:Program}{A:Around}{E:Value->Shared->Prop}{s:Shared}{a₀:Array Keyed}{κ:SortKind}{key:Keyed->Int}
abbrev Ar:=Array Keyed
abbrev Mo:=StateT SortSt Sem
abbrev cj (st:SortSt)(g:Nat):SortSt:=SortSt.mk' (kindOf st) (arrOf st) (pendingOf st) g (failedOf st)
structure Way where
 u:Ar
 v:Ar
 kk:Keyed->Int
 pa:Nat
 pb:Nat
 T:Type->Type
 mt {R:Type}:Ar->Nat->Nat->R->T R
 un {R β:Type}:T R->(Ar->Nat->Nat->R->β)->β
 ix:Nat->Nat
 nx:Nat->Nat
 po:Nat->Nat->Nat
 ct:Nat->Nat->Nat
 ch:Ar->Nat->Nat->Ar
 gl:Bool->Keyed->Ar->Nat->Mo (Option Nat)
 sw {α:Type}:α->α->α
 bad:Ar->Nat->Nat->Ar
 ck {α:Type}:Nat->Nat->Ar->Nat->Nat->(Ar->α)->α->α
 rest:Ar->Nat->List Keyed
section
variable (W:Way)
abbrev Way.S (R:Type):=Option Ar×W.T R
def Way.st1 {R:Type}(x y:Nat)(o:Ar)(i j:Nat)(r:R)(p:Prop)[Decidable p]:Mo (ForInStep (W.S R)) :=
 W.ck x y o i j (fun z=>pure (.done (some z,W.mt o i j r))) (if p then pure (.done (none,W.mt o i j r)) else pure (.yield (none,W.mt o i j r)))
def Way.oneU (g:Nat)(o:Ar)(i j ca:Nat):Mo (ForInStep (W.S (Nat×Nat))):=do
 let x <-elem' W.u (W.ix i)
 W.st1 1 0 (o.push x) (W.nx i) j (ca+1,0) (ca+1≥g)
def Way.oneV (g:Nat)(o:Ar)(i j cb:Nat):Mo (ForInStep (W.S (Nat×Nat))):=do
 let y <-elem' W.v (W.ix j)
 W.st1 0 1 (o.push y) i (W.nx j) (0,cb+1) (cb+1≥g)
def Way.one (g:Nat)(o:Ar)(i j:Nat)(c:Nat×Nat):Mo (ForInStep (W.S (Nat×Nat))):=do
 let y <-elem' W.v (W.ix j)
 let x <-elem' W.u (W.ix i)
 let z <-lt' y x
 match z with
 |some won=>if won=true then W.sw (W.oneV g o i j c.2) (W.oneU g o i j c.1) else W.sw (W.oneU g o i j c.1) (W.oneV g o i j c.2)
 |_=>pure (.done (some (W.bad o i j),W.mt o i j c))
def Way.gE (o:Ar)(i j:Nat)(c:Nat×Nat×Nat):Mo (ForInStep (W.S (Nat×Nat×Nat))):=do
 let x <-elem' W.u (W.ix i)
 W.st1 1 0 (o.push x) (W.nx i) j c ((decide (c.2.1<7)&&decide (c.2.2<7))=true)
def Way.gM (o:Ar)(i j g ca cb:Nat):Mo (ForInStep (W.S (Nat×Nat×Nat))):=do
 let y <-elem' W.v (W.ix j)
 W.ck 0 1 (o.push y) i (W.nx j) (fun z=>pure (.done (some z,W.mt (o.push y) i (W.nx j) (g,ca,cb)))) do
  let x <-elem' W.u (W.ix i)
  let z <-W.gl true x W.v (W.nx j)
  match z with
  |some k=>
   let p:=o.push y++W.ch W.v (W.nx j) k
   let c:=(g,ca,W.ct (W.nx j) k)
   if W.ct (W.nx j) k>0 then W.ck 0 2 p i (W.po (W.nx j) k) (fun z=>pure (.done (some z,W.mt p i (W.po (W.nx j) k) c))) (W.gE p i (W.po (W.nx j) k) c) else W.gE (o.push y) i (W.nx j) c
  |_=>pure (.done (some (W.bad (o.push y) i (W.nx j)),W.mt (o.push y) i (W.nx j) (g,ca,cb)))
def Way.gT (o:Ar)(i j g ca cb:Nat):Mo (ForInStep (W.S (Nat×Nat×Nat))):=do
 modify fun st=>cj st g
 let y <-elem' W.v (W.ix j)
 let z <-W.gl false y W.u i
 match z with
 |some k=>
  let p:=o++W.ch W.u i k
  if W.ct i k>0 then W.ck 2 0 p (W.po i k) j (fun z=>pure (.done (some z,W.mt p (W.po i k) j (g,W.ct i k,cb)))) (W.gM p (W.po i k) j g (W.ct i k) cb) else W.gM o i j g (W.ct i k) cb
 |_=>pure (.done (some (W.bad o i j),W.mt o i j (g,ca,cb)))
def Way.gS (o:Ar)(i j:Nat)(c:Nat×Nat×Nat):Mo (ForInStep (W.S (Nat×Nat×Nat))):=if c.1>1 then W.gT o i j (c.1-1) c.2.1 c.2.2 else W.gT o i j c.1 c.2.1 c.2.2
def Way.round (o:Ar)(i j g:Nat):Mo (ForInStep (W.S Nat)):=do
 let q <-forIn [0:W.u.size+W.v.size] ((none,W.mt o i j (0,0)):W.S (Nat×Nat)) fun _ q=>W.un q.2 (W.one g)
 match q.1 with
 |some z=>pure (.done (some z,W.un q.2 fun o i j _=>W.mt o i j g))
 |none=>do
  liftM (rule "list.sort.gallop")
  let p <-forIn [0:W.u.size+W.v.size] ((none,W.un q.2 fun o i j c=>W.mt o i j (g+1,c)):W.S (Nat×Nat×Nat)) fun _ p=>W.un p.2 W.gS
  match p.1 with
  |some z=>pure (.done (some z,W.un p.2 fun o i j c=>W.mt o i j c.1))
  |none=>do
   modify fun st=>cj st (W.un p.2 fun _ _ _ c=>c.1+1)
   pure (.yield (none,W.un p.2 fun o i j c=>W.mt o i j (c.1+1)))
def Way.all (o:Ar)(i j:Nat):Mo Ar:=W.ck 1 1 o i j pure do
 let st <-get
 let r <-forIn [0:W.u.size+W.v.size] ((none,W.mt o i j (gallopOf st)):W.S Nat) fun _ r=>W.un r.2 W.round
 match r.1 with
 |some z=>pure z
 |none=>liftM (unsupported "internal:list.sort.merge-bound" : Sem Ar)
end
def loW (key:Keyed->Int)(u v:Ar):Way where
 u:=u
 v:=v
 kk:=key
 pa:=2
 pb:=1
 T R:=Ar×Nat×Nat×R
 mt o i j r:=(o,i,j,r)
 un t f:=f t.1 t.2.1 t.2.2.1 t.2.2.2
 ix i:=i
 nx i:=i+1
 po i k:=i+k
 ct _ k:=k
 ch a i k:=a.extract i (i+k)
 gl l x a i:=ku l x a i (a.size-i) 0
 sw a _:=a
 bad o i j:=o++u.extract i u.size++v.extract j v.size
 ck x y o i j d r :=
  let e:=o++u.extract i u.size++v.extract j v.size
  let f:=o++v.extract j v.size++u.extract i u.size
  match x,y with
  |1,0=>if (i+1==u.size)=true then d f else r
  |2,0=>if (i+1==u.size)=true then d f else if (i==u.size)=true then d e else r
  |1,1=>if (j==v.size)=true then d e else if (i+1==u.size)=true then d f else r
  |_,_=>if (j==v.size)=true then d e else r
 rest a i:=a.toList.drop i
def hiW (key:Keyed->Int)(u v:Ar):Way where
 u:=u
 v:=v
 kk x:=-key x
 pa:=1
 pb:=2
 T R:=Nat×Nat×Ar×R
 mt o i j r:=(i,j,o,r)
 un t f:=f t.2.2.1 t.1 t.2.1 t.2.2.2
 ix i:=i-1
 nx i:=i-1
 po _ k:=k
 ct i k:=i-k
 ch a i k:=(a.extract k i).reverse
 gl l x a i:=ku l x a 0 i (i-1)
 sw _ b:=b
 bad o i j:=u.extract 0 i++v.extract 0 j++o.reverse
 ck x y o i j d r :=
  let e:=u.extract 0 i++v.extract 0 j++o.reverse
  let f:=v.extract 0 j++u.extract 0 i++o.reverse
  match x,y with
  |0,1=>if (j==1)=true then d f else r
  |0,2=>if (j==1)=true then d f else if (j==0)=true then d e else r
  |1,1=>if (i==0)=true then d e else if (j==1)=true then d f else r
  |_,_=>if (i==0)=true then d e else r
 rest a i:=(a.toList.take i).reverse
def loP:Ar->Ar->Mo Ar:=sortPriv% PySem.Builtin.mergeLo
def hiP:Ar->Ar->Mo Ar:=sortPriv% PySem.Builtin.mergeHi
theorem F2 (key:Keyed->Int)(u v:Ar):loP u v=(do
  liftM (rule "list.sort.merge-lo")
  let y <-elem' v 0
  (loW key u v).all #[y] 0 1):=by
 kernel_rfl
theorem Gi (key:Keyed->Int)(u v:Ar):hiP u v=(do
  liftM (rule "list.sort.merge-hi")
  let x <-elem' u (u.size-1)
  (hiW key u v).all #[x] (u.size-1) v.size):=by
 kernel_rfl
section
variable {w:World}{kk:Keyed->Int}
abbrev Srt (key:Keyed->Int)(l:List Keyed):Prop:=l.Pairwise fun x y=>key x<=key y
theorem oY:Srt key u.toList↔Seg key u 0 u.size:=by
 constructor
 ·intro h i j _ B hj;by_cases e:i=j
  ·subst e;exact Ko _
  have G:u[i]? = some (u.toList[i]'(by simp;lia)):=by simp
  have J:u[j]? = some (u.toList[j]'(by simp;omega)):=by simp
  rw[aU G,aU J];exact JA.mp h i j (by simp;lia) (by simp;omega) (by lia)
 ·intro h;refine JA.mpr fun i j hi hj B=>?_;have hi':i<u.size:=by simpa using hi
  have hj':j<u.size:=by simpa using hj
  have G:u[i]? = some (u.toList[i]):=by simp
  have J:u[j]? = some (u.toList[j]):=by simp
  have:=h i j (IG _) (by lia) hj'
  rw[aU G,aU J]at this;exact this
theorem yt (h1:Srt key (o++m))(h2:Srt key (o++r))(J:∀x∈m,∀y∈r,key x<=key y):Srt key (o++m++r):=by
 unfold Srt at h1 h2 ⊢;rw[JB]at h1 h2 ⊢;refine⟨JB.mpr h1,h2.2.1,fun x B y G=>?_⟩;rcases Iz.mp B with B | B
 ·exact h2.2.2 x B y G
 ·exact J x B y G
def Res (key:Keyed->Int)(u v z:Array Keyed):Prop:=z.toList.Perm (u.toList++v.toList)/\Srt key z.toList
structure Pre (a₀:Array Keyed)(key:Keyed->Int)(u v:Array Keyed):Prop where
 mu:∀y∈u.toList,y∈a₀.toList
 mv:∀y∈v.toList,y∈a₀.toList
 su:Seg key u 0 u.size
 sv:Seg key v 0 v.size
 hu:1<=u.size
 hv:1<=v.size
 first:kat key v 0<=kat key u 0
 last:kat key v (v.size-1)<=kat key u (u.size-1)
structure MI (kk:Keyed->Int)(n o a b:List Keyed):Prop where
 perm:(o++(a++b)).Perm n
 sa:Srt kk (o++a)
 sb:Srt kk (o++b)
theorem MI.sw (h:MI kk n o a b):MI kk n o b a:=⟨(List.Perm.append_left _ List.perm_append_comm).trans h.perm,h.sb,h.sa⟩
theorem MI.take (h:MI kk n o (t++a) b)(B:∀x∈t,∀y∈b,kk x<=kk y):MI kk n (o++t) a b:=by
 have q:=h.sa;rw[<-Jv]at q;exact⟨by simpa using h.perm,q,yt (JB.mp q).1 h.sb B⟩
theorem MI.done (h:MI kk n o a b)(B:∀x∈a,∀y∈b,kk x<=kk y):(o++a++b).Perm n/\Srt kk (o++a++b):=⟨by simpa using h.perm,yt h.sa h.sb B⟩
theorem ma (h:Srt kk (o++y::b)):∀q∈y::b,kk y<=kk q:=fun q B=>by
 rcases IP.mp B with rfl|B
 ·exact Ko _
 ·exact (JK.mp (JB.mp h).2.1).1 q B
structure Lv (W:Way)(x y:Nat)(o:Ar)(i j:Nat):Prop where
 m:MI W.kk (W.u.toList++W.v.toList) o.toList (W.rest W.u i) (W.rest W.v j)
 hi:i<=W.u.size
 hj:j<=W.v.size
 la:W.pa<=(W.rest W.u i).length+x
 lb:W.pb<=(W.rest W.v j).length+y
structure Da (prog:Program)(w:World)(A:Around)(E:Value->Shared->Prop)(s:Shared)(a₀:Array Keyed)(κ:SortKind)(key:Keyed->Int)(W:Way):Prop where
 P:Pre a₀ key W.u W.v
 pa:1<=W.pa/\W.pa<=2
 pb:1<=W.pb/\W.pb<=2
 un {R β:Type} (o:Ar) (i j:Nat) (r:R) (f:Ar->Nat->Nat->R->β):W.un (W.mt o i j r) f=f o i j r
 pick {α:Type} (P:α->Prop) (x y:Keyed) (p q:α):(W.kk x<=W.kk y->P p)->(W.kk y<=W.kk x->P q)->P (if decide (key y<key x)=true then W.sw q p else W.sw p q)
 head (a:Ar) (i:Nat):1<=(W.rest a i).length->i<=a.size->∃x,a[W.ix i]? = some x/\W.rest a i=x::W.rest a (W.nx i)/\W.nx i<=a.size
 gal (a:Ar) (i:Nat) (left:Bool) (x:Keyed) (Q:Option Nat->SortSt->Prop) (st:SortSt):kindOf st=κ->x∈a₀.toList->(∀y∈a.toList,y∈a₀.toList)->Seg key a 0 a.size->1<=(W.rest a i).length->i<=a.size ->
  (∀k,W.rest a i=(W.ch a i k).toList++W.rest a (W.po i k)->W.ct i k=(W.ch a i k).size->W.po i k<=a.size->(∀y∈(W.ch a i k).toList,W.kk y<=W.kk x)->(∀y∈W.rest a (W.po i k),W.kk x<=W.kk y)->Q (some k) st)->wpS (model prog w) A E s (W.gl left x a i) Q st
 ck {α:Type} (P:α->Prop) (x y:Nat) (o:Ar) (i j:Nat) (d:Ar->α) (r:α):x+y<=2->Lv W x y o i j->(∀z,Res key W.u W.v z->P (d z))->(Lv W 0 0 o i j->P r)->P (W.ck x y o i j d r)
section
variable {W:Way}(K:Da prog w A E s a₀ κ key W){o:Ar}{i j x y:Nat}
include K
theorem Lv.u (l:Lv W 0 y o i j):∃e,W.u[W.ix i]? = some e/\W.rest W.u i=e::W.rest W.u (W.nx i)/\((∀q∈W.rest W.v j,W.kk e<=W.kk q)->Lv W 1 y (o.push e) (W.nx i) j):=by
 have B:=l.la;obtain⟨e,J,G,O⟩:=K.head W.u i (by have:=K.pa;lia) l.hi;have m:=l.m;rw[G]at m B;exact⟨e,J,G,fun h=>⟨by rw[La];exact MI.take m (by simpa using h),O,l.hj,B,l.lb⟩⟩
theorem Lv.v (l:Lv W x 0 o i j):∃e,W.v[W.ix j]? = some e/\W.rest W.v j=e::W.rest W.v (W.nx j)/\((∀q∈W.rest W.u i,W.kk e<=W.kk q)->Lv W x 1 (o.push e) i (W.nx j)):=by
 have lb:=l.lb;obtain⟨e,G,B,J⟩:=K.head W.v j (by have:=K.pb;lia) l.hj;have m:=l.m.sw;rw[B]at m lb;exact⟨e,G,B,fun h=>⟨by rw[La];exact (MI.take m (by simpa using h)).sw,l.hi,J,l.la,lb⟩⟩
theorem Lv.len (l:Lv W 0 0 o i j):o.size<W.u.size+W.v.size:=by
 have:=l.m.perm.length_eq
 have:=l.la
 have:=K.pa
 simp only[Iy,IN]at *
 lia
theorem xf {R:Type}{st:SortSt}{r:R}{p:Prop}[Decidable p]{Q:ForInStep (W.S R)->SortSt->Prop}(l:Lv W x y o i j)(h:x+y<=2)(J:∀z t,Res key W.u W.v z->Q (.done (some z,t)) st)
  (B:Lv W 0 0 o i j->Q (.done (none,W.mt o i j r)) st/\Q (.yield (none,W.mt o i j r)) st):wpS (model prog w) A E s (W.st1 x y o i j r p) Q st :=
 K.ck (fun m=>wpS (model prog w) A E s m Q st) _ _ _ _ _ _ _ h l (fun z hz=>Jo (J z _ hz)) fun G=>by
  split
  ·exact Jo (B G).1
  ·exact Jo (B G).2
theorem FV (L:eE prog w A E s a₀ κ key){g:Nat}{c:Nat×Nat}{st:SortSt}{Q:ForInStep (W.S (Nat×Nat))->SortSt->Prop}(hk:kindOf st=κ)(l:Lv W 0 0 o i j)(Y:∀z t,Res key W.u W.v z->Q (.done (some z,t)) st)
  (hn:∀o' i' j' c',Lv W 0 0 o' i' j'->o.size<o'.size->Q (.done (none,W.mt o' i' j' c')) st/\Q (.yield (none,W.mt o' i' j' c')) st):wpS (model prog w) A E s (W.one g o i j c) Q st:=by
 obtain⟨x,B,r2,U⟩:=l.u K;obtain⟨y,G,r1,V⟩:=l.v K;refine I9 (gL G (I9 (gL B (I9 (yT L hk (K.P.mv _ (jn G)) (K.P.mu _ (jn B)) ?_)))));refine K.pick (fun m=>wpS (model prog w) A E s m Q st) x y _ _ (fun h=>I9 (gL B (xf K (U ?_) (by decide) Y fun J=>hn _ _ _ _ J (by simp)))) fun h=>I9 (gL G (xf K (V ?_) (by decide) Y fun J=>hn _ _ _ _ J (by simp)))
 ·have b:=l.m.sb;rw[r1]at b ⊢;exact fun q O=>Ks h (ma b q O)
 ·have b:=l.m.sa;rw[r2]at b ⊢;exact fun q O=>Ks h (ma b q O)
theorem E_ {c:Nat×Nat×Nat}{n:Nat}{st:SortSt}{Q:ForInStep (W.S (Nat×Nat×Nat))->SortSt->Prop}(l:Lv W 0 0 o i j)(G:∀e,W.u[W.ix i]? = some e->∀q∈W.rest W.v j,W.kk e<=W.kk q)(hs:n<=o.size)(J:∀z t,Res key W.u W.v z->Q (.done (some z,t)) st)
  (O:∀o' i' j' c',Lv W 0 0 o' i' j'->n<o'.size->Q (.done (none,W.mt o' i' j' c')) st/\Q (.yield (none,W.mt o' i' j' c')) st):wpS (model prog w) A E s (W.gE o i j c) Q st:=by
 obtain⟨x,B,r2,U⟩:=l.u K;exact I9 (gL B (xf K (U (G x B)) (by decide) J fun Y=>O _ _ _ _ Y (by simp;lia)))
theorem E9 {st:SortSt}(hk:kindOf st=κ)(l:Lv W 0 0 o i j)(hx:∀e,W.v[W.ix j]? = some e->∀q∈W.rest W.u i,W.kk e<=W.kk q)(hs:n<=o.size)(G:∀z t,Res key W.u W.v z->Q (.done (some z,t)) st)
  (Y:∀o' i' j' c',Lv W 0 0 o' i' j'->n<o'.size->Q (.done (none,W.mt o' i' j' c')) st/\Q (.yield (none,W.mt o' i' j' c')) st):wpS (model prog w) A E s (W.gM o i j g ca cb) Q st:=by
 obtain⟨y,e1,r1,V⟩:=l.v K;refine I9 (gL e1 (K.ck (fun m=>wpS (model prog w) A E s m Q st) _ _ _ _ _ _ _ (by decide) (V (hx y e1)) (fun z hz=>Jo (G z _ hz)) fun B=>?_));obtain⟨x,J,r2,U⟩:=B.u K;refine I9 (gL J (I9 (K.gal W.v _ true x _ st hk (K.P.mu _ (jn J)) K.P.mv K.P.sv (by have:=B.lb;have:=K.pb;lia) B.hj fun k O k2 k3 k4 k5=>?_)));have fx:∀e,W.u[W.ix i]? = some e->∀q∈W.rest W.v (W.po (W.nx j) k),W.kk e<=W.kk q:=fun e he=>by
  rw[J]at he;cases he;exact k5
 dsimp only;by_cases c:W.ct (W.nx j) k>0
 ·rw[if_pos c];have m:=B.m.sw;have a:=B.m.sa;rw[O]at m;refine K.ck (fun m=>wpS (model prog w) A E s m Q st) _ _ _ _ _ _ _ (by decide) ⟨?_,B.hi,k3,B.la,by have:=K.pb;lia⟩ (fun z hz=>Jo (G z _ hz)) fun l2=>E_ K l2 fx (by simp;lia) G Y;rw[JN];refine (m.take fun p hp q hq=>?_).sw;rw[r2]at a hq;exact Ks (k4 p hp) (ma a q hq)
 ·rw[if_neg c];have z:(W.ch W.v (W.nx j) k).toList=[]:=KB.mp (by rw[IN];lia);rw[z]at O;exact E_ K B (by rw[O];exact fx) (by simp;lia) G Y
theorem Ho {st:SortSt}(B:kindOf st=κ)(l:Lv W 0 0 o i j)(G:∀z t,Res key W.u W.v z->Q (.done (some z,t)) (cj st g))
  (Y:∀o' i' j' c',Lv W 0 0 o' i' j'->o.size<o'.size->Q (.done (none,W.mt o' i' j' c')) (cj st g)/\Q (.yield (none,W.mt o' i' j' c')) (cj st g)):wpS (model prog w) A E s (W.gT o i j g ca cb) Q st:=by
 obtain⟨y,J,r1,V⟩:=l.v K;refine I9 (wpS_modify (I9 (gL J (I9 (K.gal W.u _ false y _ _ B (K.P.mv _ (jn J)) K.P.mu K.P.su (by have:=l.la;have:=K.pa;lia) l.hi fun k O k2 k3 k4 k5=>?_)))));have fx:∀e,W.v[W.ix j]? = some e->∀q∈W.rest W.u (W.po i k),W.kk e<=W.kk q:=fun e he=>by
  rw[J]at he;cases he;exact k5
 dsimp only;by_cases c:W.ct i k>0
 ·rw[if_pos c];have m:=l.m;have b:=l.m.sb;rw[O]at m;refine K.ck (fun m=>wpS (model prog w) A E s m Q (cj st g)) _ _ _ _ _ _ _ (by decide) ⟨?_,k3,l.hj,by have:=K.pa;lia,l.lb⟩ (fun z hz=>Jo (G z _ hz)) fun l2=>E9 K (st:=cj st g) B l2 fx (by simp) G Y;rw[JN];refine m.take fun p hp q hq=>?_;rw[r1]at b hq;exact Ks (k4 p hp) (ma b q hq)
 ·rw[if_neg c];have z:(W.ch W.u i k).toList=[]:=KB.mp (by rw[IN];lia);rw[z]at O;exact E9 K (st:=cj st g) B l (by rw[O];exact fx) (Iw _) G Y
theorem Bs (L:eE prog w A E s a₀ κ key){st:SortSt}(hk:kindOf st=κ)(l:Lv W 0 0 o i j)(hd:∀z t g',Res key W.u W.v z->Q (.done (some z,t)) (cj st g'))
  (hn:∀o' O Y c' g',Lv W 0 0 o' O Y->o.size<o'.size->Q (.yield (none,W.mt o' O Y c')) (cj st g')):wpS (model prog w) A E s (W.round o i j g) Q st:=by
 refine I9 (Mc (wpS_forRange (I:=fun t c B=>B=st/\∃o' O Y b,c=(none,W.mt o' O Y b)/\Lv W 0 0 o' O Y/\o.size+t<=o'.size)
  (Q:=fun c B=>B=st/\((∃z r,c=(some z,r)/\Res key W.u W.v z)\/∃o' O Y b,c=(none,W.mt o' O Y b)/\Lv W 0 0 o' O Y/\o.size<o'.size)) ?step ?fin ⟨rfl,o,i,j,_,rfl,l,by simp⟩) ?post)
 case fin=>
  rintro c B ⟨rfl,o',O,Y,b,rfl,l',h3⟩
  have:=l'.len K
  lia
 case step=>
  rintro t c B _ ht ⟨rfl,o',O,Y,b,rfl,l',h3⟩;dsimp only;rw[K.un];exact FV K L hk l' (fun z r hz=>⟨rfl,.inl ⟨z,r,rfl,hz⟩⟩) fun J i2 j2 b2 l2 g3=>⟨⟨rfl,.inr ⟨J,i2,j2,b2,rfl,l2,by lia⟩⟩,rfl,J,i2,j2,b2,rfl,l2,by lia⟩
 case post=>
  rintro c B ⟨rfl,h⟩;rcases h with⟨z,r,rfl,hz⟩ | ⟨o',O,Y,b,rfl,l',h3⟩
  ·exact Jo (hd z _ (gallopOf B) hz)
  ·dsimp only;rw[K.un];refine I9 (wpS_lift (wpAny_rule ⟨rfl,?_⟩));refine I9 (Mc (wpS_forRange (I:=fun t c G=>∃g',G=cj B g'/\∃J i2 j2 b,c=(none,W.mt J i2 j2 b)/\Lv W 0 0 J i2 j2/\o'.size+t<=J.size)
    (Q:=fun c G=>∃g',G=cj B g'/\((∃z r,c=(some z,r)/\Res key W.u W.v z)\/∃J i2 j2 b,c=(none,W.mt J i2 j2 b)/\Lv W 0 0 J i2 j2/\o.size<J.size)) ?gstep ?gfin ⟨gallopOf B,rfl,o',O,Y,_,rfl,l',by simp⟩) ?gpost)
   case gfin=>
    rintro c G ⟨g',rfl,J,i2,j2,b,rfl,l2,q3⟩
    have:=l2.len K
    lia
   case gstep=>
    rintro t c G _ ht ⟨g',rfl,J,i2,j2,b,rfl,l2,q3⟩;dsimp only;rw[K.un];unfold Way.gS
    split<;>exact Ho K (st:=cj B g') hk l2 (fun z r hz=>⟨_,rfl,.inl ⟨z,r,rfl,hz⟩⟩) fun o3 i3 j3 b3 l3 k3=>⟨⟨_,rfl,.inr ⟨o3,i3,j3,b3,rfl,l3,by lia⟩⟩,_,rfl,o3,i3,j3,b3,rfl,l3,by lia⟩
   case gpost=>
    rintro c G ⟨g',rfl,h⟩;rcases h with⟨z,r,rfl,hz⟩ | ⟨J,i2,j2,b,rfl,l2,q3⟩
    ·exact Jo (hd z _ g' hz)
    ·dsimp only;rw[K.un,K.un];exact I9 (wpS_modify (Jo (hn J i2 j2 _ _ l2 q3)))
theorem C8 (L:eE prog w A E s a₀ κ key){st:SortSt}(O:kindOf st=κ)(l:Lv W 1 1 o i j)(J:∀z g',Res key W.u W.v z->Q z (cj st g')):wpS (model prog w) A E s (W.all o i j) Q st:=by
 refine K.ck (fun m=>wpS (model prog w) A E s m Q st) _ _ _ _ _ _ _ (by decide) l (fun z hz=>Jo (J z (gallopOf st) hz)) fun l=>?_;refine I9 (wpS_get (I9 (Mc (wpS_forRange (I:=fun t c B=>∃g',B=cj st g'/\∃o i j g,c=(none,W.mt o i j g)/\Lv W 0 0 o i j/\t<=o.size)
  (Q:=fun c B=>∃g',B=cj st g'/\∃z r,c=(some z,r)/\Res key W.u W.v z) ?step ?fin ⟨gallopOf st,rfl,o,i,j,_,rfl,l,by simp⟩) ?post)))
 case fin=>
  rintro c B ⟨g',rfl,o,i,j,g,rfl,l,Y⟩
  have:=l.len K
  lia
 case step=>
  rintro t c B _ ht ⟨g',rfl,o,i,j,g,rfl,l,Y⟩;dsimp only;rw[K.un];exact Bs K L (st:=cj st g') O l (fun z r G hz=>⟨G,rfl,z,r,rfl,hz⟩) fun o2 i2 j2 G g3 l2 q3=>⟨g3,rfl,o2,i2,j2,G,rfl,l2,by lia⟩
 case post=>
  rintro c B ⟨g',rfl,z,r,rfl,hz⟩;exact Jo (J z g' hz)
end
end
section
variable {w:World}
theorem cJ (u:Array Keyed)(k i:Nat):(u.extract k i).toList=(u.toList.take i).drop k:=by
 rw[Array.toList_extract,List.extract_eq_take_drop,LC]
theorem ug {u:Array Keyed}{i k:Nat}{y:Keyed}(h:y∈(u.toList.take i).drop k):∃t,k<=t/\t<i/\t<u.size/\u[t]? = some y:=by
 obtain⟨t,B,e⟩:=List.getElem_of_mem h;rw[JX,Jl,IN]at B;rw[List.getElem_drop,List.getElem_take]at e;refine⟨k+t,by simp,by lia,by lia,?_⟩;rw[<-e,Array.getElem_toList];exact IY _
theorem fm {u:Array Keyed}{k i:Nat}{y:Keyed}(C:Int->Prop)(h:y∈(u.toList.take i).drop k)(g:∀t,k<=t->t<i->t<u.size->C (kat key u t)):C (key y):=by
 obtain⟨t,B,G,J,O⟩:=ug h
 have:=g t B G J
 rwa [aU O]at this
theorem F1 (L:eE prog w A E s a₀ κ key)(P:Pre a₀ key u v):Da prog w A E s a₀ κ key (loW key u v) where
 P:=P
 pa:=⟨KI 1,Iw 2⟩
 pb:=⟨Iw 1,KI 1⟩
 un _ _ _ _ _:=rfl
 pick P x y p q h1 h2:=by
  by_cases c:key y<key x
  ·rw[if_pos (IC c)];exact h2 (L9 c)
  ·rw[if_neg (by simpa using c)];exact h1 (Int.not_lt.mp c)
 head a i h hi:=by
  have h':i<a.size:=by simp[loW]at h;lia
  exact⟨a[i],IY h',JM (l:=a.toList) (by simpa using h'),h'⟩
 gal a i left x Q st hk G ha sg h hi hq:=by
  have h':i<a.size:=by simp[loW]at h;lia
  have et:=(IS (show a.toList.length<=a.size by simp)).symm;refine kr L hk G ha (by lia) (by lia) (fun p q a b c=>sg p q (by simp) b (by lia)) fun k k1 k2 k3=>hq k ?_ ?_ (show i+k<=_ by lia) (fun y B=>?_) fun y B=>?_
  ·show a.toList.drop i=(a.extract i (i+k)).toList++a.toList.drop (i+k);rw[cJ,LC,K2,<-Ma,Ju]
  ·show k=(a.extract i (i+k)).size;simp;lia
  ·have B:y∈(a.extract i (i+k)).toList:=B;rw[cJ]at B;exact fm (· <= key x) B fun t J O Y=>k2 t J O
  ·have B:y∈a.toList.drop (i+k):=B;rw[et]at B;exact fm (key x <= ·) B fun t J O Y=>k3 t J (by lia)
 ck {α} R x y o i j d r hxy l hd hr:=by
  have la:2<=(u.toList.drop i).length+x:=l.la;have lb:1<=(v.toList.drop j).length+y:=l.lb;have hi:i<=u.size:=l.hi;have hj:j<=v.size:=l.hj;have m:MI key (u.toList++v.toList) o.toList (u.toList.drop i) (v.toList.drop j):=l.m;have ex:∀(a:Ar) i,(a.extract i a.size).toList=a.toList.drop i:=fun a i=>by rw[cJ,IS (by simp)]
  simp only[JX,IN]at la lb;have f1:i=u.size\/j=v.size->R (d (o++u.extract i u.size++v.extract j v.size)):=fun h=>hd _ (by
   show _/\_;rw[JN,JN,ex,ex];refine m.done fun x G y B=>?_
   have:=JI G
   have:=JI B
   simp only[JX,IN]at *
   lia)
  have f2:i+1=u.size->R (d (o++v.extract j v.size++u.extract i u.size)):=fun h=>hd _ (by
   show _/\_;rw[JN,JN,ex,ex];refine m.sw.done fun x G y B=>?_;rw[<-ex,cJ]at G B;refine fm (· <= key y) G fun t J O Y=>fm (kat key v t <= ·) B fun p p1 p2 p3=>?_
   have:=P.sv t (v.size-1) (IG _) (by lia) (by lia)
   have:=P.last
   rw[show p=u.size-1 by lia]
   lia)
  have f3:2<=u.size-i->1<=v.size-j->R r:=fun h1 h2=>hr ⟨m,hi,hj,by simpa[loW] using h1,by simpa[loW] using h2⟩;dsimp only[loW]
  split<;>repeat' split
  all_goals simp only[beq_iff_eq]at *
  all_goals first
   |exact f1 (by lia)
   |exact f2 (by lia)
   |exact f3 (by lia) (by lia)
theorem Gh (L:eE prog w A E s a₀ κ key)(P:Pre a₀ key u v):Da prog w A E s a₀ κ key (hiW key u v) where
 P:=P
 pa:=⟨Iw 1,KI 1⟩
 pb:=⟨KI 1,Iw 2⟩
 un _ _ _ _ _:=rfl
 pick P x y p q h1 h2:=by
  by_cases c:key y<key x
  ·rw[if_pos (IC c)];exact h1 (LD (L9 c))
  ·rw[if_neg (by simpa using c)];exact h2 (LD (Int.not_lt.mp c))
 head a i h hi:=by
  have h':1<=i:=by simp[hiW]at h;lia
  refine⟨a[i-1],IY _,?_,IU (Nat.sub_le _ _) hi⟩;show (a.toList.take i).reverse=a[i-1]::(a.toList.take (i-1)).reverse
  have:=List.take_succ_eq_append_getElem (l:=a.toList) (i:=i-1) (by simp;lia)
  rw[show i-1+1=i by lia]at this;rw[this];simp
 gal a i left x Q st hk G ha sg h hi hq:=by
  have h':1<=i:=by simp[hiW]at h;lia
  refine kr L hk G ha (by lia) (by lia) (fun p q a b c=>sg p q a b (by lia)) fun k O k2 k3=>hq k ?_ ?_ (show k<=_ by lia) (fun y B=>?_) fun y B=>?_
  ·show (a.toList.take i).reverse=(a.extract k i).reverse.toList++(a.toList.take k).reverse;rw[Array.toList_reverse,cJ,<-List.reverse_append,<-Lo O,<-List.take_take,Lo O,Ju]
  ·show i-k=(a.extract k i).reverse.size;simp;lia
  ·have B:y∈(a.extract k i).reverse.toList:=B;rw[Array.toList_reverse,LP,cJ]at B;exact fm (fun c=>-c<=-key x) B fun t J Y t3=>LD (k3 t (by lia) (by lia))
  ·have B:y∈(a.toList.take k).reverse:=B;rw[LP,<-LB (l:=a.toList.take k)]at B;exact fm (fun c=>-key x<=-c) B fun t J Y t3=>LD (k2 t J (by lia))
 ck {α} R x y o i j d r hxy l hd hr:=by
  have la:1<=(u.toList.take i).reverse.length+x:=l.la;have lb:2<=(v.toList.take j).reverse.length+y:=l.lb;have hi:i<=u.size:=l.hi;have hj:j<=v.size:=l.hj;have m:MI (fun x=>-key x) (u.toList++v.toList) o.toList (u.toList.take i).reverse (v.toList.take j).reverse:=l.m;simp only[List.length_reverse,Jl,IN]at la lb;have rs:∀(z:Ar) (l:List Keyed),z.toList=l.reverse->l.Perm (u.toList++v.toList)/\Srt (fun x=>-key x) l->R (d z):=fun z l e h=>hd _ ⟨by rw[e];exact (LJ _).trans h.1,by rw[e];exact List.pairwise_reverse.mpr (h.2.imp fun g=>by lia)⟩;have f1:i=0\/j=0->R (d (u.extract 0 i++v.extract 0 j++o.reverse)):=fun h=>rs _ _ (by simp[cJ]) (m.sw.done fun x G y B=>by
   have:=JI G
   have:=JI B
   simp only[List.length_reverse,Jl]at *
   lia)
  have f2:j=1->R (d (v.extract 0 j++u.extract 0 i++o.reverse)):=fun h=>rs _ _ (by simp[cJ]) (m.done fun x G y B=>by
   rw[LP,<-LB (l:=List.take _ _)]at G B;refine fm (fun c=>-c<=-key y) G fun t J Y t3=>fm (fun c=>-kat key u t<=-c) B fun p p1 p2 p3=>?_
   have:=P.su 0 t (IG _) (by lia) (by lia)
   have:=P.first
   rw[show p=0 by lia]
   lia)
  have f3:1<=i->2<=j->R r:=fun h1 h2=>hr ⟨m,hi,hj,by simp[hiW];lia,by simp[hiW];lia⟩;dsimp only[hiW]
  split<;>repeat' split
  all_goals simp only[beq_iff_eq]at *
  all_goals first
   |exact f1 (by lia)
   |exact f2 (by lia)
   |exact f3 (by lia) (by lia)
theorem G_ (L:eE prog w A E s a₀ κ key){st:SortSt}(G:kindOf st=κ)(P:Pre a₀ key u v)(J:∀z g',Res key u v z->Q z (cj st g')):wpS (model prog w) A E s (loP u v) Q st:=by
 rw[F2 key];refine I9 (wpS_lift (wpAny_rule ⟨rfl,?_⟩));have K:=F1 L P;have hu:=P.hu;have O:=P.hv;have Y:=oY.mpr P.su;obtain⟨e,B,_,V⟩:=Lv.v K (x:=1) (o := #[]) (i:=0) (j:=0) ⟨⟨List.Perm.refl _,Y,oY.mpr P.sv⟩,IG _,IG _,by simp[loW];lia,by simpa[loW] using O⟩;refine I9 (gL B (C8 K L G (V fun q hq=>?_) J));have f:=P.first;rw[aU (show v[0]? = some e from B)]at f;refine fm (u:=u) (k:=0) (i:=u.size) (key e <= ·) (by rw[IS (by simp)];exact hq) fun t t1 t2 t3=>?_
 have:kat key u 0<=kat key u t:=P.su 0 t (Iw _) t1 t2
 show key e<=kat key u t
 lia
theorem Hl (L:eE prog w A E s a₀ κ key){st:SortSt}(J:kindOf st=κ)(P:Pre a₀ key u v)(O:∀z g',Res key u v z->Q z (cj st g')):wpS (model prog w) A E s (hiP u v) Q st:=by
 rw[Gi key];refine I9 (wpS_lift (wpAny_rule ⟨rfl,?_⟩));have K:=Gh L P;have Y:=P.hu;have hv:=P.hv;have tk:∀a:Ar,(a.toList.take a.size).reverse=a.toList.reverse:=fun a=>by rw[IS (by simp)]
 have B:∀a:Ar,Seg key a 0 a.size->Srt (fun x=>-key x) (a.toList.take a.size).reverse:=fun a h=>by
  rw[tk];exact List.pairwise_reverse.mpr ((oY.mpr h).imp fun g=>by lia)
 obtain⟨e,G,_,V⟩:=Lv.u K (y:=1) (o := #[]) (i:=u.size) (j:=v.size) ⟨⟨by simp only[hiW,tk];exact (LJ _).append (LJ _),B u P.su,B v P.sv⟩,Iw _,Iw _,by simpa[hiW] using Y,by simp[hiW];lia⟩;refine I9 (gL G (C8 K L J (V fun q hq=>?_) O));have f:=P.last;rw[aU (show u[u.size-1]? = some e from G)]at f;refine fm (u:=v) (k:=0) (i:=v.size) (fun c=>-key e<=-c) (by simpa[hiW] using hq) fun t t1 t2 t3=>?_
 have:=P.sv t (v.size-1) t1 (by lia) (by lia)
 lia
end
section
variable {w:World}
abbrev Sa:=Option (Option Nat)×Nat
abbrev Sd:=Option (Option Nat)×Nat×Nat
def yD (lo a n:Nat):StateT SortSt Sem Sa :=
 forIn [a:n] ((none,a):Sa) fun _ r=>do
  let z <-ltAt' (lo+r.2) (lo+r.2-1)
  match z with
  |some less=>if less=true then pure (.done (none,r.2)) else pure (.yield (none,r.2+1))
  |_=>pure (.done (some none,r.2))
def CB (lo a n:Nat):StateT SortSt Sem Sd :=
 forIn [a:n] ((none,a,0):Sd) fun _ r=>do
  let z <-ltAt' (lo+r.2.1) (lo+r.2.1-1)
  match z with
  |some less=>
   if less=true then
    if r.2.2>0 then do
     reverseSlice' (lo+r.2.1-(r.2.2+1)) (lo+r.2.1)
     pure (.yield (none,r.2.1+1,0))
    else pure (.yield (none,r.2.1+1,0))
   else do
    let y <-ltAt' (lo+r.2.1-1) (lo+r.2.1)
    match y with
    |some more=>if more=true then pure (.done (none,r.2.1,r.2.2)) else pure (.yield (none,r.2.1+1,r.2.2+1))
    |_=>pure (.done (some none,r.2.1,r.2.2))
  |_=>pure (.done (some none,r.2.1,r.2.2))
def o_ (lo m n:Nat):StateT SortSt Sem (Option Nat):=do
 reverseSlice' lo (lo+m)
 let r <-yD lo m n
 match r.1 with
 |some v=>pure v
 |none=>pure (some r.2)
def mS (lo m n:Nat):StateT SortSt Sem (Option Nat):=do
 liftM (rule "list.sort.descending-run")
 let r <-CB lo (m+1) n
 match r.1 with
 |some v=>pure v
 |none=>
  if r.2.2>0 then do
   reverseSlice' (lo+r.2.1-(r.2.2+1)) (lo+r.2.1)
   o_ lo r.2.1 n
  else o_ lo r.2.1 n
theorem Fx (lo n:Nat):countRun' lo n=(do
  let r <-yD lo 1 n
  match r.1 with
  |some v=>pure v
  |none=>
   if (r.2==n)=true then pure (some r.2)
   else if r.2>1 then do
    let z <-ltAt' lo (lo+r.2-1)
    match z with
    |some up=>if up=true then pure (some r.2) else do
      reverseSlice' lo (lo+r.2)
      mS lo r.2 n
    |_=>pure none
   else mS lo r.2 n):=by
 kernel_rfl
def Fal (key:Keyed->Int)(xs:Array Keyed)(lo hi:Nat):Prop:=∀i j,lo<=i->i<=j->j<hi->kat key xs j<=kat key xs i
def Off (xs ys:Array Keyed)(lo hi:Nat):Prop:=∀t,(t<lo\/hi<=t)->ys[t]? = xs[t]?
theorem Off.refl (xs:Array Keyed)(lo hi:Nat):Off xs xs lo hi:=fun _ _=>rfl
theorem Off.trans {lo hi:Nat}(h:Off xs ys lo hi)(g:Off ys zs lo hi):Off xs zs lo hi:=fun t B=>(g t B).trans (h t B)
theorem uG (hj:j<=xs.size)(k:Nat):kat key (mirror xs i j ((j-i)/2)) k=if i<=k/\k<j then kat key xs (i+j-1-k) else kat key xs k:=by
 have e:=getElem?_mirror_all (i:=i) hj k;by_cases h1:i<=k/\k<j
 ·rw[if_pos h1]at e ⊢;exact gK e
 ·rw[if_neg h1]at e ⊢;exact gK e
theorem ph {i j lo hi:Nat}(hj:j<=xs.size)(h1:lo<=i)(h2:j<=hi):Off xs (mirror xs i j ((j-i)/2)) lo hi:=fun t B=>by
 rw[getElem?_mirror_all hj,if_neg (by lia)]
theorem d0 (hj:j<=xs.size)(B:∀k,i<=k->k<j->kat key xs k=kat key xs (j-1))(k:Nat):kat key (mirror xs i j ((j-i)/2)) k=kat key xs k:=by
 rw[uG hj]
 split
 ·rw[B _ (by lia) (by lia),B k (by lia) (by lia)]
 ·rfl
theorem tQ {st:SortSt}(h:Q () (setArr st (mirror (arrOf st) i j ((j-i)/2)))):wpS (model prog w) A E s (reverseSlice' i j) Q st:=by
 rw[reverseSlice'_eq];exact wpS_modify h
theorem yC (L:eE prog w A E s a₀ κ key){lo a n:Nat}{st:SortSt}(O:SB a₀ κ st)(hz:lo+n<=a₀.size)(h1:1<=a)(J:a<=n)(Y:Seg key (arrOf st) lo (lo+a))
  (h:∀m,a<=m->m<=n->Seg key (arrOf st) lo (lo+m)->(m=n\/kat key (arrOf st) (lo+m)<kat key (arrOf st) (lo+m-1))->Q (none,m) st):wpS (model prog w) A E s (yD lo a n) Q st:=by
 unfold yD;refine wpS_forRange (I:=fun t c G=>G=st/\c=(none,t)/\Seg key (arrOf st) lo (lo+t)) ?step ?fin ⟨rfl,rfl,Y⟩
 case fin=>
  rintro c G ⟨rfl,rfl,B⟩;rw[show max a n=n by lia]at B ⊢;exact h n J (Iw _) B (.inl rfl)
 case step=>
  rintro t c G ht a0 ⟨rfl,rfl,B⟩;refine I9 (mK L O (by dsimp only;lia) (by dsimp only;lia) ?_);dsimp only;by_cases e:kat key (arrOf G) (lo+t)<kat key (arrOf G) (lo+t-1)
  ·rw[if_pos (IC e)];exact Jo (h t ht (by lia) B (.inr e))
  ·rw[if_neg (by simpa using e)];refine Jo ⟨rfl,rfl,fun i j x y z=>?_⟩;by_cases q:j<lo+t
   ·exact B i j x y q
   ·have ej:j=lo+t:=by lia
    subst ej;by_cases q2:i=lo+t
    ·rw[q2];exact Ko _
    ·have:=B i (lo+t-1) x (by lia) (by lia)
     lia
theorem qe (L:eE prog w A E s a₀ κ key){lo m n:Nat}{st:SortSt}(G:SB a₀ κ st)(hz:lo+n<=a₀.size)(h1:1<=m)(B:m<=n)(O:Fal key (arrOf st) lo (lo+m))
  (h:∀k xs,1<=k->k<=n->xs.Perm (arrOf st)->Off (arrOf st) xs lo (lo+n)->Seg key xs lo (lo+k)->Q (some k) (setArr st xs)):wpS (model prog w) A E s (o_ lo m n) Q st:=by
 unfold o_;have hsz:lo+m<=(arrOf st).size:=by rw[G.size];lia
 refine I9 (tQ ?_);have J:(mirror (arrOf st) lo (lo+m) ((lo+m-lo)/2)).Perm (arrOf st):=mirror_perm _ _ _ _;have hB':=G.set J;refine I9 (yC L hB' hz h1 B (fun i j x y z=>?_) fun k k1 Y k3 _=>Jo (h k _ (by lia) Y J (ph hsz (by simp) (by lia)) k3));show kat key (mirror (arrOf st) lo (lo+m) ((lo+m-lo)/2)) i<=kat key (mirror (arrOf st) lo (lo+m) ((lo+m-lo)/2)) j;rw[uG hsz,uG hsz,if_pos (by lia),if_pos (by lia)];exact O _ _ (by lia) (by lia) (by lia)
theorem EA (L:eE prog w A E s a₀ κ key){lo a n:Nat}{st:SortSt}(hB:SB a₀ κ st)(hz:lo+n<=a₀.size)(h1:1<=a)(a0:a<=n)(hs:Fal key (arrOf st) lo (lo+a))
  (h:∀m q xs,a<=m->m<=n->xs.Perm (arrOf st)->Off (arrOf st) xs lo (lo+n)->Fal key xs lo (lo+m)->q+1<=m->(∀i,lo+m-(q+1)<=i->i<lo+m->kat key xs i=kat key xs (lo+m-1))->Q (none,m,q) (setArr st xs)):wpS (model prog w) A E s (CB lo a n) Q st:=by
 unfold CB;refine wpS_forRange (I:=fun t c O=>∃q xs,O=setArr st xs/\c=(none,t,q)/\xs.Perm (arrOf st)/\Off (arrOf st) xs lo (lo+n)/\Fal key xs lo (lo+t)/\q+1<=t/\∀i,lo+t-(q+1)<=i->i<lo+t->kat key xs i=kat key xs (lo+t-1)) ?step ?fin
  ⟨0,arrOf st,rfl,rfl,Array.Perm.refl _,Off.refl _ _ _,hs,by omega,fun i x y=>by congr 1;lia⟩
 case fin=>
  rintro c O ⟨q,xs,rfl,rfl,G,Y,J,hq,he⟩;rw[show max a n=n by lia]at J hq he ⊢;exact h n q xs a0 (Iw _) G Y J hq he
 case step=>
  rintro t c O ht a1 ⟨q,xs,rfl,rfl,G,Y,J,hq,he⟩;have hB':=hB.set G;have hsz:lo+t<=xs.size:=by rw[G.size_eq,hB.size];lia
  refine I9 (mK L hB' (by dsimp only;lia) (by dsimp only;lia) ?_);dsimp only;show wpS _ _ _ _ (if decide (kat key xs (lo+t)<kat key xs (lo+t-1))=true then _ else _) _ _;by_cases e:kat key xs (lo+t)<kat key xs (lo+t-1)
  ·rw[if_pos (IC e)];have B:∀ys:Array Keyed,(∀k,kat key ys k=kat key xs k)->Fal key ys lo (lo+(t+1)):=by
    intro ys hk i j x y z;rw[hk,hk];by_cases r:j<lo+t
    ·exact J i j x y r
    ·have ej:j=lo+t:=by lia
     subst ej;by_cases q2:i=lo+t
     ·rw[q2];exact Ko _
     ·have:=J i (lo+t-1) x (by lia) (by lia)
      lia
   by_cases hq0:q>0
   ·rw[if_pos hq0];refine I9 (tQ (Jo ⟨0,mirror xs (lo+t-(q+1)) (lo+t) ((lo+t-(lo+t-(q+1)))/2),rfl,rfl,(mirror_perm _ _ _ _).trans G,Y.trans (ph hsz (by lia) (by lia)),B _ (d0 hsz he),by simp,fun i x y=>by congr 1;lia⟩))
   ·rw[if_neg hq0];exact Jo ⟨0,xs,rfl,rfl,G,Y,B _ (fun _=>rfl),by simp,fun i x y=>by congr 1;lia⟩
  ·rw[if_neg (by simpa using e)];refine I9 (mK L hB' (by lia) (by lia) ?_);dsimp only;show wpS _ _ _ _ (if decide (kat key xs (lo+t-1)<kat key xs (lo+t))=true then _ else _) _ _;by_cases e2:kat key xs (lo+t-1)<kat key xs (lo+t)
   ·rw[if_pos (IC e2)];exact Jo (h t q xs ht (by lia) G Y J hq he)
   ·rw[if_neg (by simpa using e2)];have eq:kat key xs (lo+t)=kat key xs (lo+t-1):=by lia
    refine Jo ⟨q+1,xs,rfl,rfl,G,Y,fun i j x y z=>?_,by lia,fun i x y=>?_⟩
    ·by_cases r:j<lo+t
     ·exact J i j x y r
     ·have ej:j=lo+t:=by lia
      subst ej;by_cases q2:i=lo+t
      ·rw[q2];exact Ko _
      ·rw[eq];exact J i (lo+t-1) x (by lia) (by lia)
    ·rw[show lo+(t+1)-1=lo+t by rfl];by_cases q2:i=lo+t
     ·rw[q2]
     ·rw[eq];exact he i (by lia) (by lia)
theorem ot (L:eE prog w A E s a₀ κ key){lo m n:Nat}{st:SortSt}(G:SB a₀ κ st)(hz:lo+n<=a₀.size)(O:m+1<=n)(hs:Fal key (arrOf st) lo (lo+(m+1)))
  (h:∀k xs,1<=k->k<=n->xs.Perm (arrOf st)->Off (arrOf st) xs lo (lo+n)->Seg key xs lo (lo+k)->Q (some k) (setArr st xs)):wpS (model prog w) A E s (mS lo m n) Q st:=by
 unfold mS;refine I9 (wpS_lift (wpAny_rule ⟨rfl,?_⟩));refine I9 (EA L G hz (by simp) O hs fun k q xs k1 k2 J ho hf hq he=>?_);dsimp only;have hsz:lo+k<=xs.size:=by rw[J.size_eq,G.size];lia
 by_cases hq0:q>0
 ·rw[if_pos hq0];refine I9 (tQ ?_);have B:(mirror xs (lo+k-(q+1)) (lo+k) ((lo+k-(lo+k-(q+1)))/2)).Perm (arrOf st):=(mirror_perm _ _ _ _).trans J;refine qe L (st:=setArr st (mirror xs (lo+k-(q+1)) (lo+k) ((lo+k-(lo+k-(q+1)))/2))) (G.set B) hz (by lia) k2 (fun i j x y z=>?_) fun r ys Y r2 r3 r4 r5=>h r ys Y r2 (r3.trans B) ((ho.trans (ph hsz (by lia) (by lia))).trans r4) r5;show kat key (mirror xs _ _ _) j<=kat key (mirror xs _ _ _) i;rw[d0 hsz he,d0 hsz he];exact hf i j x y z
 ·rw[if_neg hq0];exact qe L (st:=setArr st xs) (G.set J) hz (by lia) k2 hf fun r ys Y r2 r3 r4 r5=>h r ys Y r2 (r3.trans J) (ho.trans r4) r5
theorem Fv (L:eE prog w A E s a₀ κ key){lo n:Nat}{st:SortSt}(G:SB a₀ κ st)(hz:lo+n<=a₀.size)(h1:1<=n)
  (h:∀k xs,1<=k->k<=n->xs.Perm (arrOf st)->Off (arrOf st) xs lo (lo+n)->Seg key xs lo (lo+k)->Q (some k) (setArr st xs)):wpS (model prog w) A E s (countRun' lo n) Q st:=by
 rw[Fx];refine I9 (yC L G hz (Iw 1) h1 (fun i j x y z=>by rw[show i=j by lia];exact Ko _) fun m Y m2 B J=>?_);dsimp only;by_cases e:m=n
 ·rw[if_pos (by simpa using e)];exact Jo (h m (arrOf st) Y m2 (Array.Perm.refl _) (Off.refl _ _ _) B)
 ·rw[if_neg (by simpa using e)];have lt:kat key (arrOf st) (lo+m)<kat key (arrOf st) (lo+m-1):=J.resolve_left e;by_cases g:m>1
  ·rw[if_pos g];refine I9 (mK L G (by lia) (by lia) ?_);dsimp only;by_cases c:kat key (arrOf st) lo<kat key (arrOf st) (lo+m-1)
   ·rw[if_pos (IC c)];exact Jo (h m (arrOf st) Y m2 (Array.Perm.refl _) (Off.refl _ _ _) B)
   ·rw[if_neg (by simpa using c)];have hsz:lo+m<=(arrOf st).size:=by rw[G.size];lia
    have all:∀k,lo<=k->k<lo+m->kat key (arrOf st) k=kat key (arrOf st) (lo+m-1):=by
     intro k x y;have a1:=B lo k (Iw _) x y;have a2:=B k (lo+m-1) x (by lia) (by lia)
     lia
    refine I9 (tQ ?_);have hp:(mirror (arrOf st) lo (lo+m) ((lo+m-lo)/2)).Perm (arrOf st):=mirror_perm _ _ _ _;refine ot L (G.set hp) hz (by lia) (fun i j x y z=>?_) fun r ys r1 r2 r3 r4 r5=>h r ys r1 r2 (r3.trans hp) ((ph hsz (by simp) (by lia)).trans r4) r5;show kat key (mirror (arrOf st) _ _ _) j<=kat key (mirror (arrOf st) _ _ _) i;rw[d0 hsz all,d0 hsz all];by_cases q:j<lo+m
    ·rw[all i x (by lia),all j (by lia) q];exact Ko _
    ·have O:j=lo+m:=by lia
     subst O;by_cases q2:i=lo+m
     ·rw[q2];exact Ko _
     ·rw[all i x (by lia)];lia
  ·rw[if_neg g];have em:m=1:=by lia
   subst em;refine ot L G hz (by lia) (fun i j x y z=>?_) h;by_cases q:i=j
   ·rw[q];exact Ko _
   ·have ei:i=lo:=by lia
    have O:j=lo+1:=by lia
    subst ei;subst O
    have:i+1-1=i:=by simp
    rw[this]at lt
    lia
end
section
variable {w:World}
theorem y7 (B:src<xs.size)(G:d<=src)(k:Nat):kat key (bubble xs src d) k=if k=src-d then kat key xs src else if src-d<k/\k<=src then kat key xs (k-1) else kat key xs k:=by
 have e:=getElem?_bubble B d G k;by_cases h1:k=src-d
 ·rw[if_pos h1]at e ⊢;exact gK e
 ·rw[if_neg h1]at e ⊢;by_cases h2:src-d<k/\k<=src
  ·rw[if_pos h2]at e ⊢;exact gK e
  ·rw[if_neg h2]at e ⊢;exact gK e
def Cz (lo k:Nat):StateT SortSt Sem (Option Bool×Nat×Nat) :=
 forIn [0:k] ((none,0,k):Option Bool×Nat×Nat) fun _ r=>
  if r.2.1≥r.2.2 then pure (.done (none,r.2.1,r.2.2)) else do
   let z <-ltAt' (lo+k) (lo+(r.2.1+r.2.2)/2)
   match z with
   |some less=>if less=true then pure (.yield (none,r.2.1,(r.2.1+r.2.2)/2)) else pure (.yield (none,(r.2.1+r.2.2)/2+1,r.2.2))
   |_=>pure (.done (some false,r.2.1,r.2.2))
def Hg (lo n ok:Nat):StateT SortSt Sem (Option Bool×Unit) :=
 forIn [max ok 1:n] ((none,()):Option Bool×Unit) fun k _=>do
  let r <-Cz lo k
  match r.1 with
  |some v=>pure (.done (some v,()))
  |none=>do
   moveDown' (lo+k) (lo+r.2.1)
   pure (.yield (none,()))
theorem Gf (lo n ok:Nat):binarySort' lo n ok=(do
  let r <-Hg lo n ok
  match r.1 with
  |some v=>pure v
  |none=>pure true):=by kernel_rfl
theorem Ex (L:eE prog w A E s a₀ κ key){lo k:Nat}{st:SortSt}(Y:SB a₀ κ st)(hz:lo+k<a₀.size)(O:Seg key (arrOf st) lo (lo+k))
  (h:∀l,l<=k->(∀i,lo<=i->i<lo+l->kat key (arrOf st) i<=kat key (arrOf st) (lo+k))->(∀i,lo+l<=i->i<lo+k->kat key (arrOf st) (lo+k)<kat key (arrOf st) i)->Q (none,l,l) st):wpS (model prog w) A E s (Cz lo k) Q st:=by
 unfold Cz;refine wpS_forRange (I:=fun t c B=>B=st/\∃l r,c=(none,l,r)/\l<=r/\r<=k/\r-l<=k-t/\(∀i,lo<=i->i<lo+l->kat key (arrOf st) i<=kat key (arrOf st) (lo+k))/\(∀i,lo+r<=i->i<lo+k->kat key (arrOf st) (lo+k)<kat key (arrOf st) i)) ?step ?fin
  ⟨rfl,0,k,rfl,by simp,by simp,by simp,fun i x y=>by lia,fun i x y=>by lia⟩
 case fin=>
  rintro c B ⟨rfl,l,r,rfl,h1,h2,h3,G,J⟩;have e:l=r:=by lia
  subst e;exact h l h2 G J
 case step=>
  rintro t c B _ ht ⟨rfl,l,r,rfl,h1,h2,h3,G,J⟩;dsimp only;by_cases e:l≥r
  ·rw[if_pos e];have e':l=r:=by lia
   subst e';exact Jo (h l h2 G J)
  ·rw[if_neg e];refine I9 (mK L Y hz (by lia) ?_);dsimp only;by_cases c:kat key (arrOf B) (lo+k)<kat key (arrOf B) (lo+(l+r)/2)
   ·rw[if_pos (IC c)];refine Jo ⟨rfl,_,_,rfl,by lia,by lia,by lia,G,fun i x y=>?_⟩
    have:=O (lo+(l+r)/2) i (by simp) x y
    lia
   ·rw[if_neg (by simpa using c)];refine Jo ⟨rfl,_,_,rfl,by lia,by omega,by lia,fun i x y=>?_,J⟩
    have:=O i (lo+(l+r)/2) x (by lia) (by lia)
    lia
theorem EK {lo p q:Nat}(h1:lo<=q)(h2:q<=p)(B:p<xs.size)(G:Seg key xs lo p)(J:∀i,lo<=i->i<q->kat key xs i<=kat key xs p)(O:∀i,q<=i->i<p->kat key xs p<kat key xs i):Seg key (bubble xs p (p-q)) lo (p+1):=by
 intro i j x y z;rw[y7 B (Nat.sub_le _ _),y7 B (Nat.sub_le _ _),show p-(p-q)=q from Nat.sub_sub_self h2]
 clear B
 repeat' split
 all_goals first
  | (exfalso;lia)
  |exact Ko _
  |exact J _ (by omega) (by lia)
  |exact L9 (O _ (by lia) (by lia))
  |exact G _ _ (by lia) (by lia) (by lia)
theorem Ge (L:eE prog w A E s a₀ κ key){lo n ok:Nat}{st:SortSt}(hB:SB a₀ κ st)(hz:lo+n<=a₀.size)(a0:ok<=n)(hs:Seg key (arrOf st) lo (lo+ok))
  (h:∀xs,xs.Perm (arrOf st)->Off (arrOf st) xs lo (lo+n)->Seg key xs lo (lo+n)->Q true (setArr st xs)):wpS (model prog w) A E s (binarySort' lo n ok) Q st:=by
 rw[Gf];unfold Hg;refine I9 (Mc (wpS_forRange (I:=fun t c G=>c=(none,())/\∃xs,G=setArr st xs/\xs.Perm (arrOf st)/\Off (arrOf st) xs lo (lo+n)/\Seg key xs lo (lo+min t n))
  (Q:=fun c G=>c=(none,())/\∃xs,G=setArr st xs/\xs.Perm (arrOf st)/\Off (arrOf st) xs lo (lo+n)/\Seg key xs lo (lo+n)) ?step ?fin ?init) ?post)
 case post=>
  rintro c G ⟨rfl,xs,rfl,J,Y,B⟩;exact Jo (h xs J Y B)
 case init=>
  refine⟨rfl,arrOf st,rfl,Array.Perm.refl _,Off.refl _ _ _,fun i j x y z=>?_⟩;by_cases h1:ok=0
  ·rw[show i=j by lia];exact Ko _
  ·exact hs i j x y (by lia)
 case fin=>
  rintro c G ⟨rfl,xs,rfl,J,Y,B⟩;refine⟨rfl,xs,rfl,J,Y,?_⟩
  rwa [show min (max (max ok 1) n) n=n by lia]at B
 case step=>
  rintro k c G hk a1 ⟨rfl,xs,rfl,J,Y,B⟩;rw[show min k n=k by lia]at B;have hB':=hB.set J;refine I9 (Ex L hB' (by lia) B fun l hl h4 h5=>?_);dsimp only;rw[moveDown'_eq];refine I9 (wpS_modify (Jo ⟨rfl,bubble xs (lo+k) (lo+k-(lo+l)),rfl,(bubble_perm _ _ _).trans J,?_,?_⟩))
  ·have O:lo+k<xs.size:=by rw[J.size_eq,hB.size];lia
   refine Y.trans fun t ht=>?_;rw[getElem?_bubble O _ (by simp),if_neg (by lia),if_neg (by lia)]
  ·rw[show min (k+1) n=k+1 by lia];have O:lo+k<xs.size:=by rw[J.size_eq,hB.size];lia
   exact EK (Nat.le_add_right _ _) (by lia) O B h4 h5
def jp (xs:Array Keyed)(p:Nat)(z:List Keyed):Array Keyed:=z.zipIdx.foldl (fun a q=>a.setIfInBounds (p+q.2) q.1) xs
theorem vk (p:Nat):∀(z:List Keyed) (n:Nat) (xs:Array Keyed),p+n+z.length<=xs.size->∀t:Nat,((z.zipIdx n).foldl (fun a q=>a.setIfInBounds (p+q.2) q.1) xs)[t]? = if p+n<=t/\t<p+n+z.length then z[t-(p+n)]? else xs[t]?
 | [],n,xs,_,t=>by
  rw[if_neg (by simp)];rfl
 |x::z,n,xs,h,t=>by
  rw[List.zipIdx_cons,Kf];have B:(x::z).length=z.length+1:=rfl;rw[vk p z (n+1) _ (by rw[Array.size_setIfInBounds];lia) t];by_cases c:p+n<=t/\t<p+n+(x::z).length
  ·rw[if_pos c];by_cases c2:t=p+n
   ·rw[if_neg (by lia),c2]
    have:p+n<xs.size:=by lia
    simp[Ln,this]
   ·rw[if_pos (by lia)];have e:t-(p+n)=t-(p+(n+1))+1:=by lia
    rw[e,List.getElem?_cons_succ]
  ·rw[if_neg c,if_neg (by lia),Ln]
   have:p+n≠t:=by lia
   simp[this]
theorem kg (h:p+z.length<=xs.size)(t:Nat):(jp xs p z)[t]? = if p<=t/\t<p+z.length then z[t-p]? else xs[t]? := by
 have:=vk p z 0 xs (by omega) t
 simpa[jp] using this
theorem wT (h:p+z.length<=xs.size):(jp xs p z).toList=xs.toList.take p++z++xs.toList.drop (p+z.length):=by
 refine Kx fun t=>?_;rw[JJ,kg h];have lt:(xs.toList.take p).length=p:=by simp;lia
 by_cases c1:t<p
 ·rw[if_neg (by lia),Jv,Jj (by rw[lt];exact c1),List.getElem?_take_of_lt c1,JJ]
 ·by_cases c2:t<p+z.length
  ·rw[if_pos ⟨by lia,c2⟩,Jj (by rw[Iy,lt];omega),Js (by rw[lt];lia),lt]
  ·rw[if_neg (by lia),Js (by rw[Iy,lt];lia),Iy,lt,Lx,JJ]
   congr 1
   lia
abbrev gn (st:SortSt)(p:Array (Nat×Nat×Nat)):SortSt:=SortSt.mk' (kindOf st) (arrOf st) p (gallopOf st) (failedOf st)
theorem Em (i:Nat):mergeAt' i=(do
  let st <-get
  match (pendingOf st)[i]?,(pendingOf st)[i+1]? with
  |some (sa,na,pw),some (sb,nb,_)=>do
   set (gn st (((pendingOf st).setIfInBounds i (sa,na+nb,pw)).eraseIdxIfInBounds (i+1)))
   let y <-elem' (arrOf st) sb
   let z <-ku false y (arrOf st) sa na 0
   match z with
   |some k=>
    if (na-k==0)=true then pure true else do
     let x <-elem' (arrOf st) (sa+k+(na-k)-1)
     let r <-ku true x (arrOf st) sb nb (nb-1)
     match r with
     |some m=>
      if (m==0)=true then pure true else do
       let t <-if na-k<=m then loP ((arrOf st).extract (sa+k) sb) ((arrOf st).extract sb (sb+m)) else hiP ((arrOf st).extract (sa+k) sb) ((arrOf st).extract sb (sb+m))
       modify fun st=>setArr st (jp (arrOf st) (sa+k) t.toList)
       let st <-get
       pure (failedOf st).isNone
     |_=>pure false
   |_=>pure false
  |_,_=>liftM (unsupported "internal:list.sort.pending" : Sem Bool)):=by
 kernel_rfl
end
section
variable {w:World}
abbrev Tri:=Nat×Nat×Nat
theorem DW {p:Array Tri}{B G:List Tri}{a b:Tri}(h:p.toList=B++a::b::G):p[B.length]? = some a/\p[B.length+1]? = some b:=by
 rw[<-JJ,<-JJ,h];constructor
 ·rw[Js (Iw _)];simp
 ·rw[Js (by simp)];simp
theorem BM {p:Array Tri}{B G:List Tri}{a b c:Tri}(h:p.toList=B++a::b::G):((p.setIfInBounds B.length c).eraseIdxIfInBounds (B.length+1)).toList=B++c::G:=by
 have J:p.size=B.length+(G.length+2):=by rw[<-IN,h];simp
 rw[Array.eraseIdxIfInBounds,dif_pos (by rw[Array.size_setIfInBounds];lia),Array.toList_eraseIdx,Array.toList_setIfInBounds,h];rw[List.set_append_right _ _ (Iw _),L1,List.set_cons_zero,List.eraseIdx_append_of_length_le (by simp)];simp
theorem hZ (B:b<=xs.size)(hi:a+i<b):kat key (xs.extract a b) i=kat key xs (a+i):=by
 apply gK
 rw[Array.getElem?_extract];simp
 lia
theorem mT {xs:Array Keyed}{a b:Nat}(B:b<=xs.size):(xs.extract a b).size=b-a:=by
 rw[Array.size_extract];lia
theorem zf {xs:Array Keyed}{a b:Nat}{y:Keyed}(h:y∈(xs.extract a b).toList):y∈xs.toList:=by
 rw[cJ]at h;exact JU (List.mem_of_mem_drop h)
theorem merged {xs z:Array Keyed}{lo p q r hi:Nat}(h1:lo<=p)(h2:p<=q)(h3:q<=r)(h4:r<=hi)(h5:hi<=xs.size)(R:Res key (xs.extract p q) (xs.extract q r) z)(s1:Seg key xs lo q)(s2:Seg key xs q hi)
  (k2:∀t,lo<=t->t<p->kat key xs t<=kat key xs q) (a4:∀t,r<=t->t<hi->kat key xs (q-1)<=kat key xs t):(jp xs p z.toList).Perm xs/\Off xs (jp xs p z.toList) lo hi/\Seg key (jp xs p z.toList) lo hi:=by
 obtain⟨zp,zs⟩:=R;have zl:z.toList.length=r-p:=by
  have e:=zp.length_eq;simp only[Iy,IN]at e ⊢;rw[mT (by lia),mT (by lia)]at e
  lia
 have B:p+z.toList.length<=xs.size:=by lia
 have em:xs.toList=xs.toList.take p++((xs.extract p q).toList++(xs.extract q r).toList)++xs.toList.drop (p+z.toList.length):=by
  rw[cJ,cJ];have a1:(xs.toList.take q).drop p++(xs.toList.take r).drop q=(xs.toList.drop p).take z.toList.length:=by
   rw[LC,LC,show z.toList.length=(q-p)+(r-q) by lia,List.take_add,Ma,show p+(q-p)=q by lia]
  have a2:(xs.toList.drop p).take z.toList.length++xs.toList.drop (p+z.toList.length)=xs.toList.drop p:=by
   have:=Ju z.toList.length (xs.toList.drop p)
   rwa [Ma]at this
  rw[a1,Jv,a2];exact (Ju _ _).symm
 have a3:Seg key z 0 z.size:=oY.mp zs;have G:∀t,(t<p\/r<=t)->kat key (jp xs p z.toList) t=kat key xs t:=fun t ht=>gK (by rw[kg B,if_neg (by lia)]);have kz:∀t,p<=t->t<r->∃x,x∈z.toList/\(jp xs p z.toList)[t]? = some x/\z[t-p]? = some x:=fun t J O=>by
  have a0:t-p<z.toList.length:=by lia
  refine⟨z.toList[t-p],LR a0,?_,?_⟩
  ·rw[kg B,if_pos ⟨J,by lia⟩];exact IE a0
  ·rw[<-JJ];exact IE a0
 have Y:∀x∈z.toList,∃t,((p<=t/\t<q)\/(q<=t/\t<r))/\key x=kat key xs t:=fun x hx=>by
  rcases Iz.mp (zp.mem_iff.mp hx) with hx|hx
  ·rw[cJ]at hx;obtain⟨t,J,O,t3,t4⟩:=ug hx;exact⟨t,.inl ⟨J,O⟩,(aU t4).symm⟩
  ·rw[cJ]at hx;obtain⟨t,J,O,t3,t4⟩:=ug hx;exact⟨t,.inr ⟨J,O⟩,(aU t4).symm⟩
 refine⟨?_,fun t ht=>by rw[kg B,if_neg (by lia)],?_⟩
 ·rw[JY,wT B]
  conv=>rhs;rw[em]
  exact List.Perm.append_right _ (List.Perm.append_left _ zp)
 have a5:z.size=r-p:=by rw[<-IN];exact zl
 clear em B zl
 intro i j x y zz;by_cases i1:i<p
 ·rw[G i (.inl i1)];by_cases j1:j<p
  ·rw[G j (.inl j1)];exact s1 i j x y (IJ j1 h2)
  ·by_cases j2:j<r
   ·obtain⟨v,v1,v2,v3⟩:=kz j (Kq j1) j2;rw[aU v2];obtain⟨t,ht,et⟩:=Y v v1;rw[et];rcases ht with⟨J,O⟩|⟨J,O⟩
    ·exact s1 i t x (IU (JW i1) J) O
    ·exact Ks (k2 i x i1) (s2 q t (Iw _) J (IJ O h4))
   ·rw[G j (.inr (Kq j2))];exact Ks (k2 i x i1) (s2 q j (Iw _) (IU h3 (Kq j2)) zz)
 ·have i1':=Kq i1;by_cases i2:i<r
  ·obtain⟨u,u1,u2,u3⟩:=kz i i1' i2;by_cases j2:j<r
   ·obtain⟨v,v1,v2,v3⟩:=kz j (IU i1' y) j2;rw[aU u2,aU v2];have e:=a3 (i-p) (j-p) (IG _) (Nat.sub_le_sub_right y p) (by rw[a5];exact Nat.sub_lt_sub_right (IU i1' y) j2);rw[aU u3,aU v3]at e;exact e
   ·have j2':=Kq j2;rw[G j (.inr j2'),aU u2];obtain⟨t,ht,et⟩:=Y u u1;rw[et];rcases ht with⟨J,O⟩ | ⟨J,O⟩
    ·exact Ks (s1 t (q-1) (IU h1 J) (Nat.le_sub_one_of_lt O) (Nat.sub_one_lt (Kk (K0 (IG _) O)))) (a4 j j2' zz)
    ·exact s2 t j J (IU (JW O) j2') zz
  ·have i2':=Kq i2;rw[G i (.inr i2'),G j (.inr (IU i2' y))];exact s2 i j (IU h3 i2') y zz
theorem zZ {xs:Array Keyed}{lo p q r hi:Nat}(h1:lo<=p)(h2:p<q)(h3:q<r)(h4:r<=hi)(h5:hi<=xs.size)(all:∀y∈xs.toList,y∈a₀.toList)(Y:Seg key xs lo q)(s2:Seg key xs q hi)
  (up1:kat key xs q<=kat key xs p) (B:kat key xs (r-1)<=kat key xs (q-1)):Pre a₀ key (xs.extract p q) (xs.extract q r):=by
 have J:(xs.extract p q).size=q-p:=mT (by lia);have O:(xs.extract q r).size=r-q:=mT (by lia);refine⟨fun y G=>all y (zf G),fun y G=>all y (zf G),fun i j x y z=>?_,fun i j x y z=>?_,by lia,by lia,?_,?_⟩
 ·rw[J]at z;rw[hZ (by lia) (by lia),hZ (by lia) (by lia)];exact Y _ _ (by lia) (by lia) (by lia)
 ·rw[O]at z;rw[hZ (by lia) (by lia),hZ (by lia) (by lia)];exact s2 _ _ (by simp) (by lia) (by lia)
 ·rw[hZ (by lia) (by omega),hZ (by lia) (by omega)];exact up1
 ·rw[J,O,hZ (by lia) (by lia),hZ (by lia) (by lia),show q+(r-q-1)=r-1 by lia,show p+(q-p-1)=q-1 by lia];exact B
theorem El (L:eE prog w A E s a₀ κ key){st:SortSt}{Q:Bool->SortSt->Prop}(J:SB a₀ κ st){l1 l2:List Tri}{G Y p B O q:Nat}(hp:(pendingOf st).toList=l1++(G,Y,p)::(B,O,q)::l2)(a3:B=G+Y)(h1:1<=Y)(h2:1<=O)(hz:B+O<=a₀.size)
  (s1:Seg key (arrOf st) G B) (s2:Seg key (arrOf st) B (B+O))
  (h:∀st',SB a₀ κ st'->(pendingOf st').toList=l1++(G,Y+O,p)::l2->Seg key (arrOf st') G (B+O)->Off (arrOf st) (arrOf st') G (B+O)->Q true st'):wpS (model prog w) A E s (mergeAt' l1.length) Q st:=by
 rw[Em];refine I9 (wpS_get ?_);obtain⟨e1,e2⟩:=DW hp;rw[e1,e2];dsimp only;have hsz:=J.size;have mem:∀{i:Nat} {x:Keyed},(arrOf st)[i]? = some x->x∈a₀.toList:=fun e=>J.mem (jn e);have all:∀y∈(arrOf st).toList,y∈a₀.toList:=fun y hy=>J.mem hy;refine I9 ?_;show wpS _ _ _ _ (set _) _ _;have a4:∀(t:SortSt) (R:PUnit->SortSt->Prop),R ⟨⟩ t->wpS (model prog w) A E s (set t:StateT SortSt Sem PUnit) R st:=fun t R hr=>by
  unfold wpS;rw[StateT.run_set];exact IB ⟨rfl,hr⟩
 refine a4 _ _ ?_;have pn:=BM (c:=(G,Y+O,p)) hp;generalize hP:((pendingOf st).setIfInBounds l1.length (G,Y+O,p)).eraseIdxIfInBounds (l1.length+1)=P at pn ⊢;have f1:(arrOf st)[B]? = some (arrOf st)[B]:=IY (by omega);refine I9 (gL f1 (I9 (kr L (st:=gn st P) J.kind (mem f1) all (by lia) (by assumption) (by rw[<-a3];exact s1) fun k k1 k2 k3=>?_)));dsimp only;rw[<-aU (key:=key) f1,<-a3]at k3;rw[<-aU (key:=key) f1]at k2;have B1:SB a₀ κ (gn st P):=⟨J.perm,J.kind,J.ok⟩;by_cases c1:Y-k=0
 ·rw[if_pos (by simpa using c1)];refine Jo (h _ B1 pn (fun i j x y z=>?_) (Off.refl _ _ _));show kat key (arrOf st) i<=kat key (arrOf st) j;by_cases a1:j<B
  ·exact s1 i j x y a1
  ·by_cases a2:B<=i
   ·exact s2 i j a2 y z
   ·have:=k2 i x (by lia)
    have:=s2 B j (Iw _) (by lia) z
    lia
 ·rw[if_neg (by simpa using c1)];have f2:(arrOf st)[G+k+(Y-k)-1]? = some (arrOf st)[B-1]:=by
   rw[show G+k+(Y-k)-1=B-1 by lia];exact IY (by omega)
  have f3:(arrOf st)[B-1]? = some (arrOf st)[B-1]:=IY (by omega);refine I9 (gL f2 (I9 (kr L (st:=gn st P) J.kind (mem f2) all (by lia) (by lia) s2 fun m m1 m2 m3=>?_)));dsimp only;rw[<-aU (key:=key) f3]at m2 m3;by_cases c2:m=0
  ·rw[if_pos (by simpa using c2)];refine Jo (h _ B1 pn (fun i j x y z=>?_) (Off.refl _ _ _));show kat key (arrOf st) i<=kat key (arrOf st) j;by_cases a1:j<B
   ·exact s1 i j x y a1
   ·by_cases a2:B<=i
    ·exact s2 i j a2 y z
    ·have:=s1 i (B-1) x (by lia) (by lia)
     have:=m3 j (by lia) z
     lia
  ·rw[if_neg (by simpa using c2)];have o1:G<=G+k:=Nat.le_add_right _ _;have o2:G+k<B:=by lia
   have o3:B<B+m:=by lia
   have o4:B+m<=B+O:=by lia
   have o5:B+O<=(arrOf st).size:=by lia
   have PR:Pre a₀ key ((arrOf st).extract (G+k) B) ((arrOf st).extract B (B+m)):=zZ o1 o2 o3 o4 o5 all s1 s2 (k3 _ (Iw _) o2) (m2 _ (Nat.le_sub_one_of_lt o3) (Nat.sub_one_lt (Kk (K0 (IG _) o3))));have fin:∀(z:Array Keyed) (g':Nat),Res key ((arrOf st).extract (G+k) B) ((arrOf st).extract B (B+m)) z ->
     wpS (model prog w) A E s (do
      modify fun st=>setArr st (jp (arrOf st) (G+k) z.toList)
      let st <-get
      pure (failedOf st).isNone:StateT SortSt Sem Bool) Q (cj (gn st P) g'):=fun z g' hz=>by
    obtain⟨a0,a5,a6⟩:=merged o1 (JW o2) (JW o3) o4 o5 hz s1 s2 k2 m3;refine I9 (wpS_modify (I9 (wpS_get (Jo ?_))));have a7:(failedOf (setArr (cj (gn st P) g') (jp (arrOf st) (G+k) z.toList))).isNone=true:=by
     show (failedOf st).isNone=true;rw[J.ok];rfl
    show Q (failedOf (setArr (cj (gn st P) g') (jp (arrOf st) (G+k) z.toList))).isNone _;rw[a7];exact h _ ⟨a0.trans J.perm,J.kind,J.ok⟩ pn a6 a5
   split
   ·exact I9 (G_ L (st:=gn st P) J.kind PR fun z g' hz=>fin z g' hz)
   ·exact I9 (Hl L (st:=gn st P) J.kind PR fun z g' hz=>fin z g' hz)
end
section
variable {w:World}
abbrev So:=Option Unit×Unit
def CH (size pw:Nat):StateT SortSt Sem So :=
 forIn [0:size] ((none,()):So) fun _ _=>do
  let st <-get
  match (if (pendingOf st).size>1 then (pendingOf st)[(pendingOf st).size-2]? else none) with
  |some (_,_,older)=>if older<=pw then pure (.done (none,())) else do
    let b <-mergeAt' ((pendingOf st).size-2)
    if (!b)=true then pure (.done (some (),())) else pure (.yield (none,()))
  |_=>pure (.done (none,()))
def pe (lo n:Nat):StateT SortSt Sem (ForInStep (Option Unit×Nat)):=do
 modify fun st=>gn st ((pendingOf st).push (lo,n,0))
 pure (.yield (none,lo+n))
def pd (size lo n:Nat):StateT SortSt Sem (ForInStep (Option Unit×Nat)):=do
 let st <-get
 match (pendingOf st).back? with
 |some (s1,n1,_)=>do
  let q <-CH size (power' size (2*s1+n1) (2*s1+n1+n1+n) size)
  match q.1 with
  |some v=>pure (.done (some v,lo))
  |none=>do
   modify fun st=>gn st ((pendingOf st).modify ((pendingOf st).size-1) fun (a,b,_)=>(a,b,power' size (2*s1+n1) (2*s1+n1+n1+n) size))
   pe lo n
 |_=>pe lo n
def qG (size minrun:Nat)(r:Option Unit×Nat):StateT SortSt Sem (ForInStep (Option Unit×Nat)) :=
 if r.2≥size then pure (.done (none,r.2)) else do
  let z <-countRun' r.2 (size-r.2)
  match z with
  |some found=>
   if found<minrun then do
    liftM (rule "list.sort.binary-insertion")
    let b <-binarySort' r.2 (min (size-r.2) minrun) found
    if (!b)=true then pure (.done (some (),r.2)) else pd size r.2 (min (size-r.2) minrun)
   else pd size r.2 found
  |_=>pure (.done (some (),r.2))
def xT (p:Array Tri):Nat:=if (if p.size-2>0 then p[p.size-2-1]?.map (·.2.1) else none).any (· < (p[p.size-2+1]?.elim 0 (·.2.1))) then p.size-2-1 else p.size-2
def Cn (size:Nat):StateT SortSt Sem So :=
 forIn [0:size] ((none,()):So) fun _ _=>do
  let st <-get
  if (pendingOf st).size<=1 then pure (.done (none,())) else do
   let b <-mergeAt' (xT (pendingOf st))
   if (!b)=true then pure (.done (some (),())) else pure (.yield (none,()))
theorem DA:sortRuns'=(do
  let st <-get
  let r <-forIn [0:(arrOf st).size] ((none,0):Option Unit×Nat) fun _ r=>qG (arrOf st).size (minRun' (arrOf st).size (arrOf st).size 0) r
  match r.1 with
  |some v=>pure v
  |none=>do
   let q <-Cn (arrOf st).size
   match q.1 with
   |some v=>pure v
   |none=>pure ()):=by kernel_rfl
def bX (key:Keyed->Int)(xs:Array Keyed):Nat->List Tri->Nat->Prop
 |a,[],e=>a=e
 |a,t::r,e=>t.1=a/\1<=t.2.1/\Seg key xs a (a+t.2.1)/\bX key xs (a+t.2.1) r e
theorem bX.le:∀{l:List Tri} {a e:Nat},bX key xs a l e->a+l.length<=e
 | [],a,e,h=>by have:a=e:=h;simp;lia
 |t::r,a,e,h=>by
  obtain⟨_,h1,_,h2⟩:=h
  have:=bX.le h2
  simp;lia
theorem iF:∀{l1:List Tri} {a:Nat},bX key xs a (l1++l2) e↔∃m,bX key xs a l1 m/\bX key xs m l2 e
 | [],a=>⟨fun h=>⟨a,rfl,h⟩,fun⟨m,h1,h2⟩=>by have:a=m:=h1;subst this;exact h2⟩
 |t::r,a=>by
  constructor
  ·rintro⟨h1,h2,B,O⟩;obtain⟨m,G,J⟩:=iF.mp O;exact⟨m,⟨h1,h2,B,G⟩,J⟩
  ·rintro⟨m,⟨h1,h2,B,G⟩,J⟩;exact⟨h1,h2,B,iF.mpr ⟨m,G,J⟩⟩
theorem bX.same:∀{l:List Tri} {a e:Nat},bX key xs a l e->(∀t,a<=t->t<e->ys[t]? = xs[t]?)->bX key ys a l e
 | [],a,e,h,_=>h
 |t::r,a,e,h,g=>by
  obtain⟨h1,h2,G,B⟩:=h;have J:=B.le;refine⟨h1,h2,fun i j x y z=>?_,bX.same B fun t x y=>g t (by lia) y⟩;rw[gK (g i x (by lia)),gK (g j (by lia) (by lia))];exact G i j x y z
theorem bX.alike:∀{l l':List Tri} {a e:Nat},bX key xs a l e->l'.map (fun t=>(t.1,t.2.1))=l.map (fun t=>(t.1,t.2.1))->bX key xs a l' e
 | [],[],_,_,h,_=>h
 | [],_::_,_,_,_,g=>by simp at g
 |_::_,[],_,_,_,g=>by simp at g
 |t::r,t'::r',a,e,h,g=>by
  obtain⟨h1,h2,G,J⟩:=h;rw[IR,IR,List.cons.injEq,Prod.mk.injEq]at g;obtain⟨⟨O,B⟩,Y⟩:=g;exact⟨by rw[O];exact h1,by rw[B];exact h2,by rw[B];exact G,by rw[B];exact bX.alike J Y⟩
theorem Ft (h:i+1<l.length):∃l1 a b l2,l=l1++a::b::l2/\l1.length=i:=by
 refine⟨l.take i,l[i],l[i+1],l.drop (i+2),?_,by rw[Jl];lia⟩;have B:l.drop i=l[i]::l.drop (i+1):=JM (by omega);have G:l.drop (i+1)=l[i+1]::l.drop (i+2):=JM h;rw[<-G,<-B,Ju]
theorem E8 (L:eE prog w A E s a₀ κ key){st:SortSt}(hB:SB a₀ κ st)(T:bX key (arrOf st) 0 (pendingOf st).toList e)(he:e<=a₀.size)(hi:i+1<(pendingOf st).size)
  (h:∀B,SB a₀ κ B->bX key (arrOf B) 0 (pendingOf B).toList e->(pendingOf B).size+1=(pendingOf st).size->Off (arrOf st) (arrOf B) 0 e->Q true B):wpS (model prog w) A E s (mergeAt' i) Q st:=by
 obtain⟨l1,⟨sa,na,p⟩,⟨sb,nb,q⟩,l2,G,rfl⟩:=Ft (l:=(pendingOf st).toList) (i:=i) (by simpa using hi);have T':=T;rw[G]at T';obtain⟨m,T1,⟨a1,a2,a3,b1,b2,b3,J⟩⟩:=iF.mp T';have O:=J.le;have a0:=T1.le;dsimp only at a1 a2 a3 b1 b2 b3 J O;subst a1;subst b1;refine El L hB G rfl a2 b2 (by lia) a3 b3 fun B B' P' S' Y=>?_;have sz:(pendingOf B).size+1=(pendingOf st).size:=by
  rw[<-IN,<-IN,P',G];simp;rfl
 refine h B B' ?_ sz fun t ht=>Y t (by lia);rw[P'];refine iF.mpr ⟨sa,T1.same fun t x y=>Y t (.inl y),rfl,by dsimp only;lia,?_,?_⟩
 ·dsimp only;rw[<-LM];exact S'
 ·dsimp only;rw[<-LM];exact J.same fun t x y=>Y t (.inr x)
theorem EB (L:eE prog w A E s a₀ κ key){st:SortSt}(hB:SB a₀ κ st)(T:bX key (arrOf st) 0 (pendingOf st).toList e)(he:e<=a₀.size)(hp:1<=(pendingOf st).size)
  (h:∀B,SB a₀ κ B->bX key (arrOf B) 0 (pendingOf B).toList e->1<=(pendingOf B).size->Off (arrOf st) (arrOf B) 0 e->Q (none,()) B):wpS (model prog w) A E s (CH size pw) Q st:=by
 unfold CH;refine wpS_forRange (I:=fun _ c B=>c=(none,())/\SB a₀ κ B/\bX key (arrOf B) 0 (pendingOf B).toList e/\1<=(pendingOf B).size/\Off (arrOf st) (arrOf B) 0 e) ?step ?fin ⟨rfl,hB,T,hp,Off.refl _ _ _⟩
 case fin=>
  rintro c B ⟨rfl,G,J,Y,O⟩;exact h B G J Y O
 case step=>
  rintro t c B _ _ ⟨rfl,G,J,Y,O⟩;refine I9 (wpS_get ?_);by_cases g:(pendingOf B).size>1
  ·rw[if_pos g,IY (show (pendingOf B).size-2<(pendingOf B).size by lia)];dsimp only
   split
   ·exact Jo (h B G J Y O)
   ·refine I9 (E8 L G J he (by lia) fun a0 B2 T2 P2 O2=>?_);rw[if_neg (by decide)];exact Jo ⟨rfl,B2,T2,by lia,O.trans O2⟩
  ·rw[if_neg g];exact Jo (h B G J Y O)
theorem qj {st:SortSt}{lo n:Nat}(B:SB a₀ κ st)(T:bX key (arrOf st) 0 (pendingOf st).toList lo)(h1:1<=n)(G:Seg key (arrOf st) lo (lo+n))
  (h:∀st',SB a₀ κ st'->bX key (arrOf st') 0 (pendingOf st').toList (lo+n)->Q (.yield (none,lo+n)) st'):wpS (model prog w) A E s (pe lo n) Q st:=by
 unfold pe;refine I9 (wpS_modify (Jo (h _ ⟨B.perm,B.kind,B.ok⟩ ?_)));show bX key (arrOf st) 0 ((pendingOf st).push (lo,n,0)).toList (lo+n);rw[La];exact iF.mpr ⟨lo,T,rfl,h1,G,rfl⟩
theorem qi (L:eE prog w A E s a₀ κ key){st:SortSt}{lo n size:Nat}(J:SB a₀ κ st)(T:bX key (arrOf st) 0 (pendingOf st).toList lo)(hz:lo+n<=a₀.size)(h1:1<=n)(O:Seg key (arrOf st) lo (lo+n))
  (h:∀B,SB a₀ κ B->bX key (arrOf B) 0 (pendingOf B).toList (lo+n)->Q (.yield (none,lo+n)) B):wpS (model prog w) A E s (pd size lo n) Q st:=by
 unfold pd;refine I9 (wpS_get ?_);cases hb:(pendingOf st).back? with
 |none=>exact qj J T h1 O h
 |some t=>
  obtain⟨s1,n1,p1⟩:=t;dsimp only;have ne:1<=(pendingOf st).size:=by
   rcases Nat.eq_zero_or_pos (pendingOf st).size with e|e
   ·have:pendingOf st = #[]:=Array.eq_empty_of_size_eq_zero e
    rw[this]at hb;cases hb
   ·exact e
  refine I9 (EB L J T (by lia) ne fun B G T' P' Y=>?_);dsimp only;refine I9 (wpS_modify ?_);refine qj (key:=key) (a₀:=a₀) (κ:=κ) ⟨G.perm,G.kind,G.ok⟩ ?_ h1 (fun i j x y z=>?_) h
  ·show bX key (arrOf B) 0 ((pendingOf B).modify ((pendingOf B).size-1) _).toList lo;refine T'.alike ?_;rw[Array.toList_modify];refine Kx fun k=>?_;rw[IM,IM,List.getElem?_modify]
   split
   ·cases (pendingOf B).toList[k]?<;>rfl
   ·cases (pendingOf B).toList[k]?<;>rfl
  ·show kat key (arrOf B) i<=kat key (arrOf B) j;rw[gK (Y i (.inr x)),gK (Y j (.inr (by lia)))];exact O i j x y z
theorem Eg (L:eE prog w A E s a₀ κ key){st:SortSt}{lo G:Nat}(J:SB a₀ κ st)(T:bX key (arrOf st) 0 (pendingOf st).toList lo)(a0:lo<=a₀.size)
  (hd:a₀.size<=lo->Q (.done (none,lo)) st) (h:∀B lo',lo<lo'->lo'<=a₀.size->SB a₀ κ B->bX key (arrOf B) 0 (pendingOf B).toList lo'->Q (.yield (none,lo')) B):wpS (model prog w) A E s (qG a₀.size G (none,lo)) Q st:=by
 unfold qG;dsimp only;by_cases e:lo≥a₀.size
 ·rw[if_pos e];exact Jo (hd e)
 ·rw[if_neg e];refine I9 (Fv L J (by lia) (by lia) fun k xs k1 k2 O ho hs=>?_);dsimp only;have T1:bX key xs 0 (pendingOf st).toList lo:=T.same fun t x y=>ho t (.inl y);by_cases c:k<G
  ·rw[if_pos c];refine I9 (wpS_lift (wpAny_rule ⟨rfl,?_⟩));refine I9 (Ge L (st:=setArr st xs) (J.set O) (by lia) (by lia) hs fun ys yp yo Y=>?_);rw[if_neg (by decide)];refine qi L (st:=setArr st ys) (J.set (yp.trans O)) ?_ (by lia) (by lia) Y fun B B' T'=>h B _ (by lia) (by lia) B' T';exact T1.same fun t x y=>yo t (.inl y)
  ·rw[if_neg c];exact qi L (st:=setArr st xs) (J.set O) T1 (by lia) k1 hs fun B B' T'=>h B _ (by lia) (by lia) B' T'
theorem As (h:1<p.size):xT p+1<p.size:=by
 unfold xT;by_cases g:p.size-2>0
 ·have e:∀(c:Bool),(if c=true then p.size-2-1 else p.size-2)+1<p.size:=fun c=>by cases c<;>simp<;>omega
  exact e _
 ·rw[if_neg (show ¬ ((if p.size-2>0 then p[p.size-2-1]?.map (·.2.1) else none).any (· < (p[p.size-2+1]?.elim 0 (·.2.1))))=true by rw[if_neg g];simp)]
  lia
theorem Ek (L:eE prog w A E s a₀ κ key){st:SortSt}(O:SB a₀ κ st)(T:bX key (arrOf st) 0 (pendingOf st).toList a₀.size)
  (h:∀B,SB a₀ κ B->Seg key (arrOf B) 0 a₀.size->Q (none,()) B):wpS (model prog w) A E s (Cn a₀.size) Q st:=by
 unfold Cn;have fin:∀B,SB a₀ κ B->bX key (arrOf B) 0 (pendingOf B).toList a₀.size->(pendingOf B).size<=1->Q (none,()) B:=fun B J G h1=>by
  refine h B J fun i j x y z=>?_;cases hl:(pendingOf B).toList with
  |nil=>
   rw[hl]at G
   have:0=a₀.size:=G
   lia
  |cons t r=>
   have Y:r=[]:=by
    have:=I_ List.length hl
    rw[IN,Jb]at this;exact KB.mp (by lia)
   rw[hl,Y]at G;obtain⟨h2,h3,h4,h5⟩:=G;have h5':0+t.2.1=a₀.size:=h5;exact h4 i j x y (by lia)
 refine wpS_forRange (I:=fun t c B=>c=(none,())/\SB a₀ κ B/\bX key (arrOf B) 0 (pendingOf B).toList a₀.size/\((pendingOf B).size<=1\/(pendingOf B).size+t<=a₀.size)) ?step ?fin ⟨rfl,O,T,.inr (by have:=T.le;rw[IN]at this;lia)⟩
 case fin=>
  rintro c B ⟨rfl,J,G,P'⟩;exact fin B J G (by lia)
 case step=>
  rintro t c B _ _ ⟨rfl,J,G,P'⟩;refine I9 (wpS_get ?_);by_cases g:(pendingOf B).size<=1
  ·rw[if_pos g];exact Jo (fin B J G g)
  ·rw[if_neg g];refine I9 (E8 L J G (Iw _) (As (by lia)) fun a0 B2 T2 P2 O2=>?_);rw[if_neg (by decide)];exact Jo ⟨rfl,B2,T2,by lia⟩
theorem yB (L:eE prog w A E s a₀ κ key){st:SortSt}(hB:SB a₀ κ st)(hp:pendingOf st = #[])
  (h:∀B,SB a₀ κ B->Seg key (arrOf B) 0 a₀.size->Q () B):wpS (model prog w) A E s sortRuns' Q st:=by
 rw[DA];refine I9 (wpS_get ?_);rw[hB.size];refine I9 (Mc (wpS_forRange (I:=fun t c B=>∃lo,c=(none,lo)/\t<=lo/\lo<=a₀.size/\SB a₀ κ B/\bX key (arrOf B) 0 (pendingOf B).toList lo)
  (Q:=fun c B=>c=(none,a₀.size)/\SB a₀ κ B/\bX key (arrOf B) 0 (pendingOf B).toList a₀.size) ?step ?fin ⟨0,rfl,Iw _,IG _,hB,by rw[hp];rfl⟩) ?post)
 case fin=>
  rintro c B ⟨lo,rfl,h1,h2,G,J⟩;have e:lo=a₀.size:=by lia
  subst e;exact⟨rfl,G,J⟩
 case step=>
  rintro t c B _ _ ⟨lo,rfl,h1,h2,G,J⟩;refine Eg L G J h2 (fun e=>?_) fun O Y g1 g2 B2 T2=>⟨Y,rfl,by lia,g2,B2,T2⟩;have e':lo=a₀.size:=by lia
  subst e';exact⟨rfl,G,J⟩
 case post=>
  rintro c B ⟨rfl,G,J⟩;dsimp only;exact I9 (Ek L G J fun O B2 S2=>Jo (h O B2 S2))
end
end Tim
end
section
open Lean in
local macro_rules
 | `(∃ $bs:explicitBinders, $b)=>do
  let r:=bs.raw[0]
  let gs:=if r.getKind == ``Lean.unbracketedExplicitBinders then #[(r[0].getArgs,if r[1].isNone then none else some r[1][1])] else r.getArgs.map fun g=>(g[1].getArgs,some g[3])
  let mut cs := #[]
  let mut c:=b.raw
  while [`«term_∧_»,`«term_/\_»].contains c.getKind do
   cs:=cs.push c[0]
   c:=c[2]
  cs:=cs.push c
  let n:=(gs.map (·.1.size)).sum
  if !([(1,4),(1,5),(1,7),(2,2),(2,3),(2,4),(2,5),(2,6),(3,1),(3,2),(3,3),(3,4),(3,5),(3,6),(3,7),(3,8),(3,9),(4,1),(4,2),(4,3),(4,4),(4,5),(4,6),(4,7),(5,4),(5,5),(5,6),(6,1),(6,6),(6,8),(6,9),(8,5)].contains (n,cs.size))||(cs[0]!.getKind.toString.splitOn "inder").length>1||gs.any (fun g=>g.1.any fun x=> !x[0].isIdent) then Macro.throwUnsupported
  let mut fs:Array Term := #[]
  for q in cs do
   let mut f:Term:=⟨q⟩
   for g in gs.reverse do
    for x in g.1.reverse do
     let i:Ident:=⟨x[0]⟩
     f ←match g.2 with
      |some t=> `(fun ($i : $(⟨t⟩))=> $f)
      |none=> `(fun $i=> $f)
   fs:=fs.push f
  `($(mkCIdent (.str `L2 s!"EX{n}_{cs.size}")) $fs*)
noncomputable section
open PySem.W(Frag codeIn fnOf instObj keepIn kia_one kitOne lookIn methodObj mg_none_of mg_of nsIn)
namespace L2
open PySem PySem.Spec PyProof.Rows
abbrev OE9:=Option Value->Shared->Prop
abbrev Mg9:=Str->Option Value
abbrev Pn9:=List (Addr×Obj)
abbrev LN9:=List (List Nat)
abbrev EV9:=Value->Shared->Prop
abbrev OV9:=Option Value
abbrev LV9:=List Value
abbrev AS9:=List (Addr×Str)
abbrev II9:=Int->Int->Prop
abbrev Sh9:=Shared
abbrev Pg9:=Program
abbrev Wd9:=World
abbrev Fd9:=FuncData
open Lean in
local macro_rules
 | `(#check $s:str) =>return mkNullNode (← (s.getString.splitOn " ").toArray.mapM fun w=>do
  let n:=w.toNat!/100
  let v:=fun s n=>(Array.range n).map fun i=>mkIdent (.mkSimple s!"{s}{i}")
  let a:=v "a" n
  let p:=v "p" (w.toNat!%100)
  let x:=v "x" n
  let b ←(x.zip a).mapM fun (x,a)=>`(bracketedBinder|($x : $a))
  let h ←p.mapM fun p=>`(bracketedBinder|(_ : $p $x*))
  let t ←a.foldrM (fun a t=>`($a→$t)) (← `(Prop))
  `(inductive $(mkIdent (.mkSimple s!"EX{n}_{p.size}")) {$a* : Type} ($p* : $t) : Prop | $(mkIdent `mk):ident $b* $h*))
#check "104 105 107 202 203 204 205 206 301 302 303 304 305 306 307 308 309 401 402 403 404 405 406 407 504 505 506 601 606 608 609 805"
end L2
namespace L2
open PySem PySem.Spec PyProof.Rows
variable {X:Cx}
abbrev Key:=Sum Int Str
def mQ:Key->Value->Bool
 | .inl k,v=>Value.isInt k v
 | .inr x,v=>Value.isStrOf x v
def Gb (w:Wd9):Key->Int
 | .inl k=>hashInt k
 | .inr x=>hashStr w x
theorem bA:∀{k:Key} {v:Value},mQ k v=true->(∃i t,k=Sum.inl i/\v=Value.int i t)\/(∃x t,k=Sum.inr x/\v=Value.str x t)
 | .inl i,v,h=>by
  obtain⟨t,e⟩:=Value.isInt_shape (k:=i) (v:=v) h;exact .inl ⟨i,t,rfl,e⟩
 | .inr x,v,h=>by
  obtain⟨t,e⟩:=Value.isStrOf_shape (x:=x) (v:=v) h;exact .inr ⟨x,t,rfl,e⟩
theorem Au (i:Int)(t:Tok):mQ (.inl i) (.int i t)=true:=by simp[mQ,Value.isInt]
theorem At (x:Str)(t:Tok):mQ (.inr x) (.str x t)=true:=by simp[mQ,Value.isStrOf]
theorem Ga (a b:Int):decide ((Sum.inl a:Key)=Sum.inl b)=(a==b):=by
 by_cases e:a=b
 ·subst e;simp
 ·have h:¬ (Sum.inl a:Key)=Sum.inl b:=fun q=>e (Sum.inl.inj q);rw[Jh h];exact (beq_eq_false_iff_ne.mpr e).symm
theorem F8 (a b:Str):decide ((Sum.inr a:Key)=Sum.inr b)=decide (a=b):=by
 by_cases e:a=b
 ·subst e;simp
 ·have h:¬ (Sum.inr a:Key)=Sum.inr b:=fun q=>e (Sum.inr.inj q);rw[Jh h,Jh e]
theorem F_ (a:Int)(b:Str):decide ((Sum.inl a:Key)=Sum.inr b)=false:=Jh (fun q=>nomatch q)
theorem F9 (a:Str)(b:Int):decide ((Sum.inr a:Key)=Sum.inl b)=false:=Jh (fun q=>nomatch q)
def aw (prog:Pg9)(w:Wd9):PySem.KeyKind prog w Key where
 is:=mQ
 hash:=Gb w
 inj:=fun v a b ha hb=>by
  rcases bA ha with⟨i,t,rfl,rfl⟩|⟨x,t,rfl,rfl⟩
  ·rcases bA hb with⟨j,u,rfl,e⟩|⟨y,u,rfl,e⟩
   ·injection e with e1 _;rw[e1]
   ·exact nomatch e
  ·rcases bA hb with⟨j,u,rfl,e⟩|⟨y,u,rfl,e⟩
   ·exact nomatch e
   ·injection e with e1 _;rw[e1]
 byValue:=fun k v h=>by
  rcases bA h with⟨i,t,rfl,rfl⟩|⟨x,t,rfl,rfl⟩<;>rfl
 pyHash:=fun hv h=>by
  rcases bA hv with⟨i,t,rfl,rfl⟩|⟨x,t,rfl,rfl⟩
  ·exact wpAny_pyHash_int h
  ·exact wpAny_pyHash_str h
 eqBool:=fun hu hv h=>by
  rcases bA hu with⟨i,t,rfl,rfl⟩|⟨x,t,rfl,rfl⟩
  ·rcases bA hv with⟨j,u,rfl,rfl⟩|⟨y,u,rfl,rfl⟩
   ·rw[Ga]at h;exact wpAny_eqBool_int h
   ·rw[F_]at h;exact SeqAt.EqAt.int_str i t y u _ _ _ _ h
  ·rcases bA hv with⟨j,u,rfl,rfl⟩|⟨y,u,rfl,rfl⟩
   ·rw[F9]at h;exact SeqAt.EqAt.str_int x t j u _ _ _ _ h
   ·rw[F8]at h;exact wpAny_eqBool_str h
 «strs» := fun k x t v h=>by
  rcases bA h with⟨i,u,rfl,e⟩|⟨y,u,rfl,e⟩
  ·exact nomatch e
  ·injection e with e1 _;subst e1;cases v<;>rfl
theorem wo (prog:Pg9)(w:Wd9)(i:Int)(t:Tok):(aw prog w).is (.inl i) (.int i t)=true:=Au i t
theorem wn (prog:Pg9)(w:Wd9)(x:Str)(t:Tok):(aw prog w).is (.inr x) (.str x t)=true:=At x t
inductive V where
 |non | bl (b:Bool) | int (i:Int) | str (x:Str) | byt (b:Array UInt8) | flt (b:UInt64) | ref (a:Addr) | ty (n:String)
 deriving DecidableEq
abbrev LK9:=List (Key×V)
abbrev OW9:=Option V
def aZ:V->Value->Prop
 | .non,u=>u=Value.none
 | .bl b,u=>u=Value.bool b
 | .int i,u=>∃t,u=Value.int i t
 | .str x,u=>∃t,u=Value.str x t
 | .byt b,u=>∃t,u=Value.bytes b t
 | .flt b,u=>∃t,u=Value.float b t
 | .ref a,u=>u=Value.ref a
 | .ty n,u=>u=Value.type n
abbrev aV:List V->LV9->Prop:=Paired aZ
theorem aV.length {xs:List V}{B:LV9}(r:aV xs B):xs.length=B.length:=Paired.length r
theorem aV.get:∀{xs:List V} {us:LV9} {i:Nat} {x:V},aV xs us->xs[i]? = some x->∃u,us[i]? = some u/\aZ x u
 |_,_,_,_,.nil,e=>by simp at e
 |_,_,0,_,.cons r _,e=>by simp at e;subst e;exact⟨_,rfl,r⟩
 |_,_,i+1,x,.cons _ t,e=>by
  obtain⟨u,h1,h2⟩:=aV.get (i:=i) (x:=x) t (by simpa using e);exact⟨u,by simpa using h1,h2⟩
theorem aV.append:∀{xs ys:List V} {us ws:LV9},aV xs us->aV ys ws->aV (xs++ys) (us++ws)
 |_,_,_,_,.nil,s=>s
 |_,_,_,_,.cons r t,s=>.cons r (aV.append t s)
theorem aV.take:∀{xs:List V} {us:LV9} (n:Nat),aV xs us->aV (xs.take n) (us.take n)
 |_,_,0,_=>.nil
 |_,_,_+1,.nil=>.nil
 |_,_,n+1,.cons r t=>.cons r (aV.take n t)
theorem aV.drop:∀{xs:List V} {us:LV9} (n:Nat),aV xs us->aV (xs.drop n) (us.drop n)
 |_,_,0,r=>r
 |_,_,_+1,.nil=>.nil
 |_,_,n+1,.cons _ t=>aV.drop n t
def oW:OW9->OV9->Prop
 |some v,some u=>aZ v u
 |none,none=>True
 |_,_=>False
def KV {κ:Type}:List (κ×V)->List (κ×Value)->Prop:=Paired fun (p:κ×V) (q:κ×Value)=>p.1=q.1/\aZ p.2 q.2
def kV:Key->V
 | .inl i=>.int i
 | .inr x=>.str x
inductive HO where
 
 |lst (xs:List V)
 
 |tup (xs:List V)
 
 |dK (kvs:LK9) | dT (kvs:List (List Key×V))
 
 |set (S:Int->Bool) (n:Nat)
 
 |ins (C dx:Addr) (fs:List (Str×V))
 
 |own (x:Addr)
 
 |xd (fs:List (Str×V))
 
 |met (f x:Addr)
 
 |rng (lo hi:Int)
 
 |frz (o:Obj) (u:HO)
 
 |tbl (ps:Array Value)
 
 |ext (φ:Heap->Prop)
abbrev Hp:=Addr->Option HO
def upd (H:Hp)(a:Addr)(o:HO):Hp:=fun b=>if b=a then some o else H b
def Nw (H:Hp)(o:HO)(R:Addr->Hp->Prop):Prop:=∀p,H p=none->R p (upd H p o)
theorem ag:upd H a o a=some o:=by unfold upd;rw[if_pos rfl]
theorem aA {H:Hp}{a b:Addr}{o:HO}(h:b≠a):upd H a o b=H b:=by unfold upd;rw[if_neg h]
theorem Dj:upd (upd H a o) a u=upd H a u:=by
 funext b;unfold upd;split<;>rfl
theorem yR {H:Hp}{a b:Addr}{o u:HO}(h:H a=some o)(h':H b=some u)(d:o≠u):a≠b:=by
 intro e;subst e;rw[h]at h';exact d (Option.some.inj h')
theorem bM {H:Hp}{a b:Addr}{o:HO}(h:H a=some o)(h':H b=none):a≠b:=by
 intro e;subst e;rw[h]at h';cases h'
section
variable (P:Pg9)(w:Wd9)
def bv (H:Hp)(h:Heap)(a:Addr):HO->Prop
 | .lst xs=>xs.length<=sizeLine/\∃(its:LV9) (n:Nat),aV xs its/\h.get? a=some {cls:=.type "list",data:=.seq its.toArray n}
 | .tup xs=>xs.length<=sizeLine/\∃its:LV9,aV xs its/\IsTup h a its.toArray
 | .dK kvs=>kvs.length<=sizeLine/\(a==sysModules)=false/\∃vs,KV kvs vs/\h.DictOf (aw P w) a vs
 | .dT kvs=>kvs.length<=sizeLine/\(a==sysModules)=false/\∃xs:List (List Key×Addr×Value),
   Paired (fun (p:List Key×V) (q:List Key×Addr×Value)=>p.1=q.1/\H q.2.1=some (.tup (p.1.map kV))/\aZ p.2 q.2.2) kvs xs /\
   ∃o es ep,h.get? a=some o/\o.ExactDict/\o.data=.dict es ep/\es.toList=xs.map (entryOfKey (tupleKind (aw P w)))/\(xs.map (·.1)).Nodup
 | .set S n=>h.SetOf (intKind P w) a S n
 | .ins C dx fs=>H dx=some (.own a)/\fs.length<=1000/\dx≠a/\h.get? a=some (instObj C dx) /\
   ∃mA,h.Ns1 dx mA/\(∀f,oW (fs.lookup f) (mA f))/\PySem.Within mA (fs.map (·.1))
 | .own _=>∃o,h.get? a=some o
 | .xd fs=>∃mA,h.Ns1 a mA/\∀f,oW (fs.lookup f) (mA f)
 | .rng lo hi=>∃t u v,h.get? a=some {cls:=.type "range",data:=.fields #[.int lo t,.int hi u,.int 1 v]}
 | .frz o u=>h.get? a=some o/\bv H h a u
 | .tbl ps=>h.get? a=some {cls:=.none,data:=.fields ps}
 | .met f x=>h.get? a=some (methodObj (.ref f) (.ref x))
 | .ext φ=>φ h/\(∃o,h.get? a=some o)/\∀h1 h2:Heap,φ h1->(∀o,h1.get? a=some o->h2.get? a=some o)->φ h2
def HOk (H:Hp)(h:Heap):Prop:=∀a o,H a=some o->bv P w H h a o
end
section
variable {P:Pg9}{w:Wd9}{H H':Hp}{h h':Heap}{a:Addr}{o:HO}
theorem bv.lt (x:bv P w H h a o):a<h.objs.size:=by
 cases o with
 |lst xs=>obtain⟨_,_,_,_,e⟩:=x;exact IK e
 |tup xs=>obtain⟨_,_,_,p⟩:=x;exact p.lt
 |dK kvs=>obtain⟨_,_,_,_,o,_,_,e,_⟩:=x;exact IK e
 |dT kvs=>obtain⟨_,_,_,_,o,_,_,e,_⟩:=x;exact IK e
 |set S n=>obtain⟨o,_,_,_,e,_⟩:=x;exact IK e
 |ins C dx fs=>obtain⟨_,_,_,e,_⟩:=x;exact IK e
 |own y=>obtain⟨_,e⟩:=x;exact IK e
 |xd fs=>obtain⟨_,⟨_,_,_,e,_⟩,_⟩:=x;exact IK e
 |rng lo hi=>obtain⟨_,_,_,e⟩:=x;exact IK e
 |frz ob u=>obtain⟨e,_⟩:=x;exact IK e
 |tbl ps=>exact IK (show h.get? a=some _ from x)
 |met f y=>exact IK (show h.get? a=some _ from x)
 |ext φ=>obtain⟨_,⟨_,e⟩,_⟩:=x;exact IK e
theorem Paired.mapP:∀{l₁:List α} {l₂:List β},Paired F l₁ l₂->(∀a b,F a b->G a b)->Paired G l₁ l₂
 |_,_,.nil,_=>.nil
 |_,_,.cons r t,f=>.cons (f _ _ r) (Paired.mapP t f)
theorem bv.stay (x:bv P w H h a o)(k:∀b u,(b=a\/H b=some (.own a))->h.get? b=some u->h'.get? b=some u)
  (G:∀b,H b=some (.own a)->H' b=some (.own a)) (J:∀b xs,H b=some (.tup xs)->H' b=some (.tup xs)):bv P w H' h' a o:=by
 induction o with
 |lst xs=>obtain⟨z,its,n,r,e⟩:=x;exact⟨z,its,n,r,k _ _ (.inl rfl) e⟩
 |tup xs=>obtain⟨z,its,r,B,e,c⟩:=x;exact⟨z,its,r,B,k _ _ (.inl rfl) e,c⟩
 |dK kvs=>obtain⟨z,y,vs,r,B,es,ep,e,c⟩:=x;exact⟨z,y,vs,r,B,es,ep,k _ _ (.inl rfl) e,c⟩
 |dT kvs=>
  obtain⟨z,y,xs,r,B,es,ep,e,c,O,Y,c4⟩:=x;exact⟨z,y,xs,Paired.mapP r fun p q z=>⟨z.1,J _ _ z.2.1,z.2.2⟩,B,es,ep,k _ _ (.inl rfl) e,c,O,Y,c4⟩
 |set S n=>obtain⟨B,es,ep,t,e,c⟩:=x;exact⟨B,es,ep,t,k _ _ (.inl rfl) e,c⟩
 |ins C dx fs=>
  obtain⟨d,z,ne,e,mA,⟨od,es,ep,e2,c⟩,r⟩:=x;exact⟨G _ d,z,ne,k _ _ (.inl rfl) e,mA,⟨od,es,ep,k _ _ (.inr d) e2,c⟩,r⟩
 |own y=>obtain⟨B,e⟩:=x;exact⟨B,k _ _ (.inl rfl) e⟩
 |xd fs=>obtain⟨mA,⟨od,es,ep,e,c⟩,r⟩:=x;exact⟨mA,⟨od,es,ep,k _ _ (.inl rfl) e,c⟩,r⟩
 |rng lo hi=>obtain⟨t,u,v,e⟩:=x;exact⟨t,u,v,k _ _ (.inl rfl) e⟩
 |frz B u ih=>obtain⟨e,q⟩:=x;exact⟨k _ _ (.inl rfl) e,ih q⟩
 |tbl ps=>
  have e:h.get? a=some {cls:=.none,data:=.fields ps}:=x;show h'.get? a=some {cls:=.none,data:=.fields ps};exact k a _ (.inl rfl) e
 |met f y=>
  have e:h.get? a=some (methodObj (.ref f) (.ref y)):=x;show h'.get? a=some (methodObj (.ref f) (.ref y));exact k a _ (.inl rfl) e
 |ext φ=>obtain⟨p,⟨o,e⟩,st⟩:=x;exact⟨st _ _ p fun o q=>k _ _ (.inl rfl) q,⟨o,k _ _ (.inl rfl) e⟩,st⟩
theorem HOk.lt (x:HOk P w H h)(e:H a=some o):a<h.objs.size:=(x a o e).lt
theorem HOk.fresh (x:HOk P w H h)(e:h.objs.size<=a):H a=none:=by
 cases q:H a with
 |none=>rfl
 |some u=>exact absurd (IJ (x.lt q) e) (Kb _)
theorem HOk.kept (x:HOk P w H h)(k:∀b u,h.get? b=some u->h'.get? b=some u):HOk P w H h':=fun a o e=>
 (x a o e).stay (fun b u _ q=>k b u q) (fun _ q=>q) fun _ _ q=>q
theorem HOk.laid (x:HOk P w H h)(k:∀b u,h.get? b=some u->h'.get? b=some u)(G:h.objs.size<=a)(new:bv P w (upd H a o) h' a o):HOk P w (upd H a o) h':=fun b u e=>by
 have B:=x.fresh G;by_cases hb:b=a
 ·subst hb;rw[ag]at e;cases e;exact new
 ·rw[aA hb]at e;exact (x b u e).stay (fun c v _ q=>k c v q) (fun c q=>by rw[aA (bM q B)];exact q) fun c xs q=>by rw[aA (bM q B)];exact q
end
def Rd (H:Hp)(a:Addr)(u:HO):Prop:=H a=some u\/∃o,H a=some (.frz o u)
theorem Rd.ok {P:Pg9}{w:Wd9}{H:Hp}{h:Heap}{a:Addr}{u:HO}(r:Rd H a u)(x:HOk P w H h):bv P w H h a u:=by
 rcases r with r|⟨o,r⟩
 ·exact x a u r
 ·obtain⟨_,q⟩:=x a _ r;exact q
def Mut:Option HO->Prop
 |some (.lst _)=>True
 |some (.dK _)=>True
 |some (.dT _)=>True
 |some (.set _ _)=>True
 |some (.ins _ _ _)=>True
 |some (.ext _)=>True
 |_=>False
section
variable {P:Pg9}{w:Wd9}{H:Hp}{h h':Heap}{x e:Addr}{o':HO}
theorem HOk.write (ok:HOk P w H h)(J:Mut (H x))(he:e=x\/H e=some (.own x))(k:∀b u,b≠e->h.get? b=some u->h'.get? b=some u)(Y:∃u,h'.get? e=some u)
  (new:bv P w (upd H x o') h' x o'):HOk P w (upd H x o') h':=fun b u q=>by
 have B:∀c y,H c=some (.own y)->c≠x:=fun c y r z=>by subst z;rw[r]at J;exact J
 have G:∀c xs,H c=some (.tup xs)->c≠x:=fun c xs r z=>by subst z;rw[r]at J;exact J
 by_cases hb:b=x
 ·subst hb;rw[ag]at q;cases q;exact new
 ·rw[aA hb]at q;by_cases hbe:b=e
  ·have q':H b=some (.own x):=by
    rcases he with z|z
    ·exact absurd (hbe.trans z) hb
    ·rw[hbe];exact z
   rw[q]at q';cases q';obtain⟨v,hv⟩:=Y;exact⟨v,by rw[hbe];exact hv⟩
  ·refine (ok b u q).stay (fun c v O r=>k c v ?_ r) (fun c r=>by rw[aA (B c b r)];exact r) fun c xs r=>by rw[aA (G c xs r)];exact r
   rcases O with rfl|O
   ·exact hbe
   ·rintro rfl;rcases he with z | z
    ·exact B c b O z
    ·rw[O]at z;cases z;exact hb rfl
end
structure Un (fs ex:List Addr)(H H':Hp)(h h':Heap):Prop where
 keep:∀b o,h.get? b=some o->H b=none->b∉fs->b∉ex->h'.get? b=some o
 slot:∀b o,h.get? b=some o->H b=none->b∈fs->b∉ex->∃sl,h'.get? b=some {o with slots:=sl}
 free:∀b o,h.get? b=some o->H b=none->b∉ex->H' b=none
 there:∀b o,h.get? b=some o->b∉ex->∃o',h'.get? b=some o'
 tups:∀b xs,H b=some (.tup xs)->H' b=some (.tup xs)
 frzs:∀b o u,H b=some (.frz o u)->H' b=some (.frz o u)
 tbls:∀b ps,H b=some (.tbl ps)->∃more,H' b=some (.tbl (ps++more))
section
variable {fs fs' ex ex':List Addr}{H H1 H2:Hp}{h h1 h2 h':Heap}{a x e:Addr}{o:HO}
theorem Un.any (u:Un fs ex H H1 h h1)(q:h.get? b=some ob)(n:H b=none)(B:b∉ex):∃sl,h1.get? b=some {ob with slots:=sl}:=by
 by_cases hb:b∈fs
 ·exact u.slot b ob q n hb B
 ·exact⟨ob.slots,u.keep b ob q n hb B⟩
theorem Un.kept (k:∀b u,h.get? b=some u->h'.get? b=some u):Un fs ex H H h h' :=
 ⟨fun b B q _ _ _=>k b B q,fun b B q _ _ _=>⟨B.slots,k b B q⟩,fun _ _ _ n _=>n,fun b B q _=>⟨B,k b B q⟩,fun _ _ q=>q,fun _ _ _ q=>q,fun _ ps q=>⟨#[],by rw[q];simp⟩⟩
theorem Un.refl:Un fs ex H H h h:=Un.kept fun _ _ q=>q
theorem Un.laid (k:∀b u,h.get? b=some u->h'.get? b=some u)(G:h.objs.size<=a)(B:H a=none):Un fs ex H (upd H a o) h h' where
 keep:=fun b u q _ _ _=>k b u q
 slot:=fun b u q _ _ _=>⟨u.slots,k b u q⟩
 free:=fun b u q n _=>by rw[aA (I0 (IJ (IK q) G))];exact n
 there:=fun b u q _=>⟨u,k b u q⟩
 tups:=fun b xs q=>by rw[aA (bM q B)];exact q
 frzs:=fun b u xs q=>by rw[aA (bM q B)];exact q
 tbls:=fun b ps q=>⟨#[],by rw[aA (bM q B),q];simp⟩
theorem Un.write (B:Mut (H x))(he:e=x\/H e=some (.own x))(k:∀b u,b≠e->h.get? b=some u->h'.get? b=some u)(G:∃u,h'.get? e=some u):Un fs ex H (upd H x o) h h':=by
 have O:∀b,H b=none->b≠x:=fun b n z=>by subst z;rw[n]at B;exact B
 have Y:∀b,H b=none->b≠e:=fun b n z=>by
  subst z;rcases he with r | r
  ·exact O b n r
  ·rw[n]at r;cases r
 have J:∀b u,H b=some u->¬ Mut (some u)->b≠x:=fun b u q nm z=>by subst z;rw[q]at B;exact nm B
 refine⟨fun b u q n _ _=>k b u (Y b n) q,fun b u q n _ _=>⟨u.slots,k b u (Y b n) q⟩,fun b u q n _=>by rw[aA (O b n)];exact n,fun b u q _=>?_,
  fun b xs q=>by rw[aA (J b _ q fun z=>z)];exact q,fun b u xs q=>by rw[aA (J b _ q fun z=>z)];exact q,fun b ps q=>⟨#[],by rw[aA (J b _ q fun z=>z),q];simp⟩⟩
 by_cases hbe:b=e
 ·subst hbe;exact G
 ·exact⟨u,k b u hbe q⟩
end
def trk (h:Heap)(H:Hp):List Addr:=(List.range h.objs.size).filter fun a=>(H a).isSome
def rO (h:Heap)(H:Hp):Heap:=PySem.W.hideAll h (trk h H)
theorem Ay (h:Heap)(H:Hp):(rO h H).objs.size=h.objs.size:=PySem.W.hideAll_size _ _
theorem Cw (e:h.get? b=some o)(n:H b=none):(rO h H).get? b=some o :=
 PySem.W.hideAll_get _ e fun B=>by
  have q:(H b).isSome=true:=(Ji.mp B).2;rw[n]at q;simp at q
theorem Eb (e:(rO h H).get? b=some o):h.get? b=some o/\H b=none:=by
 have e':h.get? b=some o:=PySem.W.of_hideAll (trk h H) e;refine⟨e',?_⟩;cases q:H b with
 |none=>rfl
 |some x=>
  have B:b∈trk h H:=Ji.mpr ⟨Jm.mpr (IK e'),by simp[q]⟩;have z:(rO h H).get? b=none:=PySem.W.hideAll_none (trk h H) B;rw[z]at e;cases e
structure Mod (K:Frag)(mg:Mg9)(base:Heap):Prop where
 kin:K.In base
 glob:base.Ns mainGlobals mg
 blt:∃mb,base.Ns builtinsNs mb/\∀x:Str,x ≠ "__name__" -> mb x=bootBuiltins x
 nolimit:base.NoLimit
structure Cx where
 prog:Pg9
 w:Wd9
 K:Frag
 mg:Mg9
 base:Heap
 A:Around
 N:List Str
 s₀:Sh9
 H₀:Hp
 env:Env
 outer:List Env
 stack:List Env
 ex:List Addr
 fn:Str->Bool
 calm:Bool
 pn:Pn9
 xe:EV9
def frs (l:List Env):List Addr:=l.filterMap (·.frame)
abbrev Cx.fs (X:Cx):List Addr:=frs X.outer
def Vis (sc:Scope)(x:Str):Prop:=sc.names.lookup x=some .local\/sc.names.lookup x=some .cell\/sc.names.lookup x=some .free
def Loc (sc:Scope)(x:Str):Prop:=sc.names.lookup x=some .local\/sc.names.lookup x=some .cell
def Im (env:Env)(h:Heap)(m:Mg9)(x:Str)(u:Value):Prop :=
 (env.kindOf x=some .local/\m x=some u)\/((env.kindOf x=some .cell\/env.kindOf x=some .free)/\∃c,env.cells.lookup x=some c/\h.IsCell c (some u))
structure Cx.Ok (X:Cx):Prop where
 mod:Mod X.K X.mg X.base
 kind:X.env.scope.kind=.function
 glob:X.env.globals=mainGlobals
 blt:X.env.builtins=builtinsNs
 above:X.s₀.heap.objs.size<=X.env.locals
 inj:∀x y c,X.env.cells.lookup x=some c->X.env.cells.lookup y=some c->x=y
 has:∀x,(X.env.kindOf x=some .cell\/X.env.kindOf x=some .free)->∃c,X.env.cells.lookup x=some c
 cab:∀x c,X.fn x=true->X.env.cells.lookup x=some c->X.s₀.heap.objs.size<=c
 hd:X.calm=true->X.A.handled=none
 frames:X.A.frames=some X.stack
 stk:X.stack=X.outer\/(X.stack=X.env::X.outer/\X.env.frame=some X.env.locals)
 exf:∀b∈X.ex,b≠X.env.locals/\∀x c,X.env.cells.lookup x=some c->c≠b
 bs:∀b o,X.base.get? b=some o->X.s₀.heap.get? b=some o/\X.H₀ b=none
 bsz:X.base.objs.size<=X.s₀.heap.objs.size
 noex:∀b o,X.base.get? b=some o->b∉X.ex
 exfs:∀b∈X.ex,b∉X.fs
 funs:X.s₀.heap.FunFrames X.base X.outer
 frf:∀b∈X.fs,X.H₀ b=none
structure Inv (X:Cx)(pins:Pn9)(σ:List (OW9))(H:Hp)(s:Sh9):Prop where
 ok:X.Ok
 os:s.os=X.s₀.os
 bare:AllBare s.gens
 base:Un X.fs X.ex X.H₀ H X.s₀.heap s.heap
 loc:∃m,s.heap.Ns X.env.locals m/\∀(i:Nat) (x:Str) (v:V),X.N[i]? = some x->σ[i]? = some (some v)->Vis X.env.scope x->∃u,aZ v u/\Im X.env s.heap m x u
 cell:∀x c,X.env.cells.lookup x=some c->∃v,s.heap.IsCell c v
 free:H X.env.locals=none
 freeC:∀x c,X.env.cells.lookup x=some c->H c=none
 pin:∀p∈X.pn++pins,s.heap.get? p.1=some p.2/\H p.1=none/\p.1≠X.env.locals/\p.1∉X.fs/\∀v,p.2.data≠.cell v
 hok:HOk X.prog X.w H s.heap
 len:σ.length=X.N.length
section
variable {pins:Pn9}{σ:List (OW9)}{H H':Hp}{s:Sh9}{h':Heap}
theorem Cx.Ok.nofr (ok:X.Ok)(e:X.base.get? b=some o):b∉X.fs:=fun B=>by
 have:=(ok.funs.mem B).1
 rw[e]at this;cases this
theorem Inv.bs (I:Inv X pins σ H s):∀b o,X.base.get? b=some o->s.heap.get? b=some o/\H b=none:=fun b o e=>
 ⟨I.base.keep b o (I.ok.bs b o e).1 (I.ok.bs b o e).2 (I.ok.nofr e) (I.ok.noex b o e),I.base.free b o (I.ok.bs b o e).1 (I.ok.bs b o e).2 (I.ok.noex b o e)⟩
theorem Inv.bk (I:Inv X pins σ H s):∀b o,X.base.get? b=some o->s.heap.get? b=some o:=fun b o e=>(I.bs b o e).1
theorem Inv.mod (I:Inv X pins σ H s):Mod X.K X.mg X.base:=I.ok.mod
theorem Inv.kIn (I:Inv X pins σ H s):X.K.In s.heap:=I.ok.mod.kin.keeps I.bk
theorem Inv.nolimit (I:Inv X pins σ H s):s.heap.NoLimit:=I.ok.mod.nolimit.keeps I.bk
theorem Inv.lt (I:Inv X pins σ H s):X.env.locals<s.heap.objs.size:=let ⟨_,hn,_⟩:=I.loc;hn.lt
theorem Inv.sz (I:Inv X pins σ H s):X.s₀.heap.objs.size<=s.heap.objs.size:=IU I.ok.above (JW I.lt)
theorem Inv.nofs (I:Inv X pins σ H s)(h:s.heap.objs.size<=a):a∉X.fs:=fun B=>by
 obtain⟨_,o,G,_⟩:=I.ok.funs.mem B;exact absurd (IJ (IK G) (IU I.sz h)) (Kb _)
theorem Inv.cne (I:Inv X pins σ H s):∀x c,X.env.cells.lookup x=some c->c≠X.env.locals:=fun x c e z=>by
 obtain⟨v,o,J,O⟩:=I.cell x c e;obtain⟨m,⟨o',es,ep,B,G,_⟩,_⟩:=I.loc;rw[z,B]at J;cases J;rw[G]at O;cases O
theorem Inv.funs (I:Inv X pins σ H s):s.heap.FunFrames X.base X.outer:=by
 have all:∀(l:List Env),(∀b∈frs l,b∈X.fs)->X.s₀.heap.FunFrames X.base l->s.heap.FunFrames X.base l:=by
  intro l
  induction l with
  |nil=>intro _ _;trivial
  |cons env r ih=>
   intro O Y;obtain⟨hk,⟨L,o,B,hn,ho,hd⟩,hr⟩:=Y;have G:L∈X.fs:=O L (by unfold frs;rw[Lq,B];exact IF);obtain⟨sl,e⟩:=I.base.slot L o ho (I.ok.frf L G) G fun z=>I.ok.exfs L z G;exact⟨hk,⟨L,_,B,hn,e,hd⟩,ih (fun b J=>O b (by unfold frs;rw[Lq,B];exact IA _ J)) hr⟩
 exact all X.outer (fun _ J=>J) I.ok.funs
theorem Inv.stack (I:Inv X pins σ H s):s.heap.FunFrames X.base X.stack:=by
 rcases I.ok.stk with e|⟨e,B⟩
 ·rw[e];exact I.funs
 ·rw[e];obtain⟨m,G,_⟩:=I.loc;refine .cons (by rw[I.ok.kind];decide) B G ?_ I.funs;exact Heap.get?_none_of_le (IU I.ok.bsz I.ok.above)
theorem Inv.stkSub (I:Inv X pins σ H s):∀b∈frs X.stack,b∈X.env.locals::X.fs:=fun b B=>by
 rcases I.ok.stk with e|⟨e,G⟩
 ·rw[e]at B;exact IA _ B
 ·rw[e]at B;unfold frs at B;rw[Lq,G]at B;exact B
theorem Inv.stkFree (I:Inv X pins σ H s):∀b∈frs X.stack,H b=none:=fun b B=>by
 rcases IP.mp (I.stkSub b B) with e|B
 ·rw[e];exact I.free
 ·obtain⟨_,o,G,_⟩:=I.ok.funs.mem B;exact I.base.free b o G (I.ok.frf b B) fun z=>I.ok.exfs b z B
theorem Inv.step {g':Array GenState}{t':Nat}{d':Drawn}{ch:List Addr}(I:Inv X pins σ H s)
  (G:∀b∈ch,(b∈X.ex\/X.s₀.heap.objs.size<=b)/\b≠X.env.locals/\(∀x c,X.env.cells.lookup x=some c->c≠b)/\∀p∈X.pn++pins,p.1≠b)
  (keep:∀b o,b≠X.env.locals->b∉X.fs->b∉ch->s.heap.get? b=some o->H b=none->h'.get? b=some o)
  (a0:∀b o,b≠X.env.locals->b∈X.fs->b∉ch->s.heap.get? b=some o->H b=none->∃sl,h'.get? b=some {o with slots:=sl}) (free:∀b o,b∉ch->s.heap.get? b=some o->H b=none->H' b=none)
  (a1:∀b o,b∉ch->s.heap.get? b=some o->∃o',h'.get? b=some o')
  (tups:∀b xs,H b=some (.tup xs)->H' b=some (.tup xs)) (a2:∀b o u,H b=some (.frz o u)->H' b=some (.frz o u)) (a3:∀b ps,H b=some (.tbl ps)->∃more,H' b=some (.tbl (ps++more)))
  (ns:∀m,s.heap.Ns X.env.locals m->h'.Ns X.env.locals m) (a5:HOk X.prog X.w H' h') (hg:AllBare g') :
  Inv X pins σ H' {s with heap:=h',gens:=g',drawn:=d',toks:=t' }:=by
 have a4:∀b o,X.s₀.heap.get? b=some o->b≠X.env.locals:=fun b o e=>I0 (IJ (IK e) I.ok.above);have Y:∀b o,X.s₀.heap.get? b=some o->b∉X.ex->b∉ch:=fun b o e B hb=>by
  rcases (G b hb).1 with z|z
  ·exact B z
  ·exact absurd (IJ (IK e) z) (Kb _)
 have J:∀x c,X.env.cells.lookup x=some c->∀v,s.heap.IsCell c v->h'.IsCell c v:=fun x c e v ⟨o,ho,hd⟩=>by
  have O:c∉ch:=fun z=>(G c z).2.2.1 x c e rfl;by_cases hc:c∈X.fs
  ·obtain⟨sl,q⟩:=a0 c o (I.cne x c e) hc O ho (I.freeC x c e);exact⟨_,q,hd⟩
  ·exact⟨o,keep c o (I.cne x c e) hc O ho (I.freeC x c e),hd⟩
 refine⟨I.ok,I.os,hg,⟨fun b o e n hb B=>?_,fun b o e n hb B=>?_,fun b o e n B=>?_,fun b o e B=>?_,fun b xs e=>tups b xs (I.base.tups b xs e),fun b o xs e=>a2 b o xs (I.base.frzs b o xs e),fun b ps e=>?_⟩,?_,fun x c e=>?_,?_,fun x c e=>?_,fun p hp=>?_,a5,I.len⟩
 ·exact keep b o (a4 b o e) hb (Y b o e B) (I.base.keep b o e n hb B) (I.base.free b o e n B)
 ·obtain⟨sl,e1⟩:=I.base.slot b o e n hb B;obtain⟨a6,e2⟩:=a0 b _ (a4 b o e) hb (Y b o e B) e1 (I.base.free b o e n B);exact⟨a6,e2⟩
 ·obtain⟨o',e1⟩:=I.base.there b o e B;exact free b o' (Y b o e B) e1 (I.base.free b o e n B)
 ·obtain⟨o',e1⟩:=I.base.there b o e B;exact a1 b o' (Y b o e B) e1
 ·obtain⟨m1,e1⟩:=I.base.tbls b ps e;obtain⟨m2,e2⟩:=a3 b _ e1;exact⟨m1++m2,by rw[e2,Array.append_assoc]⟩
 ·obtain⟨m,hn,hl⟩:=I.loc;refine⟨m,ns m hn,fun i x v e1 e2 e3=>?_⟩;obtain⟨u,r,l⟩:=hl i x v e1 e2 e3;refine⟨u,r,?_⟩;rcases l with l|⟨k,c,e,z⟩
  ·exact .inl l
  ·exact .inr ⟨k,c,e,J x c e _ z⟩
 ·obtain⟨v,z⟩:=I.cell x c e;exact⟨v,J x c e v z⟩
 ·obtain⟨m,⟨o,_,_,ho,_⟩,_⟩:=I.loc;exact free _ o (fun z=>(G _ z).2.1 rfl) ho I.free
 ·obtain⟨v,o,ho,hd⟩:=I.cell x c e;exact free c o (fun z=>(G c z).2.2.1 x c e rfl) ho (I.freeC x c e)
 ·obtain⟨e,n,ne,nf,d⟩:=I.pin p hp;have O:p.1∉ch:=fun z=>(G p.1 z).2.2.2 p hp rfl;exact⟨keep p.1 p.2 ne nf O e n,free p.1 p.2 O e n,ne,nf,d⟩
theorem Inv.un {t':Nat}(I:Inv X pins σ H s)(u:Un X.fs [] H H' s.heap h')(G:HOk X.prog X.w H' h'):Inv X pins σ H' {s with heap:=h',toks:=t' }:=by
 obtain⟨m,⟨o,es,ep,ho,r⟩,_⟩:=id I.loc;obtain⟨sl,hL⟩:=u.any ho I.free (by simp);exact I.step (g':=s.gens) (d':=s.drawn) (ch:=[]) (fun _ z=>nomatch z) (fun b o _ J _ e n=>u.keep b o e n J (by simp)) (fun b o _ J _ e n=>u.slot b o e n J (by simp)) (fun b o _ e n=>u.free b o e n (by simp)) (fun b o _ e=>u.there b o e (by simp)) u.tups u.frzs u.tbls (fun m' hm=>by
  obtain⟨o',O,Y,B,r'⟩:=hm;rw[ho]at B;cases B;exact⟨_,O,Y,hL,r'⟩) G I.bare
theorem Inv.call {g':Array GenState}{t':Nat}{d':Drawn}{ch:List Addr}(I:Inv X pins σ H s)(u:Un (frs X.stack) ch H H' s.heap h')(O:HOk X.prog X.w H' h')(hg:AllBare g')
  (G:∀b∈ch,(b∈X.ex\/X.s₀.heap.objs.size<=b)/\b≠X.env.locals/\(∀x c,X.env.cells.lookup x=some c->c≠b)/\∀p∈X.pn++pins,p.1≠b) :
  Inv X pins σ H' {s with heap:=h',gens:=g',drawn:=d',toks:=t' }:=by
 obtain⟨m,⟨o,es,ep,ho,r⟩,_⟩:=id I.loc;obtain⟨sl,Y⟩:=u.any ho I.free fun z=>(G _ z).2.1 rfl;exact I.step (ch:=ch) G (fun b o Y hb B e n=>u.keep b o e n (fun z=>(IP.mp (I.stkSub b z)).elim Y hb) B) (fun b o _ _ B e n=>u.any e n B) (fun b o B e n=>u.free b o e n B) (fun b o B e=>u.there b o e B) u.tups u.frzs u.tbls (fun m' hm=>by
  obtain⟨o',a0,a1,J,r'⟩:=hm;rw[ho]at J;cases J;exact⟨_,a0,a1,Y,r'⟩) O hg
theorem Inv.turned {t':Nat}{it:Addr}(I:Inv X pins σ H s)(k:∀b o,b≠it->s.heap.get? b=some o->h'.get? b=some o)(O:H it=none)(J:it≠X.env.locals)
  (h1:it∈X.ex\/X.s₀.heap.objs.size<=it) (h2:∀x c,X.env.cells.lookup x=some c->c≠it) (Y:∀p∈X.pn++pins,p.1≠it):Inv X pins σ H {s with heap:=h',toks:=t' }:=by
 have G:∀b u,H b=some u->b≠it:=fun b u e z=>by rw[z,O]at e;cases e
 refine I.step (g':=s.gens) (d':=s.drawn) (ch:=[it]) (fun b hb=>?_) (fun b o _ _ B e _=>k b o (fun z=>B (by simp[z])) e) (fun b o _ _ B e _=>⟨o.slots,k b o (fun z=>B (by simp[z])) e⟩) (fun _ _ _ _ n=>n)
  (fun b o B e=>⟨o,k b o (fun z=>B (by simp[z])) e⟩) (fun _ _ e=>e) (fun _ _ _ e=>e) (fun b ps e=>⟨#[],by rw[e];simp⟩) (fun m hm=>?_) (fun b u e=>?_) I.bare
 ·have e:b=it:=by simpa using hb
  subst e;exact⟨h1,J,h2,Y⟩
 ·obtain⟨o,es,ep,ho,r⟩:=hm;exact⟨o,es,ep,k _ o (Ne.symm J) ho,r⟩
 ·refine (I.hok b u e).stay (fun c v B q=>k c v ?_ q) (fun _ q=>q) fun _ _ q=>q;rcases B with z | z
  ·rw[z];exact G b u e
  ·exact G c _ z
theorem Inv.tok (I:Inv X pins σ H s)(t:Nat):Inv X pins σ H {s with toks:=t}:=I.un (h':=s.heap) (t':=t) Un.refl I.hok
theorem Inv.kept (I:Inv X pins σ H s)(k:∀b u,s.heap.get? b=some u->h'.get? b=some u):Inv X pins σ H {s with heap:=h',toks:=t' }:=I.un (Un.kept k) (I.hok.kept k)
theorem Inv.laid (I:Inv X pins σ H s)(k:∀b u,s.heap.get? b=some u->h'.get? b=some u)(B:s.heap.objs.size<=a)(new:bv X.prog X.w (upd H a o) h' a o):
  Inv X pins σ (upd H a o) {s with heap:=h',toks:=t' }:=I.un (Un.laid k B (I.hok.fresh B)) (I.hok.laid k B new)
theorem Inv.write (I:Inv X pins σ H s)(G:Mut (H x))(J:e=x\/H e=some (.own x))(k:∀b u,b≠e->s.heap.get? b=some u->h'.get? b=some u)(B:∃u,h'.get? e=some u)
  (new:bv X.prog X.w (upd H x o) h' x o):Inv X pins σ (upd H x o) {s with heap:=h',toks:=t' }:=I.un (Un.write G J k B) (I.hok.write G J k B new)
theorem Inv.weak (I:Inv X pins σ H s)(B:σ'.length=σ.length)(w:∀(i:Nat) v,σ'[i]? = some (some v)->σ[i]? = some (some v)):Inv X pins σ' H s :=
 ⟨I.ok,I.os,I.bare,I.base,let ⟨m,hn,hl'⟩:=I.loc;⟨m,hn,fun i x v G J O=>hl' i x v G (w i v J) O⟩,I.cell,I.free,I.freeC,I.pin,I.hok,B.trans I.len⟩
theorem Inv.pins_of (I:Inv X pins σ H s)(h:∀p∈pins',s.heap.get? p.1=some p.2/\H p.1=none/\p.1≠X.env.locals/\p.1∉X.fs/\∀v,p.2.data≠.cell v):Inv X pins' σ H s :=
 ⟨I.ok,I.os,I.bare,I.base,I.loc,I.cell,I.free,I.freeC,fun p B=>(Iz.mp B).elim (fun z=>I.pin p (Ja _ z)) (h p),I.hok,I.len⟩
theorem wl {N:List Str}(B:N.Nodup){i j:Nat}{x:Str}(a:N[i]? = some x)(b:N[j]? = some x):i=j:=by
 obtain⟨h1,G⟩:=Ix.mp a;obtain⟨h2,J⟩:=Ix.mp b;exact (List.getElem_inj B).mp (G.trans J.symm)
theorem r6 {M:Model}{A:Around}{E:EV9}{i:Nat}{x:Str}{v:V}{u:Value}{Q:Unit->Sh9->Prop}(I:Inv X pins σ H s)(hN:X.N.Nodup)(hi:X.N[i]? = some x)(Y:Loc X.env.scope x)(r:aZ v u)
  (h:∀s',Inv X pins (σ.set i (some v)) H s'->(∃a,Heap.SameBut a s.heap s'.heap/\(a=X.env.locals\/X.env.cells.lookup x=some a))->Q () s') (hf:X.fn x=true\/X.env.scope.names.lookup x=some .local:=by first | exact .inl rfl | exact .inr rfl | assumption):wpAny M A (storeName X.env x u) Q E s:=by
 obtain⟨m,hn,hl⟩:=id I.loc;have a2:(X.env.scope.kind == .class||(X.env.scope.kind == .module&&X.env.locals != X.env.globals))=false:=by rw[I.ok.kind];rfl
 have a3:i<σ.length:=by rw[I.len];exact (Ix.mp hi).1
 have cne:=I.cne;have G:∀{a:Addr} {h':Heap},(∃o,s.heap.get? a=some o/\H a=none)->Heap.SameBut a s.heap h'->HOk X.prog X.w H h':=fun {a h'} ha B b ob e=>by
  obtain⟨_,_,a0⟩:=ha;refine (I.hok b ob e).stay (fun c w' O q=>(B.2 c ?_).trans q) (fun _ q=>q) fun _ _ q=>q;rintro rfl;rcases O with rfl|O
  ·rw[a0]at e;cases e
  ·rw[a0]at O;cases O
 rcases Y with hk|hk
 ·refine wpAny_storeName_local hk hn (fun h' a7 B=>?_) a2;obtain⟨oL,_,_,a8,_⟩:=id hn;refine h _ ⟨I.ok,I.os,I.bare,⟨fun b o e n hb Y=>?_,fun b o e n hb Y=>?_,I.base.free,fun b o e Y=>?_,I.base.tups,I.base.frzs,I.base.tbls⟩,⟨_,a7,fun j y v' J e2 e3=>?_⟩,fun y c e=>?_,I.free,I.freeC,fun p hp=>?_,G ⟨oL,a8,I.free⟩ B,by simpa using I.len⟩ ⟨_,B,.inl rfl⟩
  ·exact (B.2 b (I0 (IJ (IK e) I.ok.above))).trans (I.base.keep b o e n hb Y)
  ·obtain⟨sl,J⟩:=I.base.slot b o e n hb Y;exact⟨sl,(B.2 b (I0 (IJ (IK e) I.ok.above))).trans J⟩
  ·obtain⟨o',J⟩:=I.base.there b o e Y;exact⟨o',(B.2 b (I0 (IJ (IK e) I.ok.above))).trans J⟩
  ·by_cases hj:j=i
   ·subst hj;rw[hi]at J;cases J;rw[List.getElem?_set_self a3]at e2;cases e2;exact⟨u,r,.inl ⟨hk,by simp⟩⟩
   ·rw[List.getElem?_set_ne (Ne.symm hj)]at e2;obtain⟨u',r',q⟩:=hl j y v' J e2 e3;refine⟨u',r',?_⟩;rcases q with⟨k,e⟩ | ⟨k,c,e,z⟩
    ·refine .inl ⟨k,?_⟩
     have:y≠x:=fun e=>hj (wl hN J (e▸hi))
     simp[this,e]
    ·exact .inr ⟨k,c,e,z.sameBut B (cne y c e)⟩
  ·obtain⟨w',z⟩:=I.cell y c e;exact⟨w',z.sameBut B (cne y c e)⟩
  ·obtain⟨e,n,ne,nf,d⟩:=I.pin p hp;exact⟨(B.2 p.1 ne).trans e,n,ne,nf,d⟩
 ·have a1:X.fn x=true:=by
   rcases hf with z|z
   ·exact z
   ·rw[z]at hk;cases hk
  obtain⟨c,O⟩:=I.ok.has x (.inl hk);obtain⟨w',z⟩:=I.cell x c O;refine wpAny_storeName_cell I.ok.kind hk O z (fun h' a4 B=>?_);obtain⟨oc,a5,a6⟩:=id z;refine h {s with heap:=h' } ⟨I.ok,I.os,I.bare,⟨fun b o e n hb Y=>?_,fun b o e n hb Y=>?_,I.base.free,fun b o e Y=>?_,I.base.tups,I.base.frzs,I.base.tbls⟩,⟨m,hn.sameBut B (Ne.symm (cne x c O)),fun j y v' J e2 e3=>?_⟩,fun y c' e=>?_,I.free,I.freeC,fun p hp=>?_,G ⟨oc,a5,I.freeC x c O⟩ B,by simpa using I.len⟩ ⟨c,B,.inr O⟩
  ·exact (B.2 b (I0 (IJ (IK e) (I.ok.cab x c a1 O)))).trans (I.base.keep b o e n hb Y)
  ·obtain⟨sl,J⟩:=I.base.slot b o e n hb Y;exact⟨sl,(B.2 b (I0 (IJ (IK e) (I.ok.cab x c a1 O)))).trans J⟩
  ·obtain⟨o',J⟩:=I.base.there b o e Y;exact⟨o',(B.2 b (I0 (IJ (IK e) (I.ok.cab x c a1 O)))).trans J⟩
  ·by_cases hj:j=i
   ·subst hj;rw[hi]at J;cases J;rw[List.getElem?_set_self a3]at e2;cases e2;exact⟨u,r,.inr ⟨.inl hk,c,O,a4⟩⟩
   ·rw[List.getElem?_set_ne (Ne.symm hj)]at e2;obtain⟨u',r',q⟩:=hl j y v' J e2 e3;refine⟨u',r',?_⟩;rcases q with q | ⟨k,c',e,z'⟩
    ·exact .inl q
    ·refine .inr ⟨k,c',e,z'.sameBut B ?_⟩;rintro rfl;exact hj (wl hN J (I.ok.inj _ _ _ e O▸hi))
  ·by_cases hcc:c'=c
   ·subst hcc;exact⟨_,a4⟩
   ·obtain⟨w2,z2⟩:=I.cell y c' e;exact⟨w2,z2.sameBut B hcc⟩
  ·obtain⟨e,n,ne,nf,d⟩:=I.pin p hp;refine⟨(B.2 p.1 ?_).trans e,n,ne,nf,d⟩;intro q;rw[q,a5]at e;have q':oc=p.2:=Option.some.inj e;exact d w' (by rw[<-q'];exact a6)
theorem vB (I:Inv X pins σ H s)(B:X.N.Nodup)(hi:X.N[i]? = some x)(G:Loc X.env.scope x)(r:aZ v u)
  (h:∀s',Inv X pins (σ.set i (some v)) H s'->Q () s') (J:X.fn x=true\/X.env.scope.names.lookup x=some .local:=by first | exact .inl rfl | exact .inr rfl | assumption):wpAny M A (storeName X.env x u) Q E s :=
 r6 I B hi G r (fun s' O _=>h s' O) J
theorem Inv.call' (I:Inv X pins σ H s)(J:s'.os=s.os)(u:Un (frs X.stack) ch H H' s.heap s'.heap)(B:HOk X.prog X.w H' s'.heap)(O:AllBare s'.gens)
  (G:∀b∈ch,(b∈X.ex\/X.s₀.heap.objs.size<=b)/\b≠X.env.locals/\(∀x c,X.env.cells.lookup x=some c->c≠b)/\∀p∈X.pn++pins,p.1≠b):Inv X pins σ H' s':=by
 obtain⟨h',g',d',t',o'⟩:=s';have e:o'=s.os:=J;subst e;exact I.call (g':=g') (t':=t') (d':=d') u B O G
end
abbrev XK:=Value->Option Addr->Hp->Prop
abbrev St:=List (OW9)
abbrev NS9:=Nat->St->Hp->Prop
abbrev SP9:=St->Hp->Prop
abbrev VK:=V->Hp->Prop
abbrev HV9:=Hp->VK->Prop
abbrev TE:=St->HV9
abbrev TT:=St->Hp->(Bool->Hp->Prop)->Prop
abbrev TA:=St->Hp->(List V->Hp->Prop)->Prop
structure rC where
 nx:SP9
 rt:VK
 bk:SP9:=fun _ _=>False
 ct:SP9:=fun _ _=>False
abbrev TS:=rC->SP9
def EP (X:Cx)(pins:Pn9)(σ:St)(Q:VK)(u:Value)(s':Sh9):Prop:=∃v H',Inv X pins σ H' s'/\aZ v u/\Q v H'
def TP (X:Cx)(pins:Pn9)(σ:St)(Q:Bool->Hp->Prop)(b:Bool)(s':Sh9):Prop:=∃H',Inv X pins σ H' s'/\Q b H'
def AP (X:Cx)(pins:Pn9)(σ:St)(Q:List V->Hp->Prop)(us:LV9)(s':Sh9):Prop:=∃vs H',Inv X pins σ H' s'/\aV vs us/\Q vs H'
def SP (X:Cx)(pins:Pn9)(D:rC)(f:Flow)(s':Sh9):Prop :=
 match f with
 | .next=>∃σ' H',Inv X pins σ' H' s'/\D.nx σ' H'
 | .brk=>∃σ' H',Inv X pins σ' H' s'/\D.bk σ' H'
 | .cont=>∃σ' H',Inv X pins σ' H' s'/\D.ct σ' H'
 | .ret u=>∃v σ' H',Inv X pins σ' H' s'/\aZ v u/\D.rt v H'
def PE (X:Cx)(e:Expr)(t:TE):Prop :=
 ∀(pins:Pn9) (s:Sh9) (σ:St) (H:Hp) (Q:VK),Inv X pins σ H s->t σ H Q->wpAny (model X.prog X.w) X.A (eval e X.env) (EP X pins σ Q) X.xe s
def PT (X:Cx)(e:Expr)(t:TT):Prop :=
 ∀(pins:Pn9) (s:Sh9) (σ:St) (H:Hp) (Q:Bool->Hp->Prop),Inv X pins σ H s->t σ H Q->wpAny (model X.prog X.w) X.A (isTrue e X.env (eval e X.env)) (TP X pins σ Q) X.xe s
def PW (X:Cx)(e:Expr)(t:TT):Prop :=
 ∀(whole:Sem Value) (pins:Pn9) (s:Sh9) (σ:St) (H:Hp) (Q:Bool->Hp->Prop),Inv X pins σ H s->t σ H Q->wpAny (model X.prog X.w) X.A (isTrue e X.env whole) (TP X pins σ Q) X.xe s
theorem PW.pt (h:PW X e t):PT X e t:=h _
def PA (X:Cx)(es:List Expr)(t:TA):Prop :=
 ∀(pos:Pos) (pins:Pn9) (s:Sh9) (σ:St) (H:Hp) (Q:List V->Hp->Prop),Inv X pins σ H s->t σ H Q->wpAny (model X.prog X.w) X.A (spliced (backTo pos (starEach es X.env))) (AP X pins σ Q) X.xe s
def PS (X:Cx)(st:Stmt)(t:TS):Prop :=
 ∀(pins:Pn9) (s:Sh9) (σ:St) (H:Hp) (D:rC),Inv X pins σ H s->t D σ H->wpAny (model X.prog X.w) X.A (exec st X.env) (SP X pins D) X.xe s
def PSs (X:Cx)(st:List Stmt)(t:TS):Prop :=
 ∀(pins:Pn9) (s:Sh9) (σ:St) (H:Hp) (D:rC),Inv X pins σ H s->t D σ H->wpAny (model X.prog X.w) X.A (execs st X.env) (SP X pins D) X.xe s
theorem thn (h:wpAny M A t Q E s)(B:∀a s,Q a s->Q' a s):wpAny M A t Q' E s:=Jy h B fun _ _ x=>x
section
def wZ (i:Nat):TE:=fun σ H Q=>match σ[i]? with | some (some v)=>Q v H | _=>False
theorem aO (h:wZ i σ H Q):∃v,σ[i]? = some (some v)/\Q v H:=by
 unfold wZ at h
 split at h
 ·exact⟨_,‹_›,h⟩
 ·exact h.elim
theorem aW (e:σ[i]? = some (some v))(h:Q v H):wZ i σ H Q:=by
 unfold wZ;rw[e];exact h
theorem gW (h:Q v H)(e:σ[i]? = some (some v):=by exact rfl):wZ i σ H Q:=aW e h
abbrev tC (v:V):TE:=fun _ H Q=>Q v H
theorem FE (hN:X.N[i]? = some x)(hv:Vis X.env.scope x)(J:(x==("__debug__" : Str))=false:=by decide)(O:(x==("__classdict__" : Str))=false:=by decide):PE X (.Name x pos) (wZ i):=by
 intro pins s σ H Q I h;obtain⟨v,e,h⟩:=aO h;obtain⟨m,hn,hl⟩:=I.loc;obtain⟨u,r,l⟩:=hl i x v hN e hv;have fin:EP X pins σ Q u s:=⟨v,H,I,r,h⟩;rcases l with⟨G,hm⟩ | ⟨G,c,Y,B⟩
 ·exact wpAny_Name (wpAny_loadName_local I.ok.kind G hn hm fin) J
 ·rcases G with G|G
  ·exact wpAny_Name (wpAny_loadName_cell I.ok.kind G Y B fin) J
  ·exact wpAny_Name (wpAny_loadName_free I.ok.kind G Y B fin O) J
theorem ac {i j pos}:PE X (.Constant (.int i) j pos) (tC (.int i)):=fun _ _ _ H _ I h=>wpAny_Constant_int ⟨.int i,H,I.tok _,⟨_,rfl⟩,h⟩
theorem cX {b j pos}:PE X (.Constant (.bool b) j pos) (tC (.bl b)):=fun _ _ _ H _ I h=>Constant_bool ⟨.bl b,H,I,rfl,h⟩
theorem xA {j pos}:PE X (.Constant .none j pos) (tC .non):=fun _ _ _ H _ I h=>Constant_none ⟨.non,H,I,rfl,h⟩
theorem i_ {x j pos}:PE X (.Constant (.str x) j pos) (tC (.str x)):=fun _ _ _ H _ I h=>Calls.Constant_str ⟨.str x,H,I.tok _,⟨_,rfl⟩,h⟩
def Gl (X:Cx)(x:Str):Prop:=X.env.kindOf x=some .globalImplicit
theorem uA (I:Inv X pins σ H s)(B:Gl X x)(G:X.mg x=some u)(h:Q u s)
  (J:(x==("__debug__" : Str))=false:=by decide):wpAny (model X.prog X.w) X.A (eval (.Name x pos) X.env) Q E s :=
 Calls.Name_function_global I.ok.kind B (Calls.loadGlobal_global (by rw[I.ok.glob];exact I.mod.glob.keeps I.bk) G h) J
theorem jh (I:Inv X pins σ H s)(B:Gl X x)(G:X.mg x=none)(J:bootBuiltins x=some u)(h:Q u s)
  (O:x ≠ "__name__" := by decide) (Y:(x==("__debug__" : Str))=false:=by decide):wpAny (model X.prog X.w) X.A (eval (.Name x pos) X.env) Q E s:=by
 obtain⟨mb,h1,h2⟩:=I.mod.blt;exact Calls.Name_function_global I.ok.kind B (Calls.loadGlobal_builtin (by rw[I.ok.glob];exact I.mod.glob.keeps I.bk) G (by rw[I.ok.blt];exact h1.keeps I.bk) ((h2 x O).trans J) h) Y
theorem ko (B:Gl X x)(G:X.mg x=some u)(r:aZ v u)(J:(x==("__debug__" : Str))=false:=by decide):PE X (.Name x pos) (tC v) :=
 fun _ _ _ H _ I h=>uA I B G ⟨v,H,I,r,h⟩ J
theorem D5 (B:Gl X x)(G:X.mg x=none)(J:bootBuiltins x=some u)(r:aZ v u)(O:x ≠ "__name__" := by decide)(Y:(x==("__debug__" : Str))=false:=by decide):PE X (.Name x pos) (tC v) :=
 fun _ _ _ H _ I h=>jh I B G J ⟨v,H,I,r,h⟩ O Y
variable {a b:Expr}{ta tb:TE}{pos:Pos}
def ofB (Q:Bool->Prop):V->Prop | .bl c=>Q c | _=>False
theorem mH (h:ofB Q x):∃c,x=.bl c/\Q c:=by
 cases x<;>first | exact⟨_,rfl,h⟩ | exact False.elim h
abbrev tB (t:TE):TT:=fun σ H Q=>t σ H fun x H1=>ofB (Q · H1) x
theorem bL (h:PE X e t)(B:∀whole,isTrue e X.env whole=(do let v <-whole;standAt e.pos;holding [v] (truthy v)):=by intro _;rfl):PT X e (tB t):=by
 intro pins s σ H Q I G;refine isTrue_plain (thn (h pins s σ H _ I G) fun v Y ⟨x,H1,J,O,q1⟩=>?_) (B _);obtain⟨d,rfl,q⟩:=mH q1;cases O;exact wpAny_truthy_bool ⟨H1,J,q⟩
variable {tA tB':TT}{rest:List Expr}
abbrev HK (t u:TT):TT:=fun σ H Q=>t σ H fun c H1=>if c=true then u σ H1 Q else Q false H1
abbrev tOr (t u:TT):TT:=fun σ H Q=>t σ H fun c H1=>if c=true then Q true H1 else u σ H1 Q
abbrev HE (t:TT):TT:=fun σ H Q=>t σ H fun c H1=>Q (!c) H1
theorem yF (B:PT X a tA):PW X (.BoolOp .And [a] pos) tA:=by
 intro G pins s σ H Q I h;refine isTrue_and (thn (B pins s σ H Q I h) fun c J e=>?_);cases c with
 |true=>exact isTrue_and_nil e
 |false=>exact e
theorem gG (B:PT X a tA):PW X (.BoolOp .Or [a] pos) tA:=by
 intro G pins s σ H Q I h;refine isTrue_or (thn (B pins s σ H Q I h) fun c J e=>?_);cases c with
 |false=>exact isTrue_or_nil e
 |true=>exact e
theorem xv (G:PT X a tA)(J:PW X (.BoolOp .And (b::rest) pos) tB'):PW X (.BoolOp .And (a::b::rest) pos) (HK tA tB'):=by
 intro O pins s σ H Q I h;refine isTrue_and (thn (G pins s σ H _ I h) fun c Y ⟨H1,B,q1⟩=>?_);cases c with
 |true=>exact J O pins Y σ H1 Q B q1
 |false=>exact⟨H1,B,q1⟩
theorem g_ (G:PT X a tA)(J:PW X (.BoolOp .Or (b::rest) pos) tB'):PW X (.BoolOp .Or (a::b::rest) pos) (tOr tA tB'):=by
 intro O pins s σ H Q I h;refine isTrue_or (thn (G pins s σ H _ I h) fun c Y ⟨H1,B,q1⟩=>?_);cases c with
 |true=>exact⟨H1,B,q1⟩
 |false=>exact J O pins Y σ H1 Q B q1
theorem ce (B:PT X a tA):PT X (.UnaryOp .Not a pos) (HE tA):=by
 intro pins s σ H Q I h;exact isTrue_not (B pins s σ H (fun c H1=>Q (!c) H1) I h)
abbrev GW (ta tb:TE):TE:=fun σ H Q=>ta σ H fun x H1=>∃c,x=.bl c/\if c=true then tb σ H1 Q else Q (.bl false) H1
abbrev GN (ta:TE):TE:=fun σ H Q=>ta σ H fun x H1=>∃c,x=.bl c/\Q (.bl (!c)) H1
theorem qq {op}(h:PE X a t):PE X (.BoolOp op [a] pos) t:=fun pins s σ H Q I B=>BoolOp_one (h pins s σ H Q I B)
theorem qu (G:PE X a ta)(J:PE X (.BoolOp .And (b::rest) pos) tb):PE X (.BoolOp .And (a::b::rest) pos) (GW ta tb):=by
 intro pins s σ H Q I h;refine BoolOp_and (thn (G pins s σ H _ I h) fun v O ⟨x,H1,B,Y,q1⟩=>?_);obtain⟨c,rfl,q1⟩:=q1;cases Y;refine wpAny_truthy_bool ?_;cases c with
 |true=>exact J pins O σ H1 Q B q1
 |false=>exact⟨.bl false,H1,B,rfl,q1⟩
theorem FG (B:PE X a ta):PE X (.UnaryOp .Not a pos) (GN ta):=by
 intro pins s σ H Q I h;refine UnaryOp_ (thn (B pins s σ H _ I h) fun v O ⟨x,H1,G,J,q1⟩=>?_);obtain⟨c,rfl,q1⟩:=q1;cases J;exact not_of (wpAny_truthy_bool ⟨.bl (!c),H1,G,rfl,q1⟩)
end
def SqL (K:Frag)(H:Hp)(a:Addr)(xs:List V):Prop :=
 Rd H a (.lst xs) \/
  ∃(o:Obj) (its:Array Value) (n:Nat),K.lookup a=some o/\o.cls=.type "list" /\ o.dict=none/\o.data=.seq its n/\its.size<=sizeLine/\aV xs its.toList
def SqT (K:Frag)(H:Hp)(a:Addr)(xs:List V):Prop :=
 Rd H a (.tup xs) \/
  ∃(o:Obj) (its:Array Value) (n:Nat),K.lookup a=some o/\o.cls=.type "tuple" /\ o.data=.seq its n/\its.size<=sizeLine/\aV xs its.toList
def Ik:Value->OW9
 | .none=>some .non
 | .bool b=>some (.bl b)
 | .int i _=>some (.int i)
 | .str x _=>some (.str x)
 | .bytes b _=>some (.byt b)
 | .float b _=>some (.flt b)
 | .ref a=>some (.ref a)
 | .type n=>some (.ty n)
 |_=>none
theorem aZ.abs (r:aZ x u):Ik u=some x:=by
 cases x with
 |non=>cases r;rfl
 |bl _=>cases r;rfl
 |int _=>obtain⟨t,rfl⟩:=r;rfl
 |str _=>obtain⟨t,rfl⟩:=r;rfl
 |byt _=>obtain⟨t,rfl⟩:=r;rfl
 |flt _=>obtain⟨t,rfl⟩:=r;rfl
 |ref _=>cases r;rfl
 |ty _=>cases r;rfl
theorem aZ.inj (r:aZ x u)(q:aZ y u):x=y:=Option.some.inj (r.abs.symm.trans q.abs)
theorem aV.inj:∀{xs ys:List V} {us:LV9},aV xs us->aV ys us->xs=ys
 |_,_,_,.nil,.nil=>rfl
 |_,_,_,.cons r t,.cons r' t'=>by rw[r.inj r',aV.inj t t']
section
variable {pins:Pn9}{σ:St}{H:Hp}{s:Sh9}{a:Addr}{xs ys:List V}
theorem SqL.of {K:Frag}(h:H a=some (.lst xs)):SqL K H a xs:=.inl (.inl h)
theorem SqT.of {K:Frag}(h:H a=some (.tup xs)):SqT K H a xs:=.inl (.inl h)
theorem Inv.list (I:Inv X pins σ H s)(h:SqL X.K H a xs):∃its:LV9,aV xs its/\PlainL s.heap a its.toArray/\xs.length<=sizeLine:=by
 rcases h with h|⟨o,its,n,B,G,J,O,hz,r⟩
 ·obtain⟨z,its,n,r,e⟩:=h.ok I.hok;exact⟨its,r,⟨_,n,e,rfl,rfl,rfl⟩,z⟩
 ·refine⟨its.toList,r,⟨o,n,I.kIn a o B,G,J,by simpa using O⟩,?_⟩;have e:=r.length;simp only[IN]at e
  lia
theorem Inv.tuple (I:Inv X pins σ H s)(h:SqT X.K H a xs):∃its:LV9,aV xs its/\IsTup s.heap a its.toArray/\xs.length<=sizeLine:=by
 rcases h with h|⟨o,its,n,B,G,J,hz,r⟩
 ·obtain⟨z,its,r,p⟩:=h.ok I.hok;exact⟨its,r,p,z⟩
 ·refine⟨its.toList,r,⟨o,I.kIn a o B,G,n,by simpa using J⟩,?_⟩;have e:=r.length;simp only[IN]at e
  lia
theorem Inv.list_inj (I:Inv X pins σ H s)(h:SqL X.K H a xs)(h':SqL X.K H a ys):xs=ys:=by
 obtain⟨its,r,⟨o,n,e,_,_,d⟩,_⟩:=I.list h;obtain⟨its',G,⟨o',J,B,_,_,d'⟩,_⟩:=I.list h';rw[e]at B;cases B;rw[d]at d';injection d' with d1 _
 have:its=its':=by simpa using I_ Lz d1
 subst this;exact r.inj G
theorem Inv.tuple_inj (I:Inv X pins σ H s)(h:SqT X.K H a xs)(h':SqT X.K H a ys):xs=ys:=by
 obtain⟨its,r,⟨o,e,_,n,d⟩,_⟩:=I.tuple h;obtain⟨its',G,⟨o',B,_,J,d'⟩,_⟩:=I.tuple h';rw[e]at B;cases B;rw[d]at d';injection d' with d1 _
 have:its=its':=by simpa using I_ Lz d1
 subst this;exact r.inj G
end
abbrev Cx.wish (X:Cx)(E:EV9):Cx:={X with xe:=E}
abbrev Cx.nox (X:Cx):Cx:=X.wish fun _ _=>False
theorem Cx.Ok.wish {X:Cx}(ok:X.Ok)(E:EV9):(X.wish E).Ok :=
 ⟨ok.mod,ok.kind,ok.glob,ok.blt,ok.above,ok.inj,ok.has,ok.cab,ok.hd,ok.frames,ok.stk,ok.exf,ok.bs,ok.bsz,ok.noex,ok.exfs,ok.funs,ok.frf⟩
theorem Cx.Ok.unwish {X:Cx}{E:EV9}(ok:(X.wish E).Ok):X.Ok :=
 ⟨ok.mod,ok.kind,ok.glob,ok.blt,ok.above,ok.inj,ok.has,ok.cab,ok.hd,ok.frames,ok.stk,ok.exf,ok.bs,ok.bsz,ok.noex,ok.exfs,ok.funs,ok.frf⟩
section
variable {pins:Pn9}{σ:St}{H:Hp}{s:Sh9}{E:EV9}
theorem Inv.wish (I:Inv X pins σ H s)(E:EV9):Inv (X.wish E) pins σ H s:=⟨I.ok.wish E,I.os,I.bare,I.base,I.loc,I.cell,I.free,I.freeC,I.pin,I.hok,I.len⟩
theorem Inv.unwish (I:Inv (X.wish E) pins σ H s):Inv X pins σ H s:=⟨I.ok.unwish,I.os,I.bare,I.base,I.loc,I.cell,I.free,I.freeC,I.pin,I.hok,I.len⟩
theorem SP.unwish (h:SP (X.wish E) pins D f s'):SP X pins D f s':=by
 cases f with
 |next=>obtain⟨B,H',I,q⟩:=h;exact⟨B,H',I.unwish,q⟩
 |brk=>obtain⟨B,H',I,q⟩:=h;exact⟨B,H',I.unwish,q⟩
 |cont=>obtain⟨B,H',I,q⟩:=h;exact⟨B,H',I.unwish,q⟩
 |ret u=>obtain⟨v,B,H',I,r,q⟩:=h;exact⟨v,B,H',I.unwish,r,q⟩
theorem PSs.nox {st:List Stmt}(h:PSs X.nox st t):PSs X st t:=fun pins s σ H D I B=>
 Jy (h pins s σ H D (I.wish _) B) (fun _ _ q=>q.unwish) fun _ _ z=>False.elim z
end
section
variable {st:Stmt}{rest:List Stmt}{t u:TS}{e:Expr}{te:TE}{pos:Pos}
abbrev GP:TS:=fun D σ H=>D.nx σ H
abbrev A_ (t u:TS):TS:=fun D σ H=>t {D with nx:=u D} σ H
theorem aF:PSs X [] GP:=fun _ _ σ H _ I h=>wpAny_execs_nil ⟨σ,H,I,h⟩
theorem ab (h1:PS X st t)(h2:PSs X rest u):PSs X (st::rest) (A_ t u):=by
 intro pins s σ H D I h;refine wpAny_execs_cons (thn (h1 pins s σ H {D with nx:=u D} I h) fun f B q=>?_);cases f with
 |next=>
  obtain⟨G,H',J,q⟩:=q;exact h2 pins B G H' D J q
 |ret v=>exact q
 |brk=>exact q
 |cont=>exact q
theorem af (h1:PS X st t):PSs X [st] t:=by
 intro pins s σ H D I h;refine wpAny_execs_cons (thn (h1 pins s σ H D I h) fun f B q=>?_);cases f with
 |next=>exact wpAny_execs_nil q
 |ret v=>exact q
 |brk=>exact q
 |cont=>exact q
theorem Inv.quiet (I:Inv X pins σ H s):interactive X.env=false:=by simp[interactive,I.ok.kind]
abbrev GT (te:TE):TS:=fun D σ H=>te σ H fun _ H1=>D.nx σ H1
theorem ba (B:PE X e te)(G:swapsWith e none pos.line X.env=pure false:=by rfl):PS X (.Expr e pos) (GT te):=by
 intro pins s σ H D I h;exact wpAny_Expr_any (thn (B pins s σ H _ I h) fun v O ⟨x,H1,J,Y,q1⟩=>⟨σ,H1,J,q1⟩) I.quiet G
abbrev HD (te:TE):TS:=fun D σ H=>te σ H D.rt
theorem aB (B:PE X e te):PS X (.Return (some e) pos) (HD te):=by
 intro pins s σ H D I h;exact wpAny_Return_some (thn (B pins s σ H _ I h) fun v O ⟨x,H1,G,J,q1⟩=>⟨x,σ,H1,G,J,q1⟩)
abbrev HG (c:TT)(t u:TS):TS:=fun D σ H=>c σ H fun b H1=>if b=true then t D σ H1 else u D σ H1
theorem aT (J:PT X c tc)(O:PSs X a t)(Y:PSs X b u):PS X (.If c a b pos) (HG tc t u):=by
 intro pins s σ H D I h;refine wpAny_If (thn (J pins s σ H _ I h) fun d B ⟨H1,G,q1⟩=>?_);cases d with
 |true=>exact O pins B σ H1 D G q1
 |false=>exact Y pins B σ H1 D G q1
def Fn:TS:=fun _ _ _=>False
theorem mB:PS X st Fn:=fun _ _ _ _ _ _ h=>h.elim
end
abbrev TG:=V->St->Hp->(SP9)->Prop
abbrev TGs:=List V->St->Hp->(SP9)->Prop
def PG (X:Cx)(target:Expr)(t:TG):Prop :=
 ∀(pins:Pn9) (s:Sh9) (σ:St) (H:Hp) (v:V) (u:Value) (Q:SP9),Inv X pins σ H s->aZ v u->t v σ H Q ->
  wpAny (model X.prog X.w) X.A (assign target X.env u) (fun _ s'=>∃σ' H',Inv X pins σ' H' s'/\Q σ' H') X.xe s
def PGs (X:Cx)(ts:List Expr)(t:TGs):Prop :=
 ∀(pins:Pn9) (s:Sh9) (σ:St) (H:Hp) (vs:List V) (us:LV9) (Q:SP9),Inv X pins σ H s->aV vs us->t vs σ H Q ->
  wpAny (model X.prog X.w) X.A (assignInOrder ((assignEach ts X.env).map (·.2)) us) (fun _ s'=>∃σ' H',Inv X pins σ' H' s'/\Q σ' H') X.xe s
section
variable {pos:Pos}
abbrev qO (i:Nat):TG:=fun v σ H Q=>Q (σ.set i (some v)) H
theorem tU (B:X.N.Nodup)(hi:X.N[i]? = some x)(G:Loc X.env.scope x)(J:X.fn x=true\/X.env.scope.names.lookup x=some .local:=by first | exact .inl rfl | exact .inr rfl | assumption):PG X (.Name x pos) (qO i):=by
 intro pins s σ H v u Q I r h;exact wpAny_assign_Name (vB I B hi G r (fun s' O=>⟨_,H,O,h⟩) J)
def Ie:TGs:=fun vs σ H Q=>vs=[]/\Q σ H
inductive C_ (t:TG)(u:TGs)(vs:List V)(σ:St)(H:Hp)(Q:SP9):Prop
 |mk (v r:_) (h_0:vs=v::r) (h_1:t v σ H fun σ' H'=>u r σ' H' Q):C_ t u vs σ H Q
def Hq (t:TG)(u:TGs):TGs:=fun vs σ H Q=>C_ t u vs σ H Q
theorem dL:PGs X [] Ie:=by
 intro pins s σ H vs B Q I r h;obtain⟨e,h⟩:=h;subst e;cases r;exact assignInOrder_nil ⟨σ,H,I,h⟩
theorem aX (h1:PG X e t)(h2:PGs X es u)
  (B:(assignEach (e::es) X.env).map (·.2)=assign e X.env::(assignEach es X.env).map (·.2):=by rfl):PGs X (e::es) (Hq t u):=by
 intro pins s σ H vs us Q I r h;obtain⟨v,vr,G,h⟩:=h;subst G;cases r with
 |cons r rr=>
  rw[B];refine assignInOrder_cons (thn (h1 pins s σ H _ _ _ I r h) fun _ J ⟨O,H1,Y,q1⟩=>?_);exact h2 pins J O H1 _ _ Q Y rr q1
inductive Fg (K:Frag)(n:Nat)(t:TGs)(v:V)(σ:St)(H:Hp)(Q:SP9):Prop
 |mk (a xs:_) (h_0:v=.ref a) (h_1:SqT K H a xs) (h_2:xs.length=n) (h_3:t xs σ H Q):Fg K n t v σ H Q
def Hn (K:Frag)(n:Nat)(t:TGs):TG:=fun v σ H Q=>Fg K n t v σ H Q
theorem fK (O:X.calm=true)(h:PGs X es t)
  (Y:(assignEach es X.env).length=n:=by rfl) (B:(assignEach es X.env).findIdx? (·.1)=none:=by rfl):PG X (.Tuple es k pos) (Hn X.K n t):=by
 intro pins s σ H v u Q I r G;obtain⟨a,xs,e1,hq,hl,G⟩:=G;subst e1;cases r;obtain⟨its,J,ht,hz⟩:=I.tuple hq;refine assign_Tuple_tuple (I.ok.hd O) ht (by simp[Y,<-hl,J.length]) B fun h' hx=>?_;have I1:Inv X pins σ H {s with heap:=h' }:=I.kept (t':=s.toks) fun b o e=>hx b o (I0 (IK e)) e;exact h pins _ σ H xs _ Q I1 (by simpa using J) G
abbrev Bf (te:TE)(g:TG):TS:=fun D σ H=>te σ H fun x H1=>g x σ H1 D.nx
theorem xw (B:PE X e te)(G:PG X tg g)(J:swapsWithSole [tg] e pos.line X.env=pure false:=by rfl)(O:swappedStores [tg] e X.env=pure none:=by rfl)
  (h1:(assignEach [tg] X.env).map (·.2)=[assign tg X.env]:=by rfl):PS X (.Assign [tg] e pos) (Bf te g):=by
 intro pins s σ H D I h;refine wpAny_Assign_stores (thn (B pins s σ H _ I h) fun v Y ⟨x,H1,I1,r1,q1⟩=>?_) J O;rw[h1];exact thn (G pins Y σ H1 x v _ I1 r1 q1) fun _ s2 q=>q
theorem jR (B:X.N.Nodup)(hi:X.N[i]? = some x)(G:Loc X.env.scope x)(J:PE X e te)(O:swapsWith e (some (.Name x pos')) pos.line X.env=pure false:=by rfl)(Y:X.fn x=true\/X.env.scope.names.lookup x=some .local:=by first | exact .inl rfl | exact .inr rfl | assumption):
  PS X (.Assign [.Name x pos'] e pos) (Bf te (qO i)):=by
 intro pins s σ H D I h;refine wpAny_Assign_Name (thn (J pins s σ H _ I h) fun v s1 ⟨y,H1,I1,r1,q1⟩=>?_) O;exact vB I1 B hi G r1 (fun s2 I2=>⟨_,H1,I2,q1⟩) Y
def A9 (c:TT)(tb:TS):TS:=fun D σ H=>∃W:NS9,(∃m,W m σ H)/\∀m σ H,W m σ H ->
 c σ H fun b H1=>if b=true then ∃N:SP9,(∀σ' H',N σ' H'->∃m',m'<m/\W m' σ' H')/\tb {D with nx:=N,ct:=N,bk:=D.nx} σ H1 else D.nx σ H1
theorem jQ (hp:PassesOwn (model X.prog X.w) X.A X.env X.xe)(hc:PT X c tc)(hb:PSs X body tb):PS X (.While c body [] pos) (A9 tc tb):=by
 intro pins s σ H D I h;obtain⟨W,⟨m0,w0⟩,turn⟩:=h;refine wpAny_While (codeAny_whileLoop (fun n s'=>∃σ' H',Inv X pins σ' H' s'/\W n σ' H') ?_ m0 ⟨σ,H,I,w0⟩);rintro n s1 ⟨J,H1,I1,w1⟩;refine wpAny_passesOwn hp (thn (hc pins s1 J H1 _ I1 (turn n J H1 w1)) fun b s2 ⟨H2,I2,q2⟩=>?_);cases b with
 |true=>
  obtain⟨N,hN,q2⟩:=q2;rw[if_pos rfl];refine wpAny_passesOwn hp (thn (hb pins s2 J H2 _ I2 q2) fun f s3 q3=>?_);cases f with
  |next=>
   obtain⟨B,G,O,Y⟩:=q3;obtain⟨m',hm,w3⟩:=hN B G Y;exact⟨m',hm,B,G,O,w3⟩
  |cont=>
   obtain⟨B,G,O,Y⟩:=q3;obtain⟨m',hm,w3⟩:=hN B G Y;exact⟨m',hm,B,G,O,w3⟩
  |brk=>exact q3
  |ret v=>exact q3
 |false=>
  rw[if_neg IL];exact wpAny_execs_nil ⟨J,H2,I2,q2⟩
end
structure It where
 go:Nat->Hp->Prop
 yld:Nat->Hp->V->Hp->Prop
 stop:Nat->Hp->Prop
def n_ (X:Cx)(pins:Pn9)(H:Hp)(b:Addr):Prop :=
 H b=none/\b≠X.env.locals/\b∉X.fs/\(b∈X.ex\/X.s₀.heap.objs.size<=b)/\(∀x c,X.env.cells.lookup x=some c->c≠b)/\∀p∈X.pn++pins,p.1≠b
theorem Inv.fpOk (I:Inv X pins σ H s)(B:s.heap.objs.size<=b)(G:H' b=none):n_ X pins H' b:=by
 refine⟨G,Kk (IJ I.lt B),I.nofs B,.inr (IU I.sz B),fun x c e z=>?_,fun p J z=>?_⟩
 ·obtain⟨v,q⟩:=I.cell x c e;exact absurd (IJ q.lt (by rw[z];exact B)) (Kb _)
 ·exact absurd (IJ (IK (I.pin p J).1) (by rw[z];exact B)) (Kb _)
structure wP (P:Pg9)(w:Wd9)(K:Frag)(tg:Expr)(J:It)(fp:List Addr)(it:Addr)(tn:Nat->Heap->Prop):Prop where
 mem:it∈fp
 obj:∀i h,tn i h->∀b∈fp,∃o,h.get? b=some o/\∀v,o.data≠.cell v
 keep:∀i h h',tn i h->(∀b∈fp,∀o,h.get? b=some o->h'.get? b=some o)->tn i h'
 item:∀(X:Cx),X.prog=P->X.w=w->X.K=K->X.calm=true->∀(i:Nat) (pins:Pn9) (s:Sh9) (σ:St) (H:Hp) (E:EV9),Inv X pins σ H s->(∀b∈fp,n_ X pins H b)->tn i s.heap->J.go i H ->
  wpAny (model P w) X.A (pyNext (.ref it)) (fun r s1=>∃u,r=some u /\
   wpAny (model P w) X.A (letOwnedTupleGo tg (.ref it) u) (fun _ s2=>∃x H',Inv X pins σ H' s2/\aZ x u/\J.yld i H x H'/\tn (i+1) s2.heap/\∀b∈fp,H' b=none) E s1) E s
 done:∀(X:Cx),X.prog=P->X.w=w->X.K=K->X.calm=true->∀(i:Nat) (pins:Pn9) (s:Sh9) (σ:St) (H:Hp) (E:EV9),Inv X pins σ H s->(∀b∈fp,n_ X pins H b)->tn i s.heap->J.stop i H ->
  wpAny (model P w) X.A (pyNext (.ref it)) (fun r s1=>r=none/\Inv X pins σ H s1) E s
 self:∀(A:Around) (i:Nat) (s:Sh9) (Q:EV9) (E:EV9),tn i s.heap->Q (.ref it) s->wpAny (model P w) A (pyIter (.ref it)) Q E s
abbrev TI:=St->Hp->(It->Hp->Prop)->Prop
def PIE (X:Cx)(pins:Pn9)(σ:St)(tg:Expr)(R:It->Hp->Prop)(itv:Value)(s2:Sh9):Prop :=
 ∃(it:Addr) (fp:List Addr) (tn:Nat->Heap->Prop) (J:It) (H':Hp),itv=.ref it/\Inv X pins σ H' s2/\wP X.prog X.w X.K tg J fp it tn/\tn 0 s2.heap/\(∀b∈fp,n_ X pins H' b)/\R J H'
def PI (X:Cx)(tg iter:Expr)(wi:TI):Prop :=
 ∀(pins:Pn9) (s:Sh9) (σ:St) (H:Hp) (R:It->Hp->Prop),Inv X pins σ H s->wi σ H R ->
  wpAny (model X.prog X.w) X.A (eval iter X.env) (fun v s1=>wpAny (model X.prog X.w) X.A (pyIter v) (PIE X pins σ tg R) X.xe s1) X.xe s
theorem sJ (G:s.heap.get? it=some o)(J:o.cls=.type n)(O:o.data=.fields vs)
  (Y:["enumerate","zip","dict_itemiterator","dict_reverseitemiterator","odict_iterator","itertools.zip_longest","itertools.pairwise"].contains n=false) (B:Q () s):wpAny M A (letOwnedTupleGo tg (.ref it) u) Q E s:=by
 unfold letOwnedTupleGo;cases tg<;>first
  |exact IB B
  | (cases u<;>first
    |exact IB B
    | (refine Ip (wpAny_load G ?_)
       rw[J,O];show wpAny M A (if (["enumerate","zip","dict_itemiterator","dict_reverseitemiterator","odict_iterator","itertools.zip_longest","itertools.pairwise"].contains n&&vs[0]? == some (rawInt _))=true then _ else _) Q E s
       rw[if_neg (by intro h;rw[Y,Bool.false_and]at h;cases h)];exact IB B))
def Itl (K:Frag)(a:Addr):It :=
 ⟨fun i H=>∃xs x,SqL K H a xs/\xs[i]? = some x,fun i H x H'=>H'=H/\∀xs,SqL K H a xs->xs[i]? = some x,fun i H=>∃xs,SqL K H a xs/\xs.length<=i⟩
def Itt (K:Frag)(a:Addr):It :=
 ⟨fun i H=>∃xs x,SqT K H a xs/\xs[i]? = some x,fun i H x H'=>H'=H/\∀xs,SqT K H a xs->xs[i]? = some x,fun i H=>∃xs,SqT K H a xs/\xs.length<=i⟩
def Itr (lo:Int)(n:Nat):It:=⟨fun i _=>i<n,fun i H x H'=>H'=H/\x=.int (lo+i),fun i _=>n<=i⟩
theorem zE {K:Frag}(a it:Addr):wP P w K tg (Itl K a) [it] it (fun i h=>h.IsListIter it a i) where
 mem:=by simp
 obj:=fun i h st b B=>by
  have e:b=it:=by simpa using B
  subst e;obtain⟨o,e,c,d⟩:=st;exact⟨o,e,fun v z=>by rw[d]at z;cases z⟩
 keep:=fun i h h' st k=>st.at fun o e=>k it (by simp) o e
 item:=by
  intro X Y hw hK hc i pins s σ H E I J st hg;subst Y hw hK;obtain⟨xs,x,O,hx⟩:=hg;obtain⟨its,rv,p,hz⟩:=I.list O;obtain⟨u,hu,ru⟩:=rv.get hx;obtain⟨f0,f1,f2,f3,f4,f5⟩:=J it (by simp);refine wpAny_pyNext_list_item st p.isList (x:=u) (by simpa using hu) fun h' G sb=>?_;have I1:Inv X pins σ H {s with heap:=h' }:=I.turned (t':=s.toks) (fun b o B e=>(sb.2 b B).trans e) f0 f1 f3 f4 f5;obtain⟨o,e,c,d⟩:=id G;exact⟨u,rfl,sJ (s:={s with heap:=h' }) e c d (by decide) ⟨x,H,I1,ru,⟨rfl,fun ys hy=>by rw[I.list_inj hy O];exact hx⟩,G,fun b B=>(J b B).1⟩⟩
 done:=by
  intro X Y hw hK hc i pins s σ H E I J st hg;subst Y hw hK;obtain⟨xs,O,hx⟩:=hg;obtain⟨its,rv,p,hz⟩:=I.list O;obtain⟨f0,f1,f2,f3,f4,f5⟩:=J it (by simp);have hl:=rv.length;exact wpAny_pyNext_list_end (I.ok.hd hc) st p.isList (by simp;lia) fun h' eb=>⟨rfl,I.turned (t':=s.toks) (fun b o B e=>eb b o B e) f0 f1 f3 f4 f5⟩
 self:=fun _ _ _ _ _ st h=>wpAny_pyIter_listiter st h
theorem wV {K:Frag}(a it:Addr):wP P w K tg (Itt K a) [it] it (fun i h=>h.IsTupleIter it a i) where
 mem:=by simp
 obj:=fun i h st b B=>by
  have e:b=it:=by simpa using B
  subst e;obtain⟨o,e,c,d⟩:=st;exact⟨o,e,fun v z=>by rw[d]at z;cases z⟩
 keep:=fun i h h' st k=>st.at fun o e=>k it (by simp) o e
 item:=by
  intro X Y hw hK hc i pins s σ H E I J st hg;subst Y hw hK;obtain⟨xs,x,O,hx⟩:=hg;obtain⟨its,rv,p,hz⟩:=I.tuple O;obtain⟨u,hu,ru⟩:=rv.get hx;obtain⟨f0,f1,f2,f3,f4,f5⟩:=J it (by simp);refine wpAny_pyNext_tuple_item st (show s.heap.IsTuple a its.toArray from p) (x:=u) (by simpa using hu) fun h' G sb=>?_;have I1:Inv X pins σ H {s with heap:=h' }:=I.turned (t':=s.toks) (fun b o B e=>(sb.2 b B).trans e) f0 f1 f3 f4 f5;obtain⟨o,e,c,d⟩:=id G;exact⟨u,rfl,sJ (s:={s with heap:=h' }) e c d (by decide) ⟨x,H,I1,ru,⟨rfl,fun ys hy=>by rw[I.tuple_inj hy O];exact hx⟩,G,fun b B=>(J b B).1⟩⟩
 done:=by
  intro X Y hw hK hc i pins s σ H E I J st hg;subst Y hw hK;obtain⟨xs,O,hx⟩:=hg;obtain⟨its,rv,p,hz⟩:=I.tuple O;obtain⟨f0,f1,f2,f3,f4,f5⟩:=J it (by simp);have hl:=rv.length;exact wpAny_pyNext_tuple_end (I.ok.hd hc) st (show s.heap.IsTuple a its.toArray from p) (by simp;lia) fun h' eb=>⟨rfl,I.turned (t':=s.toks) (fun b o B e=>eb b o B e) f0 f1 f3 f4 f5⟩
 self:=fun _ _ _ _ _ st h=>wpAny_pyIter_tupleiter st h
theorem wW {K:Frag}(it:Addr)(lo:Int)(n:Nat):wP P w K tg (Itr lo n) [it] it (fun i h=>IsRangeIter h it (lo+(i:Nat)*1) ((n:Int)-(i:Nat)) 1) where
 mem:=by simp
 obj:=fun i h st b B=>by
  have e:b=it:=by simpa using B
  subst e;exact⟨_,st,fun v z=>by
   have z':Data.fields _=Data.cell v:=z;cases z'⟩
 keep:=fun i h h' st k=>k it (by simp) _ st
 item:=by
  intro X O Y hK hc i pins s σ H E I J st hg;subst O Y hK;obtain⟨f0,f1,f2,f3,f4,f5⟩:=J it (by simp);have W:=Walks.range (prog:=X.prog) (w:=X.w) (I.ok.hd hc) it lo 1 n;refine W.item i s _ _ hg st fun v h' tk hv G kk=>?_;obtain⟨t,rfl⟩:=hv;have I1:Inv X pins σ H {s with heap:=h',toks:=tk}:=I.turned (fun b o B e=>kk b o (by simpa using B) e) f0 f1 f3 f4 f5;refine⟨_,rfl,sJ (s:={s with heap:=h',toks:=tk}) (n := "range_iterator") G rfl rfl (by decide) ⟨.int (lo+i),H,I1,⟨t,?_⟩,⟨rfl,rfl⟩,G,fun b B=>(J b B).1⟩⟩
  rw[Int.mul_one]
 done:=by
  intro X O Y hK hc i pins s σ H E I J st hg;subst O Y hK;obtain⟨f0,f1,f2,f3,f4,f5⟩:=J it (by simp);exact wpAny_pyNext_range_end (I.ok.hd hc) st (by have:n<=i:=hg;lia) fun h' eb=>⟨rfl,I.turned (t':=s.toks) (fun b o B e=>eb b o B e) f0 f1 f3 f4 f5⟩
 self:=fun _ _ _ _ _ st h=>wpAny_pyIter_rangeiter st h
section
variable {tg:Expr}
inductive C9 (K:Frag)(R:It->Hp->Prop)(x:V)(H1:Hp):Prop
 |mk (a:_) (h_0:x=.ref a) (h_1:(∃xs,SqL K H1 a xs)) (h_2:R (Itl K a) H1):C9 K R x H1
abbrev Hj (K:Frag)(tl:TE):TI:=fun σ H R=>tl σ H fun x H1=>C9 K R x H1
abbrev Ia (K:Frag)(tl:TE):TI:=fun σ H R=>tl σ H fun x H1=>∃a,x=.ref a/\(∃xs,SqT K H1 a xs)/\R (Itt K a) H1
theorem bQ (J:PE X l tl):PI X tg l (Hj X.K tl):=by
 intro pins s σ H R I h;refine thn (J pins s σ H _ I h) fun v B ⟨x,H1,G,O,q1⟩=>?_;obtain⟨a,e,⟨xs,Y⟩,q⟩:=q1;subst e;cases O;obtain⟨its,rv,p,hz⟩:=G.list Y;refine wpAny_pyIter_list p.isList ?_;refine⟨B.heap.objs.size,[B.heap.objs.size],_,_,H1,rfl,G.kept (t':=B.toks) fun b o e=>Ir _ e,zE a _,⟨_,IH _ rfl,rfl,rfl⟩,fun b hb=>?_,q⟩;have e:b=B.heap.objs.size:=by simpa using hb
 subst e;exact G.fpOk (Iw _) (G.hok.fresh (Iw _))
theorem tR (J:PE X l tl):PI X tg l (Ia X.K tl):=by
 intro pins s σ H R I h;refine thn (J pins s σ H _ I h) fun v B ⟨x,H1,G,O,q1⟩=>?_;obtain⟨a,e,⟨xs,Y⟩,q⟩:=q1;subst e;cases O;obtain⟨its,rv,p,hz⟩:=G.tuple Y;refine wpAny_pyIter_tuple (show B.heap.IsTuple a its.toArray from p) ?_;refine⟨B.heap.objs.size,[B.heap.objs.size],_,_,H1,rfl,G.kept (t':=B.toks) fun b o e=>Ir _ e,wV a _,⟨_,IH _ rfl,rfl,rfl⟩,fun b hb=>?_,q⟩;have e:b=B.heap.objs.size:=by simpa using hb
 subst e;exact G.fpOk (Iw _) (G.hok.fresh (Iw _))
theorem Bw {lo hi:Int}(I:Inv X pins σ H s)(h1:-(2^62)<=lo)(h2:lo<2^62)(G:-(2^62)<=hi)(J:hi<2^62)
  (q:R (Itr lo (hi-lo).toNat) H):wpAny (model X.prog X.w) X.A (pyIter (.ref s.heap.objs.size)) (PIE X pins σ tg R) E {s with heap:=s.heap.push {cls:=.type "range",data:=.fields #[.int lo t,.int hi u,.int 1 v]},toks:=tk}:=by
 refine wpAny_pyIter_range (IsRange.new ..) (small_one h1 h2 G J) ?_;have B:Inv X pins σ H {s with heap:=s.heap.push {cls:=.type "range",data:=.fields #[.int lo t,.int hi u,.int 1 v]},toks:=tk}:=I.kept fun b o e=>Ir _ e
 refine⟨(s.heap.push {cls:=.type "range",data:=.fields #[.int lo t,.int hi u,.int 1 v]}).objs.size,[(s.heap.push {cls:=.type "range",data:=.fields #[.int lo t,.int hi u,.int 1 v]}).objs.size],_,_,H,rfl,
  B.kept (t':=tk) fun b o e=>Ir _ e,wW _ lo (hi-lo).toNat,?_,fun b O=>?_,q⟩
 ·have Y:lo+((0:Nat):Int)*1=lo:=by simp
  have e2:(((hi-lo).toNat:Nat):Int)-((0:Nat):Int)=Builtin.Range.rangeSize lo hi 1:=by rw[rangeSize_one];split<;>lia
  show IsRangeIter _ _ (lo+((0:Nat):Int)*1) ((((hi-lo).toNat:Nat):Int)-((0:Nat):Int)) 1;rw[Y,e2];exact IH _ rfl
 ·have e:b=(s.heap.push {cls:=.type "range",data:=.fields #[.int lo t,.int hi u,.int 1 v]}).objs.size:=by simpa using O
  subst e;exact B.fpOk (Iw _) (B.hok.fresh (Iw _))
abbrev Hi (ta:TA):TI:=fun σ H R=>ta σ H fun vs H1=>∃j:Int,vs=[.int j]/\-(2^62)<=j/\j<2^62/\R (Itr 0 j.toNat) H1
theorem bx (B:Gl X "range")(G:X.mg "range" = none)(J:PA X [a] ta)(O:starEach [a] X.env=[(false,eval a X.env)]:=by rfl):PI X tg (.Call (.Name "range" p) [a] [] pos) (Hi ta):=by
 intro pins s σ H R I h;refine Call_ (jh I B G boot_range (PyProof.Rows.callWith_type1 (thn (J pos pins s σ H _ I h) fun us s1 ⟨vs,H1,Y,r1,q1⟩=>?_) O rfl));obtain⟨j,e,q1,q2,q⟩:=q1;subst e;cases r1 with
 |cons r rr=>
  cases rr;obtain⟨t,rfl⟩:=r;exact call_range_1 (Bw Y (by simp) (by simp) q1 q2 (by simpa using q))
abbrev HI (wi:TI)(g:TG)(tb:TS):TS:=fun D σ H=>wi σ H fun J H1=>∃W:Nat->NS9,(∃m,W 0 m σ H1)/\∀i m σ H,W i m σ H ->
 (J.stop i H/\D.nx σ H)\/(J.go i H/\∃N:SP9,(∀σ' H',N σ' H'->∃m',m'<m/\W (i+1) m' σ' H')/\∀x H',J.yld i H x H'->g x σ H' fun σ2 H2=>tb {D with nx:=N,ct:=N,bk:=D.nx} σ2 H2)
def qo (fp:List Addr)(h:Heap):Pn9:=fp.filterMap fun b=>(h.get? b).map fun o=>(b,o)
theorem jf (B:b∈fp)(e:h.get? b=some o):(b,o)∈qo fp h:=List.mem_filterMap.mpr ⟨b,B,by rw[e];rfl⟩
theorem Ai (B:p∈qo fp h):p.1∈fp/\h.get? p.1=some p.2:=by
 obtain⟨b,G,e⟩:=List.mem_filterMap.mp B;cases q:h.get? b with
 |none=>rw[q]at e;cases e
 |some o=>
  rw[q]at e;have e':(b,o)=p:=Option.some.inj e;subst e';exact⟨G,q⟩
theorem Inv.pinned (I:Inv X pins σ H s)(J:∀b∈fp,n_ X pins H b)(O:∀b∈fp,∃o,s.heap.get? b=some o/\∀v,o.data≠.cell v):Inv X (pins++qo fp s.heap) σ H s :=
 I.pins_of fun p Y=>(Iz.mp Y).elim (fun z=>I.pin p (IW _ z)) fun z=>by
  obtain⟨B,e⟩:=Ai z;obtain⟨f0,f1,f2,_⟩:=J p.1 B;obtain⟨o,G,d⟩:=O p.1 B;rw[e]at G;cases G;exact⟨e,f0,f1,f2,d⟩
theorem Inv.unpinned (I:Inv X (pins++pl) σ H s):Inv X pins σ H s:=I.pins_of fun p B=>I.pin p (IW _ (Ja _ B))
theorem aN (hp:PassesOwn (model X.prog X.w) X.A X.env X.xe)(hc:X.calm=true)(hi:PI X tg iter wi)(hg:PG X tg g)(B:PSs X body tb)
  (hs:∀x,foldedSetIterable iter X.env x=pure x:=by intro _;rfl):PS X (.For tg iter body [] pos) (HI wi g tb):=by
 intro pins s σ H D I h;refine wpAny_For (thn (hi pins s σ H _ I h) fun v s1 h1=>thn h1 fun a6 s2 h2=>?_) hs;obtain⟨it,fp,tn,J,H2,e,I2,T,a4,f2,W,⟨m0,w0⟩,turn⟩:=h2;subst e
 -- what stays true of the iterator's objects through the loop
 have G:∀{H':Hp},(∀b∈fp,H' b=none)->∀b∈fp,n_ X pins H' b:=fun hn b B=>⟨hn b B,(f2 b B).2⟩;refine codeAny_forLoop_any (fun n s'=>∃i σ' H',Inv X pins σ' H' s'/\tn i s'.heap/\(∀b∈fp,H' b=none)/\W i n σ' H') ?_ m0 ⟨0,σ,H2,I2,a4,fun b B=>(f2 b B).1,w0⟩;rintro n s3 ⟨i,σ3,H3,I3,a1,a2,w3⟩;rcases turn i n σ3 H3 w3 with⟨a3,qn⟩ | ⟨go,N,hN,step⟩
 ·refine wpAny_passesOwn hp (thn (T.done X rfl rfl rfl hc i pins s3 σ3 H3 X.xe I3 (G a2) a1 a3) fun r s4 ⟨hr,I4⟩=>?_);subst hr;exact wpAny_execs_nil ⟨σ3,H3,I4,qn⟩
 ·refine wpAny_passesOwn hp (thn (T.item X rfl rfl rfl hc i pins s3 σ3 H3 X.xe I3 (G a2) a1 go) fun r s4 ⟨u,hr,h4⟩=>?_);subst hr;refine wpAny_passesOwn hp (thn h4 fun _ s5 ⟨x,H5,I5,r5,y5,a0,a5⟩=>?_);have I5':=I5.pinned (G a5) (T.obj _ _ a0);refine wpAny_passesOwn hp (thn (hg _ s5 σ3 H5 x u _ I5' r5 (step x H5 y5)) fun _ s6 ⟨σ6,H6,I6,q6⟩=>?_);refine wpAny_passesOwn hp (thn (B _ s6 σ6 H6 _ I6 q6) fun f s7 q7=>?_);have again:∀{O:St} {Y:Hp},Inv X (pins++qo fp s5.heap) O Y s7->N O Y->∃m,m<n/\∃i σ' H',Inv X pins σ' H' s7/\tn i s7.heap/\(∀b∈fp,H' b=none)/\W i m σ' H':=fun {O Y} I7 n7=>by
   obtain⟨m',hm,w7⟩:=hN O Y n7;refine⟨m',hm,i+1,O,Y,I7.unpinned,T.keep _ _ _ a0 fun b B o e=>(I7.pin (b,o) (IW _ (IW _ (jf B e)))).1,fun b B=>?_,w7⟩;obtain⟨o,e,d⟩:=T.obj _ _ a0 b B;exact (I7.pin (b,o) (IW _ (IW _ (jf B e)))).2.1
  cases f with
  |next=>obtain⟨O,Y,I7,n7⟩:=q7;exact again I7 n7
  |cont=>obtain⟨O,Y,I7,n7⟩:=q7;exact again I7 n7
  |brk=>obtain⟨O,Y,I7,q7⟩:=q7;exact⟨O,Y,I7.unpinned,q7⟩
  |ret v=>obtain⟨x7,O,Y,I7,r7,q7⟩:=q7;exact⟨x7,O,Y,I7.unpinned,r7,q7⟩
end
theorem bJ {K:Frag}{a:Addr}{xs:List V}{g:TG}{tb:TS}{D:rC}{σ:St}{H:Hp}(Pv:NS9)(J:Pv 0 σ H)(O:∀i σ H,i<=xs.length->Pv i σ H->SqL K H a xs)
  (Y:∀i x σ H,xs[i]? = some x->Pv i σ H->g x σ H fun B H2=>tb {D with nx:=Pv (i+1),ct:=Pv (i+1),bk:=D.nx} B H2) (hd:∀σ H,Pv xs.length σ H->D.nx σ H) :
  ∃W:Nat->NS9,(∃m,W 0 m σ H)/\∀i m σ H,W i m σ H ->
   ((Itl K a).stop i H/\D.nx σ H)\/((Itl K a).go i H/\∃N:SP9,(∀G H',N G H'->∃m',m'<m/\W (i+1) m' G H')/\∀x H',(Itl K a).yld i H x H'->g x σ H' fun B H2=>tb {D with nx:=N,ct:=N,bk:=D.nx} B H2):=by
 refine⟨fun i m σ H=>m=xs.length-i/\i<=xs.length/\Pv i σ H,⟨xs.length,by simp,IG _,J⟩,?_⟩;rintro i m σ H ⟨rfl,hi,p⟩;have q:=O i σ H hi p;by_cases hlt:i<xs.length
 ·refine .inr ⟨⟨xs,xs[i],q,by simp[hlt]⟩,Pv (i+1),fun G H' p'=>⟨xs.length-(i+1),by omega,rfl,hlt,p'⟩,fun x H' y=>?_⟩;obtain⟨e,y⟩:=y;subst e;exact Y i x σ _ (y xs q) p
 ·have e:i=xs.length:=by lia
  subst e;exact .inl ⟨⟨xs,q,Iw _⟩,hd σ H p⟩
theorem pF {K:Frag}{a:Addr}{xs:List V}{g:TG}{tb:TS}{D:rC}{σ:St}{H:Hp}(Pv:NS9)(J:Pv 0 σ H)(O:∀i σ H,i<=xs.length->Pv i σ H->SqT K H a xs)
  (Y:∀i x σ H,xs[i]? = some x->Pv i σ H->g x σ H fun B H2=>tb {D with nx:=Pv (i+1),ct:=Pv (i+1),bk:=D.nx} B H2) (hd:∀σ H,Pv xs.length σ H->D.nx σ H) :
  ∃W:Nat->NS9,(∃m,W 0 m σ H)/\∀i m σ H,W i m σ H ->
   ((Itt K a).stop i H/\D.nx σ H)\/((Itt K a).go i H/\∃N:SP9,(∀G H',N G H'->∃m',m'<m/\W (i+1) m' G H')/\∀x H',(Itt K a).yld i H x H'->g x σ H' fun B H2=>tb {D with nx:=N,ct:=N,bk:=D.nx} B H2):=by
 refine⟨fun i m σ H=>m=xs.length-i/\i<=xs.length/\Pv i σ H,⟨xs.length,by simp,IG _,J⟩,?_⟩;rintro i m σ H ⟨rfl,hi,p⟩;have q:=O i σ H hi p;by_cases hlt:i<xs.length
 ·refine .inr ⟨⟨xs,xs[i],q,by simp[hlt]⟩,Pv (i+1),fun G H' p'=>⟨xs.length-(i+1),by omega,rfl,hlt,p'⟩,fun x H' y=>?_⟩;obtain⟨e,y⟩:=y;subst e;exact Y i x σ _ (y xs q) p
 ·have e:i=xs.length:=by lia
  subst e;exact .inl ⟨⟨xs,q,Iw _⟩,hd σ H p⟩
theorem bV {lo:Int}{n:Nat}{g:TG}{tb:TS}{D:rC}{σ:St}{H:Hp}(Pv:NS9)(J:Pv 0 σ H)
  (O:∀i σ H,i<n->Pv i σ H->g (.int (lo+i)) σ H fun B H2=>tb {D with nx:=Pv (i+1),ct:=Pv (i+1),bk:=D.nx} B H2) (Y:∀σ H,Pv n σ H->D.nx σ H) :
  ∃W:Nat->NS9,(∃m,W 0 m σ H)/\∀i m σ H,W i m σ H ->
   ((Itr lo n).stop i H/\D.nx σ H)\/((Itr lo n).go i H/\∃N:SP9,(∀G H',N G H'->∃m',m'<m/\W (i+1) m' G H')/\∀x H',(Itr lo n).yld i H x H'->g x σ H' fun B H2=>tb {D with nx:=N,ct:=N,bk:=D.nx} B H2):=by
 refine⟨fun i m σ H=>m=n-i/\i<=n/\Pv i σ H,⟨n,by simp,IG _,J⟩,?_⟩;rintro i m σ H ⟨rfl,hi,p⟩;by_cases hlt:i<n
 ·refine .inr ⟨hlt,Pv (i+1),fun G H' p'=>⟨n-(i+1),by lia,rfl,hlt,p'⟩,fun x H' y=>?_⟩;obtain⟨e,y⟩:=y;subst e y;exact O i σ _ hlt p
 ·have e:i=n:=by lia
  subst e;exact .inl ⟨Iw _,Y σ H p⟩
theorem AT (Pv:SP9)(μ:St->Hp->Nat)(G:Pv σ H)
  (J:∀σ H,Pv σ H->c σ H fun b H1=>if b=true then tb {D with nx:=fun B H'=>Pv B H'/\μ B H'<μ σ H,ct:=fun B H'=>Pv B H'/\μ B H'<μ σ H,bk:=D.nx} σ H1 else D.nx σ H1)
  (mono:∀σ H Q Q',(∀b H1,Q b H1->Q' b H1)->c σ H Q->c σ H Q'):A9 c tb D σ H:=by
 refine⟨fun m σ H=>m=μ σ H/\Pv σ H,⟨_,rfl,G⟩,?_⟩;rintro m σ H ⟨rfl,p⟩;refine mono σ H _ _ (fun b H1 q=>?_) (J σ H p);cases b with
 |true=>exact⟨_,fun B H' ⟨O,l⟩=>⟨_,l,rfl,O⟩,q⟩
 |false=>exact q
abbrev R2:=V->V->HV9
def OpR (X:Cx)(f:Value->Value->Sem Value)(r:R2):Prop :=
 ∀(pins:Pn9) (s:Sh9) (σ:St) (H:Hp) (x y:V) (v u:Value) (Q:VK),Inv X pins σ H s->aZ x v->aZ y u->r x y H Q ->
  wpAny (model X.prog X.w) X.A (f v u) (EP X pins σ Q) X.xe s
def UnR (X:Cx)(f:Value->Sem Value)(r:V->HV9):Prop :=
 ∀(pins:Pn9) (s:Sh9) (σ:St) (H:Hp) (x:V) (v:Value) (Q:VK),Inv X pins σ H s->aZ x v->r x H Q ->
  wpAny (model X.prog X.w) X.A (f v) (EP X pins σ Q) X.xe s
def fO (X:Cx)(f:Value)(r:List V->HV9):Prop :=
 ∀(pins:Pn9) (s:Sh9) (σ:St) (H:Hp) (xs:List V) (us:LV9) (Q:VK),Inv X pins σ H s->aV xs us->r xs H Q ->
  wpAny (model X.prog X.w) X.A (call f us) (EP X pins σ Q) X.xe s
abbrev tOp (r:R2)(ta tb:TE):TE:=fun σ H Q=>ta σ H fun x H1=>tb σ H1 fun y H2=>r x y H2 Q
abbrev tUn (r:V->HV9)(ta:TE):TE:=fun σ H Q=>ta σ H fun x H1=>r x H1 Q
def of2 (Q:II9):V->V->Prop | .int i,.int j=>Q i j | _,_=>False
theorem cF (h:of2 Q x y):∃i j,x=.int i/\y=.int j/\Q i j:=by
 cases x<;>cases y<;>first | exact⟨_,_,rfl,rfl,h⟩ | exact False.elim h
def rI (C:II9)(g:Int->Int->V):R2:=fun x y H Q=>of2 (fun i j=>C i j/\Q (g i j) H) x y
def rI0 (g:Int->Int->V):R2:=fun x y H Q=>of2 (fun i j=>Q (g i j) H) x y
theorem cU (h:Q i j):of2 Q (.int i) (.int j):=h
def rU (g:Int->V):V->HV9:=fun x H Q=>∃i,x=.int i/\Q (g i) H
section
variable {a b c:Expr}{ta tb tc:TE}{pos:Pos}
theorem Gy (G:PE X a ta)(J:PE X b tb){pins:Pn9}{s:Sh9}{σ:St}{H:Hp}{R:V->V->Hp->Prop}(I:Inv X pins σ H s)
  (h:ta σ H fun x H1=>tb σ H1 fun y H2=>R x y H2) {Q:EV9} {f:Value->Value->Sem Value}
  (O:∀v u B x y H2,Inv X pins σ H2 B->aZ x v->aZ y u->R x y H2->wpAny (model X.prog X.w) X.A (f v u) Q X.xe B) :
  wpAny (model X.prog X.w) X.A (eval a X.env) (fun v Y=>wpAny (model X.prog X.w) X.A (eval b X.env) (fun u s₂=>wpAny (model X.prog X.w) X.A (f v u) Q X.xe s₂) X.xe Y) X.xe s:=by
 refine thn (G pins s σ H _ I h) fun v s1 ⟨x,H1,I1,r1,q1⟩=>?_;refine thn (J pins s1 σ H1 _ I1 q1) fun u B ⟨y,H2,I2,r2,q2⟩=>?_;exact O v u B x y H2 I2 r1 r2 q2
theorem aj {op:Operator}{r:R2}(B:OpR X (binaryOp op) r)(G:PE X a ta)(J:PE X b tb):PE X (.BinOp a op b pos) (tOp r ta tb):=by
 intro pins s σ H Q I h;exact wpAny_BinOp (Gy G J I h fun v u O x y H2 Y rx ry q=>B pins O σ H2 x y v u Q Y rx ry q)
theorem EY (B:UnR X (unaryOp op) r)(G:PE X a ta):PE X (.UnaryOp op a pos) (tUn r ta):=by
 intro pins s σ H Q I h;exact UnaryOp_ (thn (G pins s σ H _ I h) fun v J ⟨x,H1,O,Y,q1⟩=>B pins J σ H1 x v Q O Y q1)
theorem opI {f:Value->Value->Sem Value}{C:II9}{g:Int->Int->Int}
  (rule:∀(i j:Int) (t u:Tok) (s:Sh9) (Q:EV9) (E:EV9),C i j->Q (.int (g i j) s.toks) {s with toks:=s.toks+1}->wpAny (model X.prog X.w) X.A (f (.int i t) (.int j u)) Q E s) :
  OpR X f (rI C fun i j=>.int (g i j)):=by
 intro pins s σ H x y v u Q I B G h;obtain⟨i,j,rfl,rfl,J,q⟩:=cF h;obtain⟨t,rfl⟩:=B;obtain⟨t',rfl⟩:=G;exact rule i j t t' s _ _ J ⟨.int (g i j),H,I.tok _,⟨_,rfl⟩,q⟩
theorem FT {f:Value->Value->Sem Value}{g:Int->Int->Int}
  (rule:∀(i j:Int) (t u:Tok) (s:Sh9) (Q:EV9) (E:EV9),Q (.int (g i j) s.toks) {s with toks:=s.toks+1}->wpAny (model X.prog X.w) X.A (f (.int i t) (.int j u)) Q E s) :
  OpR X f (rI0 fun i j=>.int (g i j)):=by
 intro pins s σ H x y v u Q I B G h;obtain⟨i,j,rfl,rfl,q⟩:=cF h;obtain⟨t,rfl⟩:=B;obtain⟨t',rfl⟩:=G;exact rule i j t t' s _ _ ⟨.int (g i j),H,I.tok _,⟨_,rfl⟩,q⟩
theorem FU {f:Value->Value->Sem Value}{g:Int->Int->Bool}
  (rule:∀(i j:Int) (t u:Tok) (s:Sh9) (Q:EV9) (E:EV9),Q (.bool (g i j)) s->wpAny (model X.prog X.w) X.A (f (.int i t) (.int j u)) Q E s) :
  OpR X f (rI0 fun i j=>.bl (g i j)):=by
 intro pins s σ H x y v u Q I B G h;obtain⟨i,j,rfl,rfl,q⟩:=cF h;obtain⟨t,rfl⟩:=B;obtain⟨t',rfl⟩:=G;exact rule i j t t' s _ _ ⟨.bl (g i j),H,I,rfl,q⟩
def HA (i j:Int):Prop:=0<=j/\j<=1000000/\i.natAbs<2^64
def GH (i j:Int):Prop:=(-(2^64)<i/\i<2^64)\/(-(2^64)<j/\j<2^64)
theorem GH.ok {i j:Int}(h:GH i j):IntMulOk i j:=by
 rcases h with⟨h1,h2⟩|⟨h1,h2⟩
 ·exact .of_left (intBits_le_64 h1 h2)
 ·exact .of_right (intBits_le_64 h1 h2)
theorem wU (k:Nat):(0:Int)<=2^k:=by
 rw[two_pow_cast];exact Int.natCast_nonneg _
def BD:R2:=fun x y H Q=>of2 (fun i j=>Q (.int (i+j)) H) x y
theorem aK:OpR X (binaryOp .Add) BD:=FT fun _ _ _ _ _ _ _ q=>add_int q
def Bx:R2:=fun x y H Q=>of2 (fun i j=>Q (.int (i-j)) H) x y
theorem cT:OpR X (binaryOp .Sub) Bx:=FT fun _ _ _ _ _ _ _ q=>sub_int q
def BA:R2:=fun x y H Q=>of2 (fun i j=>GH i j/\Q (.int (i*j)) H) x y
theorem cH:OpR X (binaryOp .Mult) BA:=opI fun _ _ _ _ _ _ _ B q=>mul_int q B.ok
def BB:R2:=fun x y H Q=>of2 (fun i j=>0<j/\Q (.int (i%j)) H) x y
theorem bF:OpR X (binaryOp .Mod) BB:=opI fun i j _ _ _ _ _ B q=>by
 have h1:(0:Int)<j:=B;exact mod_int' (by lia) (by rw[Int.fmod_eq_emod_of_nonneg i (by lia)];exact q)
def Bz:R2:=fun x y H Q=>of2 (fun i j=>HA i j/\Q (.int (i^j.toNat)) H) x y
theorem FN:OpR X (binaryOp .Pow) Bz:=opI fun _ _ _ _ _ _ _ B q=>pow_int_small B.1 B.2.1 B.2.2 q
def By:R2:=fun x y H Q=>of2 (fun i j=>HA i j/\Q (.int (i*2^j.toNat)) H) x y
theorem BX:OpR X (binaryOp .LShift) By:=opI fun _ _ _ _ _ _ _ B q=>lshift_int_small B.1 B.2.1 B.2.2 q
theorem BW:OpR X (binaryOp .RShift) (rI (fun _ j=>0<=j) fun i j=>.int (i/2^j.toNat)):=opI fun i j _ _ _ _ _ B q=>
 rshift_int B (by rw[Lr i (wU _)];exact q)
def BC:R2:=fun x y H Q=>of2 (fun i j=>Q (.int (Builtin.bitAnd i j)) H) x y
theorem B3:OpR X (binaryOp .BitAnd) BC:=FT fun _ _ _ _ _ _ _ q=>and_int q
theorem unI {f:Value->Sem Value}{g:Int->Int}
  (rule:∀(i:Int) (t:Tok) (s:Sh9) (Q:EV9) (E:EV9),Q (.int (g i) s.toks) {s with toks:=s.toks+1}->wpAny (model X.prog X.w) X.A (f (.int i t)) Q E s) :
  UnR X f (rU fun i=>.int (g i)):=by
 intro pins s σ H x v Q I B h;obtain⟨i,rfl,q⟩:=h;obtain⟨t,rfl⟩:=B;exact rule i t s _ _ ⟨.int (g i),H,I.tok _,⟨_,rfl⟩,q⟩
theorem AX:UnR X (unaryOp .USub) (rU fun i=>.int (-i)):=unI fun _ _ _ _ _ q=>neg_int q
end
def GY:V->V->Bool
 | .non,.non=>true | .non,.int _=>true | .int _,.non=>true | .non,.bl _=>true | .bl _,.non=>true | .non,.str _=>true | .str _,.non=>true
 | .int _,.int _=>true | .bl _,.bl _=>true | .str _,.str _=>true | .byt _,.byt _=>true
 | .int _,.str _=>true | .str _,.int _=>true | .bl _,.str _=>true | .str _,.bl _=>true
 |_,_=>false
def rEq:R2:=fun x y H Q=>GY x y=true/\Q (.bl (decide (x=y))) H
def rNe:R2:=fun x y H Q=>GY x y=true/\Q (.bl (!decide (x=y))) H
theorem zk:decide (V.int i=V.int j)=(i==j):=by
 rw[JH];simp
theorem CN:decide (V.bl i=V.bl j)=(i==j):=by
 rw[JH];simp
theorem zj:decide (V.str i=V.str j)=(i==j):=by
 rw[JH];simp
theorem zm:decide (V.byt i=V.byt j)=(i.toList==j.toList):=by
 rw[JH];cases i;cases j;simp
section
variable {a b c:Expr}{ta tb tc:TE}{pos:Pos}
theorem br (I:Inv X pins σ H s)(q:Q (.bl k) H)(e:k=k'):EP X pins σ Q (.bool k') s:=by
 subst e;exact⟨.bl k,H,I,rfl,q⟩
theorem gJ:OpR X (compareOp .Eq) rEq:=by
 intro pins s σ H x y v u Q I J B h;obtain⟨G,q⟩:=h;cases x with
 |non=>
  cases J;cases y with
  |non=>cases B;exact PySem.EqNone.eq_none_none (br I q (by simp))
  |bl j=>cases B;exact PySem.EqNone.eq_none_bool (br I q (by simp))
  |int j=>obtain⟨t',rfl⟩:=B;exact PySem.EqNone.eq_none_int (br I q (by simp))
  |str j=>obtain⟨t',rfl⟩:=B;exact PySem.EqNone.eq_none_str (br I q (by simp))
  |_=>exact absurd (show false=true from G) IL
 |bl i=>
  cases J;cases y with
  |non=>cases B;exact PySem.EqNone.eq_bool_none (br I q (by simp))
  |bl j=>cases B;exact eq_bool (br I q CN)
  |str j=>obtain⟨t',rfl⟩:=B;exact PySem.EqMixed.eq_bool_str (br I q (by simp))
  |_=>exact absurd (show false=true from G) IL
 |int i=>
  obtain⟨t,rfl⟩:=J;cases y with
  |non=>cases B;exact PySem.EqNone.eq_int_none (br I q (by simp))
  |int j=>obtain⟨t',rfl⟩:=B;exact eq_int (br I q zk)
  |str j=>obtain⟨t',rfl⟩:=B;exact PySem.EqMixed.eq_int_str (br I q (by simp))
  |_=>exact absurd (show false=true from G) IL
 |str i=>
  obtain⟨t,rfl⟩:=J;cases y with
  |non=>cases B;exact PySem.EqNone.eq_str_none (br I q (by simp))
  |bl j=>cases B;exact PySem.EqMixed.eq_str_bool (br I q (by simp))
  |int j=>obtain⟨t',rfl⟩:=B;exact PySem.EqMixed.eq_str_int (br I q (by simp))
  |str j=>obtain⟨t',rfl⟩:=B;exact eq_str (br I q zj)
  |_=>exact absurd (show false=true from G) IL
 |byt i=>
  obtain⟨t,rfl⟩:=J;cases y with
  |byt j=>obtain⟨t',rfl⟩:=B;exact PySem.W.eq_bytes (br I q zm)
  |_=>exact absurd (show false=true from G) IL
 |_=>cases y<;>exact absurd (show false=true from G) IL
theorem mF:OpR X (compareOp .NotEq) rNe:=by
 intro pins s σ H x y v u Q I J B h;obtain⟨G,q⟩:=h;cases x with
 |non=>
  cases J;cases y with
  |non=>cases B;exact PySem.EqNone.ne_none_none (br I q (by simp))
  |bl j=>cases B;exact PySem.EqNone.ne_none_bool (br I q (by simp))
  |int j=>obtain⟨t',rfl⟩:=B;exact PySem.EqNone.ne_none_int (br I q (by simp))
  |str j=>obtain⟨t',rfl⟩:=B;exact PySem.EqNone.ne_none_str (br I q (by simp))
  |_=>exact absurd (show false=true from G) IL
 |bl i=>
  cases J;cases y with
  |non=>cases B;exact PySem.EqNone.ne_bool_none (br I q (by simp))
  |bl j=>cases B;exact ne_bool (br I q (I_ not CN))
  |str j=>obtain⟨t',rfl⟩:=B;exact PySem.EqMixed.ne_bool_str (br I q (by simp))
  |_=>exact absurd (show false=true from G) IL
 |int i=>
  obtain⟨t,rfl⟩:=J;cases y with
  |non=>cases B;exact PySem.EqNone.ne_int_none (br I q (by simp))
  |int j=>obtain⟨t',rfl⟩:=B;exact ne_int (br I q (I_ not zk))
  |str j=>obtain⟨t',rfl⟩:=B;exact PySem.EqMixed.ne_int_str (br I q (by simp))
  |_=>exact absurd (show false=true from G) IL
 |str i=>
  obtain⟨t,rfl⟩:=J;cases y with
  |non=>cases B;exact PySem.EqNone.ne_str_none (br I q (by simp))
  |bl j=>cases B;exact PySem.EqMixed.ne_str_bool (br I q (by simp))
  |int j=>obtain⟨t',rfl⟩:=B;exact PySem.EqMixed.ne_str_int (br I q (by simp))
  |str j=>obtain⟨t',rfl⟩:=B;exact ne_str (br I q (I_ not zj))
  |_=>exact absurd (show false=true from G) IL
 |byt i=>
  obtain⟨t,rfl⟩:=J;cases y with
  |byt j=>obtain⟨t',rfl⟩:=B;exact PySem.W.ne_bytes (br I q (I_ not zm))
  |_=>exact absurd (show false=true from G) IL
 |_=>cases y<;>exact absurd (show false=true from G) IL
def DH:R2:=fun x y H Q=>of2 (fun i j=>Q (.bl (decide (i<j))) H) x y
theorem oj:OpR X (compareOp .Lt) DH:=FU fun _ _ _ _ _ _ _ q=>lt_int q
def DI:R2:=fun x y H Q=>of2 (fun i j=>Q (.bl (decide (i<=j))) H) x y
theorem vZ:OpR X (compareOp .LtE) DI:=FU fun _ _ _ _ _ _ _ q=>le_int q
def DJ:R2:=fun x y H Q=>of2 (fun i j=>Q (.bl (decide (j<i))) H) x y
theorem G8:OpR X (compareOp .Gt) DJ:=FU fun _ _ _ _ _ _ _ q=>gt_int q
theorem kq:OpR X (compareOp .In) (fun x y H Q=>∃i j,x=.str i/\y=.str j/\Q (.bl (!(Builtin.Str.occurrences j i 0 j.length 1).isEmpty)) H):=by
 intro pins s σ H x y v u Q I B G h;obtain⟨i,j,rfl,rfl,q⟩:=h;obtain⟨t,rfl⟩:=B;obtain⟨t',rfl⟩:=G;exact in_str (br I q rfl)
theorem FP:OpR X (compareOp .Is) (fun x y H Q=>y=.non/\Q (.bl (decide (x=.non))) H):=by
 intro pins s σ H x y v u Q I B G h;obtain⟨rfl,q⟩:=h;cases G;refine is_none_gen (br I q ?_);cases x<;>first
  | (cases B;rfl)
  | (obtain⟨t,rfl⟩:=B;rfl)
theorem Ca (b:Expr)(h:op≠.In:=by decide)(h2:op≠.NotIn:=by decide):behindInMarks op b=false:=by
 have B:(op==CmpOp.In)=false:=by cases op<;>first | rfl | exact absurd rfl h
 have G:(op==CmpOp.NotIn)=false:=by cases op<;>first | rfl | exact absurd rfl h2
 cases b<;>simp[behindInMarks,B,G]
theorem hE {op:CmpOp}{r:R2}(B:OpR X (compareOp op) r)(G:PE X a ta)(J:PE X b tb)(O:behindInMarks op b=false:=by exact Ca _):PE X (.Compare a [op] [b] pos) (tOp r ta tb):=by
 intro pins s σ H Q I h;exact wpAny_Compare1 (Gy G J I h fun v u Y x y H2 I2 rx ry q=>B pins Y σ H2 x y v u Q I2 rx ry q) O
abbrev EU (t:TE):TT:=fun σ H Q=>t σ H fun x H1=>ofB (Q · H1) x
theorem ay {Q:Bool->Prop}{c:Bool}(h:Q c):ofB Q (.bl c):=h
theorem B8 {Q:Bool->Prop}{x:V}{c:Bool}(e:x=.bl c)(h:Q c):ofB Q x:=by subst e;exact h
theorem fi (e:x=.int i)(f:y=.int j)(h:Q i j):of2 Q x y:=by subst e f;exact h
theorem aJ (B:OpR X (compareOp op) r)(G:PE X a ta)(J:PE X b tb)(O:behindInMarks op b=false:=by exact Ca _):PT X (.Compare a [op] [b] pos) (EU (tOp r ta tb)):=by
 intro pins s σ H Q I h;refine wpAny_isTrue_Compare1 (thn (G pins s σ H _ I h) fun v Y ⟨x,H1,I1,r1,q1⟩=>thn (J pins Y σ H1 _ I1 q1) fun u s2 ⟨y,H2,I2,r2,q2⟩=>
  thn (B pins s2 σ H2 x y v u _ I2 r1 r2 q2) fun c s3 ⟨z,H3,I3,r3,q3⟩=>?_) O
 obtain⟨k,rfl,q3⟩:=mH q3;cases r3;exact wpAny_truthy_bool ⟨H3,I3,q3⟩
abbrev Bc (r r':R2)(ta tb tc:TE):TE:=fun σ H Q=>ta σ H fun x H1=>tb σ H1 fun y H2=>r x y H2 fun z H3=>∃k,z=.bl k /\
 (if k=true then tc σ H3 fun w' H4=>r' y w' H4 Q else Q (.bl false) H3)
theorem qt (Y:OpR X (compareOp op) r)(B:OpR X (compareOp op') r')(ha:PE X a ta)(hb:PE X b tb)(hc:PE X c tc)
  (hm:lastMarks [op,op'] [b,c]=false:=by with_unfolding_all rfl):PE X (.Compare a [op,op'] [b,c] pos) (Bc r r' ta tb tc):=by
 intro pins s σ H Q I h;refine Compare_chain (thn (ha pins s σ H _ I h) fun v s1 ⟨x,H1,I1,r1,q1⟩=>chain_link (thn (hb pins s1 σ H1 _ I1 q1) fun u s2 ⟨y,H2,I2,G,q2⟩=>
  thn (Y pins s2 σ H2 x y v u _ I2 r1 G q2) fun d s3 ⟨z,J,O,r3,k,e,q3⟩=>?_)) hm
 subst e;cases r3;refine wpAny_truthy_bool ?_;cases k with
 |false=>exact ite_ff ⟨.bl false,J,O,rfl,q3⟩
 |true=>exact ite_tt (chain_last (thn (hc pins s3 σ J _ O q3) fun w' s4 ⟨z',H4,I4,r4,q4⟩=>B pins s4 σ H4 y z' u w' Q I4 G r4 q4))
theorem BF (ho:OpR X (compareOp op) r)(B:OpR X (compareOp op') r')(ha:PE X a ta)(hb:PE X b tb)(hc:PE X c tc)
  (hm:lastMarks [op,op'] [b,c]=false:=by with_unfolding_all rfl):PT X (.Compare a [op,op'] [b,c] pos) (EU (Bc r r' ta tb tc)):=by
 intro pins s σ H Q I h;refine isTrue_chain (thn (ha pins s σ H _ I h) fun v s1 ⟨x,H1,I1,r1,q1⟩=>test_link (thn (hb pins s1 σ H1 _ I1 q1) fun u s2 ⟨y,H2,I2,J,q2⟩=>
  thn (ho pins s2 σ H2 x y v u _ I2 r1 J q2) fun d s3 ⟨z,O,Y,r3,k,e,q3⟩=>?_)) hm
 subst e;cases r3;refine wpAny_truthy_bool ?_;cases k with
 |false=>
  exact ite_ff ⟨O,Y,q3⟩
 |true=>
  refine ite_tt (test_last (thn (hc pins s3 σ O _ Y q3) fun w' s4 ⟨z',H4,I4,r4,q4⟩=>thn (B pins s4 σ H4 y z' u w' _ I4 J r4 q4) fun d' s5 ⟨z2,H5,I5,r5,G⟩=>?_));obtain⟨k2,rfl,G⟩:=mH G;cases r5;exact wpAny_truthy_bool ⟨H5,I5,G⟩
theorem uu:(sizeLine:Nat)<2^63:=by rw[sizeLine_eq];decide
theorem fh:OpR X (binaryOp .Add) (fun x y H Q=>∃i j,x=.str i/\y=.str j/\i.length+j.length<=sizeLine/\Q (.str (i++j)) H):=by
 intro pins s σ H x y v u Q I B G h;obtain⟨i,j,rfl,rfl,hz,q⟩:=h;obtain⟨t,rfl⟩:=B;obtain⟨t',rfl⟩:=G;exact add_str (fun t' tk=>⟨.str (i++j),H,I.tok _,⟨_,rfl⟩,q⟩) hz
theorem iD (r:aV [x] us):∃u,us=[u]/\aZ x u:=by
 cases r with
 |cons r1 r2=>cases r2;exact⟨_,rfl,r1⟩
theorem jB (r:aV [x,y] us):∃u w',us=[u,w']/\aZ x u/\aZ y w':=by
 cases r with
 |cons r1 r2=>
  cases r2 with
  |cons r3 r4=>cases r4;exact⟨_,_,rfl,r1,r3⟩
theorem C0:fO X (.builtin "abs") (fun xs H Q=>∃i,xs=[.int i]/\Q (.int (if i<0 then -i else i)) H):=by
 intro pins s σ H xs B Q I r h;obtain⟨i,rfl,q⟩:=h;obtain⟨u,rfl,t,rfl⟩:=iD r;exact call_abs_int fun u tk=>⟨.int (if i<0 then -i else i),H,I.tok _,⟨_,rfl⟩,q⟩
theorem nZ (B:X.calm=true):fO X (.builtin "max") (fun xs H Q=>∃i j,xs=[.int i,.int j]/\Q (.int (if j>i then j else i)) H):=by
 intro pins s σ H xs G Q I r h;obtain⟨i,j,rfl,q⟩:=h;obtain⟨u,J,rfl,⟨t,rfl⟩,⟨t',rfl⟩⟩:=jB r;refine max_two_ints (I.ok.hd B) fun h' tk k=>⟨_,H,I.kept k,?_,q⟩;by_cases hj:j>i
 ·rw[if_pos hj,if_pos hj];exact⟨_,rfl⟩
 ·rw[if_neg hj,if_neg hj];exact⟨_,rfl⟩
theorem nY (B:X.calm=true):fO X (.builtin "min") (fun xs H Q=>∃i j,xs=[.int i,.int j]/\Q (.int (if j<i then j else i)) H):=by
 intro pins s σ H xs G Q I r h;obtain⟨i,j,rfl,q⟩:=h;obtain⟨u,J,rfl,⟨t,rfl⟩,⟨t',rfl⟩⟩:=jB r;refine min_two_ints (I.ok.hd B) fun h' tk k=>⟨_,H,I.kept k,?_,q⟩;by_cases hj:j<i
 ·rw[if_pos hj,if_pos hj];exact⟨_,rfl⟩
 ·rw[if_neg hj,if_neg hj];exact⟨_,rfl⟩
theorem n6:fO X (.type "int") (fun xs H Q=>(∃i,xs=[.int i]/\Q (.int i) H)\/∃k,xs=[.bl k]/\Q (.int (if k then 1 else 0)) H):=by
 intro pins s σ H xs G Q I r h;rcases h with⟨i,rfl,q⟩ | ⟨k,rfl,q⟩
 ·obtain⟨u,rfl,t,rfl⟩:=iD r;exact call_int_int ⟨.int i,H,I,⟨_,rfl⟩,q⟩
 ·obtain⟨u,rfl,B⟩:=iD r;cases B;exact call_int_bool ⟨.int (if k then 1 else 0),H,I.tok _,⟨_,rfl⟩,q⟩
theorem mX:fO X (.type "str") (fun xs H Q=>∃i,xs=[.int i]/\i.natAbs.log2<1920/\Q (.str (toString i)) H):=by
 intro pins s σ H xs B Q I r h;obtain⟨i,rfl,hz,q⟩:=h;obtain⟨u,rfl,t,rfl⟩:=iD r;exact PySem.P.str_of_int hz ⟨.str _,H,I.tok _,⟨_,rfl⟩,q⟩
def Io (K:Frag)(x:V)(H:Hp)(n:Nat):Prop :=
 match x with
 | .str y=>y.length<=sizeLine/\n=y.length
 | .byt y=>y.size<=sizeLine/\n=y.size
 | .ref p=>(∃xs,SqL K H p xs/\n=xs.length)\/∃xs,SqT K H p xs/\n=xs.length
 |_=>False
theorem aY:fO X (.builtin "len") (fun xs H Q=>∃x n,xs=[x]/\Io X.K x H n/\Q (.int n) H):=by
 intro pins s σ H xs us Q I r h;obtain⟨x,n,rfl,e,q⟩:=h;obtain⟨u,rfl,J⟩:=iD r;have hl:=uu;have hs:sizeLine=16777216:=sizeLine_eq;cases x with
 |str y=>
  obtain⟨t,rfl⟩:=J;obtain⟨hy,G⟩:y.length<=sizeLine/\n=y.length:=e;subst G;exact len_str (by lia) ⟨.int _,H,I.tok _,⟨_,rfl⟩,q⟩
 |byt y=>
  obtain⟨t,rfl⟩:=J;obtain⟨hy,G⟩:y.size<=sizeLine/\n=y.size:=e;subst G;exact PySem.W.len_bytes (by lia) ⟨.int _,H,I.tok _,⟨_,rfl⟩,q⟩
 |ref p=>
  cases J;have G:(∃xs,SqL X.K H p xs/\n=xs.length)\/∃xs,SqT X.K H p xs/\n=xs.length:=e;rcases G with⟨xs,O,G⟩ | ⟨xs,O,G⟩
  ·subst G;obtain⟨its,Y,pl,hz⟩:=I.list O;have B:=Y.length;exact Calls.call_len_list pl.isList (by simp only[IV];lia) ⟨.int xs.length,H,I.tok _,⟨_,by simp only[IV];rw[B]⟩,q⟩
  ·subst G;obtain⟨its,Y,pl,hz⟩:=I.tuple O;have B:=Y.length;exact len_tuple pl (by simp only[IV];lia) ⟨.int xs.length,H,I.tok _,⟨_,by simp only[IV];rw[B]⟩,q⟩
 |_=>exact (show False from e).elim
end
structure GF (h:Heap)(x dx C:Addr)(mA:Mg9):Prop where
 obj:h.get? x=some (instObj C dx)
 ns:h.Ns1 dx mA
 ne:dx≠x
theorem An {h:Heap}{dx:Addr}{mA:Mg9}(n:h.Ns1 dx mA):∃od,h.get? dx=some od/\∀name,lookIn name od=some (mA name):=by
 obtain⟨o,es,ep,G,J,O,_,Y⟩:=n;refine⟨o,G,fun name=>?_⟩;have e:=Y name;unfold nsFind findBy at e;rw[<-Array.find?_toList]at e;unfold lookIn;rw[J];dsimp only
 split
 ·rename_i y q
  rw[q]at e;exact I_ some e
 ·rename_i q
  rw[q]at e;have a:es.toList.any (·.refKey)=false:=by
   rw[List.any_eq_false];intro y hy;obtain⟨z,t,B⟩:=O y (Array.mem_toList_iff.mp hy);simp[DictEntry.refKey,B]
  have a':¬ es.toList.any (·.refKey)=true:=by rw[a];exact IL
  rw[if_neg a'];exact I_ some e
theorem GF.look (I:GF h x dx C mA):∃od,PySem.W.InstAt h x (instObj C dx) C (some od)/\∀name,lookIn name od=some (mA name) :=
 let ⟨od,ho,hl⟩:=An I.ns
 ⟨od,⟨I.obj,rfl,rfl,ho⟩,hl⟩
theorem oW.some_of (r:oW (some v) o):∃u,o=some u/\aZ v u:=by
 cases o with
 |none=>exact (show False from r).elim
 |some u=>exact⟨u,rfl,r⟩
section
variable {P:Pg9}{w:Wd9}{H H':Hp}{h h':Heap}{a C dx:Addr}{fs fs':List (Str×V)}
theorem Eo (B:HOk P w H h)(e:H a=some (.ins C dx fs)):∃mA,GF h a dx C mA/\(∀f,oW (fs.lookup f) (mA f))/\PySem.Within mA (fs.map (·.1))/\fs.length<=1000/\H dx=some (.own a):=by
 obtain⟨d,z,ne,G,mA,n,r,q⟩:=(show bv P w H h a (.ins C dx fs) from B a _ e);exact⟨mA,⟨G,n,ne⟩,r,q,z,d⟩
end
structure Cls (K:Frag)(C:Addr):Prop where
 pg:PySem.W.plainGet K C Str.empty=true
 hd:PySem.W.hasDictIn K C=true
 po:PySem.W.plainOver K C=true
 sa:PySem.W.findIn K (.ref C) "__setattr__" = some (some (.builtin "object.__setattr__"))
theorem Cls.get {K:Frag}(c:Cls K C)(f:Str):PySem.W.plainGet K C f=true:=c.pg
section
variable {pins:Pn9}{σ:St}{H:Hp}{s:Sh9}{A:Around}{E:EV9}{Q:EV9}{c:Value}{b:Bool}
inductive lR (K:Frag)(H:Hp):V->Value->Prop where
 |non:lR K H .non (.type "NoneType")
 |bl (x:Bool):lR K H (.bl x) (.type "bool")
 |int (i:Int):lR K H (.int i) (.type "int")
 |str (x:Str):lR K H (.str x) (.type "str")
 |flt (x:UInt64):lR K H (.flt x) (.type "float")
 |lst {a:Addr} {xs:List V} (e:H a=some (.lst xs)):lR K H (.ref a) (.type "list")
 |frz {a:Addr} {o:Obj} {xs:List V} (e:H a=some (.frz o (.lst xs))):lR K H (.ref a) (.type "list")
 |tup {a:Addr} {xs:List V} (e:H a=some (.tup xs)):lR K H (.ref a) (.type "tuple")
 |dK {a:Addr} {kvs:LK9} (e:H a=some (.dK kvs)):lR K H (.ref a) (.type "dict")
 |dT {a:Addr} {kvs:List (List Key×V)} (e:H a=some (.dT kvs)):lR K H (.ref a) (.type "dict")
 |ins {a C dx:Addr} {fs:List (Str×V)} (e:H a=some (.ins C dx fs)) (cl:Cls K C) (ha:PySem.W.findIn K (.ref C) "__class__" = some (some (.builtin "object.__class__")))
   (hn:PySem.W.specialIn K (.builtin "object.__class__") "__get__" = some (some (.builtin "getset_descriptor.__get__"))) (htk:PySem.W.takesIn K (.builtin "object.__class__")=some true)
   (hm:PySem.W.mroIn K C (.type "object")=some true):lR K H (.ref a) (.ref C)
theorem Av (I:Inv X pins σ H s)(B:aZ x u)(ty:lR X.K H x t)(e:kitOne X.K t c=some b)(h:∀tk,Q (.bool b) {s with toks:=tk}):
  wpAny (model X.prog X.w) A (call (.builtin "isinstance") [u,c]) Q E s:=by
 cases ty with
 |non=>cases (show u=Value.none from B);exact kia_one PySem.W.kitx_none I.kIn True.intro e (fun z=>nomatch z) h
 |bl y=>cases (show u=Value.bool y from B);exact kia_one PySem.W.kitx_bool I.kIn True.intro e (fun z=>nomatch z) h
 |int i=>obtain⟨t,q⟩:=(show ∃t,u=Value.int i t from B);cases q;exact kia_one PySem.W.kitx_int I.kIn True.intro e (fun z=>nomatch z) h
 |str y=>obtain⟨t,q⟩:=(show ∃t,u=Value.str y t from B);cases q;exact kia_one PySem.W.kitx_str I.kIn True.intro e (fun z=>nomatch z) h
 |flt y=>obtain⟨t,q⟩:=(show ∃t,u=Value.float y t from B);cases q;exact kia_one PySem.W.kitx_float I.kIn True.intro e (fun z=>nomatch z) h
 | @lst a xs ea=>
  cases (show u=Value.ref a from B);obtain⟨_,_,n,_,h1⟩:=(show bv X.prog X.w H s.heap a (.lst xs) from I.hok a _ ea);exact kia_one PySem.W.kitx_list I.kIn ⟨_,h1,rfl⟩ e (fun z=>nomatch z) h
 | @frz a ob xs ea=>
  cases (show u=Value.ref a from B);obtain⟨_,_,_,n,_,h1⟩:=(show bv X.prog X.w H s.heap a (.frz ob (.lst xs)) from I.hok a _ ea);exact kia_one PySem.W.kitx_list I.kIn ⟨_,h1,rfl⟩ e (fun z=>nomatch z) h
 | @tup a xs ea=>
  cases (show u=Value.ref a from B);obtain⟨_,_,_,p⟩:=(show bv X.prog X.w H s.heap a (.tup xs) from I.hok a _ ea);obtain⟨o,h1,h2,_⟩:=p;exact kia_one PySem.W.kitx_tuple I.kIn ⟨o,h1,h2⟩ e (fun z=>nomatch z) h
 | @dK a kvs ea=>
  cases (show u=Value.ref a from B);obtain⟨_,_,vs,_,p⟩:=(show bv X.prog X.w H s.heap a (.dK kvs) from I.hok a _ ea);obtain⟨o,es,ep,h1,h2,_⟩:=p;exact kia_one PySem.W.kitx_dict I.kIn ⟨o,h1,h2.1⟩ e (fun z=>nomatch z) h
 | @dT a kvs ea=>
  cases (show u=Value.ref a from B);obtain⟨_,_,xs,_,o,es,ep,h1,h2,_⟩:=(show bv X.prog X.w H s.heap a (.dT kvs) from I.hok a _ ea);exact kia_one PySem.W.kitx_dict I.kIn ⟨o,h1,h2.1⟩ e (fun z=>nomatch z) h
 | @ins a C dx fs ea cl ha hn htk hm=>
  cases (show u=Value.ref a from B);obtain⟨mA,O,_⟩:=Eo I.hok ea;obtain⟨od,J,_⟩:=O.look;exact kia_one (PySem.W.kitx_own (cl.get _) cl.hd ha hn htk hm) I.kIn J e (fun z=>nomatch z) h
end
structure cV (k:Nat)(A:Around):Prop where
 hd:A.handled=none
 dp:A.depth+3*k+5<recursionLimit
 un:A.units+16*k+200<cLine
theorem cV.mono (r:cV k A)(h:j<=k):cV j A:=⟨r.hd,by have:=r.dp;lia,by have:=r.un;lia⟩
theorem cV.deeper (r:cV (k+1) A)(env:Env):cV k (A.deeper env) :=
 ⟨r.hd,by have:=r.dp;show A.depth+1+3*k+5<_;lia,by have:=r.un;show A.units+3+16*k+200<_;lia⟩
theorem cV.in1 (r:cV (k+1) A):cV k A.in1 :=
 ⟨r.hd,by have:=r.dp;show A.depth+3*k+5<_;lia,by have:=r.un;show A.units+1+16*k+200<_;lia⟩
theorem cV.depth (r:cV k A):A.depth<recursionLimit:=by have:=r.dp;lia
theorem cV.units (r:cV k A):A.units+64<cLine:=by have:=r.un;lia
theorem cV.units0 (r:cV k A):A.units<cLine:=by have:=r.un;lia
abbrev GO:TA:=fun _ H Q=>Q [] H
abbrev Bb (ta:TE)(tr:TA):TA:=fun σ H Q=>ta σ H fun x H1=>tr σ H1 fun xs H2=>Q (x::xs) H2
section
variable {e:Expr}{es:List Expr}{te:TE}{t:TA}{pos:Pos}
theorem ae:PA X [] GO:=fun _ _ _ _ H Q I h=>Calls.spliced_nil ⟨[],H,I,.nil,h⟩
theorem aa (B:PE X e te)(G:PA X es t)(J:starEach (e::es) X.env=(false,eval e X.env)::starEach es X.env:=by rfl):PA X (e::es) (Bb te t):=by
 intro pos pins s σ H Q I h;rw[J];show wpAny _ _ (spliced ((false,eval e X.env)::backTo pos (starEach es X.env))) _ _ s;refine Calls.spliced_cons (thn (B pins s σ H _ I h) fun u O ⟨x,H1,Y,r1,q1⟩=>?_);exact thn (G pos pins O σ H1 _ Y q1) fun us s2 ⟨xs,H2,I2,r2,q2⟩=>⟨x::xs,H2,I2,.cons r1 r2,q2⟩
abbrev GK (t:TA):TE:=fun σ H Q=>t σ H fun xs H1=>xs.length<=sizeLine/\Nw H1 (.tup xs) fun p H=>Q (.ref p) H
abbrev GR (t:TA):TE:=fun σ H Q=>t σ H fun xs H1=>xs.length<=sizeLine/\Nw H1 (.lst xs) fun p H=>Q (.ref p) H
theorem FF {x1}(h:PA X es t):PE X (.Tuple es x1 pos) (GK t):=by
 intro pins s σ H Q I J;refine wpAny_Tuple_spliced (thn (h pos pins s σ H _ I J) fun O B ⟨xs,H1,G,r,z,q⟩=>⟨by rw[<-r.length];exact z,?_⟩);have Y:H1 B.heap.objs.size=none:=G.hok.fresh (Iw _);refine⟨.ref B.heap.objs.size,upd H1 B.heap.objs.size (.tup xs),G.laid (t':=B.toks) (fun b u e=>Ir _ e) (Iw _) ?_,rfl,q _ Y⟩;exact⟨z,O,r,⟨_,IH _ rfl,rfl,_,rfl⟩⟩
theorem FH (h:PA X es t):PE X (.List es pos) (GR t):=by
 intro pins s σ H Q I J;refine wpAny_List_spliced (thn (h pos pins s σ H _ I J) fun O B ⟨xs,H1,G,r,z,q⟩=>⟨by rw[<-r.length];exact z,?_⟩);have Y:H1 B.heap.objs.size=none:=G.hok.fresh (Iw _);refine⟨.ref B.heap.objs.size,upd H1 B.heap.objs.size (.lst xs),G.laid (t':=B.toks) (fun b u e=>Ir _ e) (Iw _) ?_,rfl,q _ Y⟩;exact⟨z,O,0,r,IH _ rfl⟩
end
abbrev Sp:=List V->Hp->VK->XK->Prop
abbrev CXT:=List Env->Hp->Sh9->XK->EV9
structure ET (P:Pg9)(w:Wd9)(K:Frag)(mg:Mg9)(base:Heap)(A:Around)(outer:List Env)(s:Sh9)(H:Hp):Prop where
 frames:A.frames=some outer
 mod:Mod K mg base
 bs:∀b o,base.get? b=some o->s.heap.get? b=some o/\H b=none
 bsz:base.objs.size<=s.heap.objs.size
 funs:s.heap.FunFrames base outer
 frf:∀b∈frs outer,H b=none
 hok:HOk P w H s.heap
 bare:AllBare s.gens
def CE (outer:List Env)(P:Pg9)(w:Wd9)(H:Hp)(s:Sh9)(Q:VK)(u:Value)(s':Sh9):Prop :=
 ∃v H',s'.os=s.os/\AllBare s'.gens/\Un (frs outer) [] H H' s.heap s'.heap/\HOk P w H' s'.heap/\aZ v u/\Q v H'
def CR (CX:CXT)(outer:List Env)(P:Pg9)(w:Wd9)(H:Hp)(s:Sh9)(Q:VK)(E:XK)(r:Result)(s':Sh9):Prop :=
 match r with
 | .ok (.ret u)=>CE outer P w H s Q u s'
 | .ok _=>False
 | .error e=>CX outer H s E e s'
structure bB (P:Pg9)(w:Wd9)(K:Frag)(mg:Mg9)(base:Heap)(CX:CXT)(k:Nat)(f:Addr)(fd:Fd9)(ps:List Str)(sp:Sp):Prop where
 len:∀vs H Q E,sp vs H Q E->vs.length=ps.length
 run:∀(A:Around) (outer:List Env) (s:Sh9) (H:Hp) (args:Args) (us:LV9) (vs:List V) (Q:VK) (E:XK),cV k A->ET P w K mg base A outer s H->BindsTo s fd args (ps.zip us)->aV vs us->sp vs H Q E ->
  codeAny (model P w) A (.call (.ref f) args) (CR CX outer P w H s Q E) s
section
variable {pins:Pn9}{σ:St}{H:Hp}{s s':Sh9}
theorem Inv.env0 (I:Inv X pins σ H s):ET X.prog X.w X.K X.mg X.base X.A X.stack s H :=
 ⟨I.ok.frames,I.ok.mod,I.bs,IU I.ok.bsz I.sz,I.stack,I.stkFree,I.hok,I.bare⟩
theorem Inv.after (I:Inv X pins σ H s)(h:CE X.stack X.prog X.w H s Q u s'):EP X pins σ Q u s':=by
 obtain⟨v,H',os,bare,un,B,r,q⟩:=h;obtain⟨J,g,d,t,G⟩:=s';obtain rfl:G=s.os:=os;exact⟨v,H',I.call (h':=J) (g':=g) (d':=d) (t':=t) (ch:=[]) un B bare (fun b z=>absurd z (by simp)),r,q⟩
end
abbrev Be (sp:Sp)(dvs:List V)(E:XK)(t:TA):TE:=fun σ H Q=>t σ H fun vs H1=>sp (vs++dvs) H1 Q E
def eU (K:Frag)(fd:Fd9)(ps:List Str)(ds:LV9):Prop :=
 ∀(s:Sh9) (us:LV9),K.In s.heap->(us++ds).length=ps.length->BindsTo s fd ⟨us,[]⟩ (ps.zip (us++ds))
theorem eU.all {K:Frag}(h:∀B:LV9,B.length=ps.length->bindArgs fd ⟨B,[]⟩=pure (ps.zip B)):eU K fd ps []:=fun s B _ G=>by
 rw[Jt]at G ⊢;exact .of_eq (h B G)
def vf (CX:CXT)(X:Cx)(E:XK):Prop:=∀(pins:Pn9) (σ:St) (H:Hp) (s:Sh9) (e:Value) (s':Sh9),Inv X pins σ H s->CX X.stack H s E e s'->X.xe e s'
section
variable {CX:CXT}{k:Nat}{f C:Addr}{fd:Fd9}{ps:List Str}{sp:Sp}{dvs:List V}{ds:LV9}{E:XK}{x m:Str}{p pos apos:Pos}{e o:Expr}{es:List Expr}{ta:TE}{t:TA}
theorem Fw (F:bB X.prog X.w X.K X.mg X.base CX k f fd ps sp)(J:cV k X.A)(O:eU X.K fd ps ds)(Y:aV dvs ds)(hx:vf CX X E)
  (I:Inv X pins σ H s) (r:aV vs us) (h:sp (vs++dvs) H Q E):wpAny (model X.prog X.w) X.A (call (.ref f) us) (EP X pins σ Q) X.xe s:=by
 have G:aV (vs++dvs) (us++ds):=r.append Y;have hl:(us++ds).length=ps.length:=by rw[<-G.length];exact F.len _ _ _ _ h
 refine wpAny_call (codeAny_mono (F.run X.A X.stack s H ⟨us,[]⟩ (us++ds) (vs++dvs) Q E J I.env0 (O s us I.kIn hl) G h) fun r s' B=>?_);cases r with
 |error e=>exact hx pins σ H s e s' I B
 |ok fl=>
  cases fl with
  |ret u=>exact I.after B
  |next=>exact False.elim B
  |brk=>exact False.elim B
  |cont=>exact False.elim B
theorem D3 (F:bB X.prog X.w X.K X.mg X.base CX k f fd ps sp)(O:cV k X.A)(Y:Gl X x)(hm:X.mg x=some (.ref f))(hk:keepIn X.K (.ref f)=true)(hb:eU X.K fd ps ds)(hd:aV dvs ds)(hx:vf CX X E)
  (ha:PA X (e::es) t) (B:(x==("__debug__" : Str))=false:=by decide) (he:starEach (e::es) X.env=(false,eval e X.env)::starEach es X.env:=by rfl) (G:(backTo pos (starEach es X.env)).any (·.1)=false:=by rfl) :
  PE X (.Call (.Name x p) (e::es) [] pos) (Be sp dvs E t):=by
 intro pins s σ H Q I h;refine wpAny_Call_Name_kw (uA I Y hm ?_ B);refine PySem.W.callWith_K (h₀:=X.base) I.ok.mod.kin hk (thn (ha pos pins s σ H _ I h) fun us s1 ⟨vs,H1,J,r,q⟩=>⟨J.kIn,?_⟩) he G;exact Fw F O hb hd hx J r q
end
structure aE (N P:List Str)(sc:Scope):Prop where
 kind:sc.kind=.function:=by rfl
 co:sc.isCoroutine=false:=by rfl
 gen:sc.isGenerator=false:=by rfl
 nd:N.Nodup:=by decide +kernel
 pre:N.take P.length=P:=by rfl
 par:∀x∈P,sc.names.lookup x=some .local\/sc.names.lookup x=some .cell:=by decide +kernel
 nofree:∀y∈sc.names,y.2≠.free:=by decide +kernel
theorem sS {kindOf:Str->Option NameKind}{x:Str}:∀{binds:List (Str×Value)} {m:Mg9},(∀v,(x,v)∉binds)->bindL kindOf binds m x=m x
 | [],_,_=>rfl
 | (n,v)::r,m,h=>by
  unfold bindL;rw[sS fun w B=>h w (IA _ B)]
  split
  ·have:x≠n:=by rintro rfl;exact h v IF
   simp[this]
  ·rfl
theorem sW {kindOf:Str->Option NameKind}{x:Str}:∀{binds:List (Str×Value)} {m:Mg9},(∀v,(x,v)∉binds)->bindC kindOf binds m x=m x
 | [],_,_=>rfl
 | (n,v)::r,m,h=>by
  unfold bindC;rw[sW fun w B=>h w (IA _ B)]
  split
  ·rfl
  ·have:x≠n:=by rintro rfl;exact h v IF
   simp[this]
theorem sU {kindOf:Str->Option NameKind}{x:Str}{v:Value}:∀{P:List Str} {vs:LV9} {i:Nat} {m:Mg9},P.Nodup->P[i]? = some x->vs[i]? = some v->kindOf x=some .local ->
  bindL kindOf (P.zip vs) m x=some v
 | [],_,_,_,_,h,_,_=>by simp at h
 |_::_,[],_,_,_,_,h,_=>by simp at h
 |p::P,w::vs,0,m,nd,h1,h2,hk=>by
  simp at h1 h2;subst h1;subst h2;show bindL kindOf ((p,w)::P.zip vs) m p=_;unfold bindL;rw[sS fun v B=>(JE.mp nd).1 (K3 B).1,if_pos hk];simp
 |p::P,w::vs,i+1,m,nd,h1,h2,hk=>by
  show bindL kindOf ((p,w)::P.zip vs) m x=_;unfold bindL;exact sU (i:=i) (JE.mp nd).2 (by simpa using h1) (by simpa using h2) hk
theorem sX {kindOf:Str->Option NameKind}{x:Str}{v:Value}:∀{P:List Str} {vs:LV9} {i:Nat} {m:Mg9},P.Nodup->P[i]? = some x->vs[i]? = some v->kindOf x≠some .local ->
  bindC kindOf (P.zip vs) m x=some v
 | [],_,_,_,_,h,_,_=>by simp at h
 |_::_,[],_,_,_,_,h,_=>by simp at h
 |p::P,w::vs,0,m,nd,h1,h2,hk=>by
  simp at h1 h2;subst h1;subst h2;show bindC kindOf ((p,w)::P.zip vs) m p=_;unfold bindC;rw[sW fun v B=>(JE.mp nd).1 (K3 B).1,if_neg hk];simp
 |p::P,w::vs,i+1,m,nd,h1,h2,hk=>by
  show bindC kindOf ((p,w)::P.zip vs) m x=_;unfold bindC;exact sX (i:=i) (JE.mp nd).2 (by simpa using h1) (by simpa using h2) hk
def start (N:List Str)(vs:List V):St:=vs.map some++List.replicate (N.length-vs.length) none
def xX (CX:CXT)(P:Pg9)(w:Wd9)(K:Frag)(mg:Mg9)(base:Heap)(N:List Str)(qual:Str)(scope:Scope)(f:Addr)(cd:Value)(A:Around)(outer:List Env)(s:Sh9)(H:Hp)(E:XK):Cx where
 prog:=P
 w:=w
 K:=K
 mg:=mg
 base:=base
 A:=A.deeper (envOfC qual scope s.heap.objs.size f cd)
 N:=N
 s₀:=s
 H₀:=H
 env:=envOfC qual scope s.heap.objs.size f cd
 outer:=outer
 stack:=envOfC qual scope s.heap.objs.size f cd::outer
 ex:=[]
 calm:=true
 fn:=fun _=>true
 pn:=[]
 xe:=fun e s'=>wpAny (model P w) (A.deeper (envOfC qual scope s.heap.objs.size f cd)) (leaving (envOfC qual scope s.heap.objs.size f cd) e) (fun _ s''=>CX outer H s E e s'') (fun e' s''=>CX outer H s E e' s'') s'
theorem wI {B:Scope}{n:Nat}{x:Str}(h:B.names.lookup x=some .cell):∃c,(cellsFrom n B.names []).lookup x=some c:=by
 have q:=PySem.W.cellsFrom_some B.names n [] (.inl h);exact I8.mp q
theorem Aw {CX:CXT}{P:Pg9}{w:Wd9}{K:Frag}{mg:Mg9}{base:Heap}{N ps:List Str}{qual:Str}{scope:Scope}{f:Addr}{cd:Value}{A:Around}{outer:List Env}{s s1:Sh9}{H:Hp}{E:XK}{us:LV9}{vs:List V}
  (S:aE N ps scope) (hd:A.handled=none) (B:ET P w K mg base A outer s H) (hl:vs.length=ps.length) (r:aV vs us)
  (x:InCallC s s.heap.objs.size (bindL (envOfC qual scope s.heap.objs.size f cd).kindOf (ps.zip us) fun _=>none) (cellsFrom (s.heap.objs.size+1) scope.names []) (bindC (envOfC qual scope s.heap.objs.size f cd).kindOf (ps.zip us) fun _=>none) s1) :
  Inv (xX CX P w K mg base N qual scope f cd A outer s H E) [] (start N vs) H s1:=by
 have a0:ps.length<=N.length:=by have:=I_ List.length S.pre;rw[Jl]at this;lia
 obtain⟨h1,tk,rfl,hk⟩:=x.done;have G:∀b:Addr,b∉(xX CX P w K mg base N qual scope f cd A outer s H E).ex:=fun b z=>absurd (show b∈([]:List Addr) from z) (by simp);refine⟨⟨B.mod,S.kind,rfl,rfl,Iw _,fun y z c h1 h2=>?_,fun y J=>?_,fun y c _ h=>?_,fun _=>hd,Around.frames_deeper B.frames,.inr ⟨rfl,rfl⟩,fun b z=>absurd z (G b),B.bs,B.bsz,fun b _ _=>G b,fun b z=>absurd z (G b),B.funs,B.frf⟩,
  rfl,B.bare,Un.kept hk,⟨_,x.toInCall.ns,fun i y v h1 h2 h3=>?_⟩,fun y c h=>⟨_,x.cell y c h⟩,B.hok.fresh (Iw _),fun y c h=>?_,fun p O=>absurd (show p∈([]:Pn9) from O) (by simp),B.hok.kept hk,?_⟩
 ·exact name_of_addr x.apart (PySem.mem_of_lookup h1) (PySem.mem_of_lookup h2)
 ·have J:scope.names.lookup y=some .cell\/scope.names.lookup y=some .free:=J;rcases J with J | J
  ·exact wI J
  ·exact absurd rfl (S.nofree _ (PySem.mem_of_lookup J))
 ·exact JW (x.above y c (PySem.mem_of_lookup h))
 ·have hi:i<vs.length:=by
   unfold start at h2;by_cases hi:i<vs.length
   ·exact hi
   ·rw[Js (by simpa using hi)]at h2;rw[K5]at h2
    split at h2<;>cases h2
  have ha:vs[i]? = some v:=by
   unfold start at h2;rw[Jj (by simpa using hi),IM]at h2;cases e:vs[i]? with
   |none=>rw[e]at h2;cases h2
   |some a=>rw[e]at h2;cases h2;rfl
  obtain⟨u,hu,rv⟩:=r.get ha;have O:ps[i]? = some y:=by
   rw[<-S.pre,List.getElem?_take_of_lt (by lia)];exact h1
  have Y:ps.Nodup:=by rw[<-S.pre];exact S.nd.sublist (LI _ _)
  refine⟨u,rv,?_⟩;rcases S.par y (ID O) with k | k
  ·exact .inl ⟨k,sU Y O hu k⟩
  ·obtain⟨c,e⟩:=wI (n:=s.heap.objs.size+1) k;refine .inr ⟨.inl k,c,e,?_⟩;have q:=x.cell y c e;rw[sX Y O hu (by show scope.names.lookup y≠_;rw[k];decide)]at q;exact q
 ·exact B.hok.fresh (JW (x.above y c (PySem.mem_of_lookup h)))
 ·unfold start;show _=N.length;rw[Iy,Iq,KJ]
  lia
theorem Fa {CX:CXT}{P:Pg9}{w:Wd9}{K:Frag}{mg:Mg9}{base:Heap}{k:Nat}{f:Addr}{name qual:Str}{G:Arguments}{O:List Stmt}{scope:Scope}{dV kV doc pm B ct oc:Value}{an od:Option Addr}
  {a2:Array (OV9)} {N ps:List Str} {sp:Sp} (lk:K.lookup f=some ⟨oc,od,.func (fnOf name qual G O scope dV kV doc pm an B ct),a2⟩) (a3:codeIn K B qual=true) (S:aE N ps scope)
  (len:∀vs H Q E,sp vs H Q E->vs.length=ps.length)
  (Y:∀(A:Around) (outer:List Env) (s:Sh9) (H:Hp) (vs:List V) (Q:VK) (E:XK),cV k (A.deeper (envOfC qual scope s.heap.objs.size f B))->sp vs H Q E ->
   ∃t,PSs (xX CX P w K mg base N qual scope f B A outer s H E) O t/\t {nx:=fun _ H'=>Q .non H',rt:=Q} (start N vs) H) :
  bB P w K mg base CX (k+1) f (fnOf name qual G O scope dV kV doc pm an B ct) ps sp:=by
 refine⟨len,fun A outer s H args us vs Q E hr e0 hb r a1=>?_⟩;have hl:=len _ _ _ _ a1;have KX:K.In s.heap:=e0.mod.kin.keeps fun b o e=>(e0.bs b o e).1;have a4:s.heap.NoLimit:=e0.mod.nolimit.keeps fun b o e=>(e0.bs b o e).1;have a0:∀y∈ps.zip us,scope.names.lookup y.1=some .local\/(scope.names.lookup y.1=some .cell/\((cellsFrom (s.heap.objs.size+1) scope.names []).lookup y.1).isSome=true):=fun⟨n,v⟩ hy=>by
  rcases S.par n (K3 hy).1 with q|q
  ·exact .inl q
  ·exact .inr ⟨q,PySem.W.cellsFrom_some _ _ _ (.inl q)⟩
 refine codeAny_call_function hr.depth (KX _ _ lk) rfl S.co S.gen rfl (PySem.W.codeRec_of KX a3) (hb _ _ _ _ ?_);refine wpAny_newFunctionEnv_cells S.kind a0 fun env he s1 x=>?_;subst he;refine⟨a4.keeps x.toInCall.keep,codeAny_func ?_⟩;obtain⟨t,ht,hq⟩:=Y A outer s H vs Q E (hr.deeper _) a1;have I:Inv (xX CX P w K mg base N qual scope f B A outer s H E) [] (start N vs) H s1:=Aw S hr.hd e0 hl r x;refine Jy (ht [] s1 (start N vs) H _ I hq) (fun fl s' hs=>?_) fun e s' hs=>hs;have fin:∀{σ':St} {H':Hp} {v:V} {u:Value},Inv (xX CX P w K mg base N qual scope f B A outer s H E) [] σ' H' s'->aZ v u->Q v H'->CE outer P w H s Q u s' :=
  fun {σ' H' v u} J rv q=>⟨v,H',J.os,J.bare,J.base,J.hok,rv,q⟩
 cases fl with
 |ret u=>
  obtain⟨v,σ',H',J,rv,q⟩:=hs;exact fin J rv q
 |next=>
  obtain⟨σ',H',J,q⟩:=hs;exact fin (v:=V.non) (u:=Value.none) J rfl q
 |brk=>
  obtain⟨_,_,_,q⟩:=hs;exact False.elim q
 |cont=>
  obtain⟨_,_,_,q⟩:=hs;exact False.elim q
section
variable {x:Str}{p pos:Pos}{e:Expr}{es:List Expr}{t:TA}{id T:String}{r:List V->HV9}
abbrev tCB (r:List V->HV9)(t:TA):TE:=fun σ H Q=>t σ H fun vs H1=>r vs H1 Q
theorem av (J:fO X (.builtin id) r)(O:Gl X x)(Y:X.mg x=none)(hv:bootBuiltins x=some (.builtin id))(ha:PA X (e::es) t)(hn:x ≠ "__name__" := by decide)(B:(x==("__debug__" : Str))=false:=by decide)
  (he:starEach (e::es) X.env=(false,eval e X.env)::starEach es X.env:=by rfl) (G:(backTo pos (starEach es X.env)).any (·.1)=false:=by rfl):PE X (.Call (.Name x p) (e::es) [] pos) (tCB r t):=by
 intro pins s σ H Q I h;refine wpAny_Call_Name_kw (jh I O Y hv ?_ hn B);exact PyProof.Rows.callWith_builtin1 (thn (ha pos pins s σ H _ I h) fun us s1 ⟨vs,H1,I1,r1,q1⟩=>J pins s1 σ H1 vs us Q I1 r1 q1) he G
theorem cq (J:fO X (.type T) r)(O:Gl X x)(Y:X.mg x=none)(hv:bootBuiltins x=some (.type T))(ha:PA X (e::es) t)(hn:x ≠ "__name__" := by decide)(B:(x==("__debug__" : Str))=false:=by decide)
  (he:starEach (e::es) X.env=(false,eval e X.env)::starEach es X.env:=by rfl) (G:(backTo pos (starEach es X.env)).any (·.1)=false:=by rfl):PE X (.Call (.Name x p) (e::es) [] pos) (tCB r t):=by
 intro pins s σ H Q I h;refine wpAny_Call_Name_kw (jh I O Y hv ?_ hn B);exact PyProof.Rows.callWith_type1 (thn (ha pos pins s σ H _ I h) fun us s1 ⟨vs,H1,I1,r1,q1⟩=>J pins s1 σ H1 vs us Q I1 r1 q1) he G
end
end L2
namespace HT
open PySem PyProof.Rows
section
variable {prog:Program}{w:World}{A:Around}{E:Value->Shared->Prop}{s:Shared}
def sIx (n d:Nat):Option Int->Nat
 |none=>d
 |some v=>if v<0 then (v+(n:Int)).toNat else min v.toNat n
theorem vI (n d:Nat):sIx n d none=d:=rfl
theorem yA (n d k:Nat):sIx n d (some (k:Int))=min k n:=by
 show (if (k:Int)<0 then ((k:Int)+(n:Int)).toNat else min (k:Int).toNat n)=min k n;rw[if_neg (by simp),Jn]
end
end HT
namespace L2
open PySem PySem.Spec PyProof.Rows
variable {X:Cx}
abbrev TO:=St->Hp->(Option Int->Hp->Prop)->Prop
def PO (X:Cx)(e:Option Expr)(t:TO):Prop :=
 ∀(pins:Pn9) (s:Sh9) (σ:St) (H:Hp) (Q:Option Int->Hp->Prop),Inv X pins σ H s->t σ H Q ->
  wpAny (model X.prog X.w) X.A (evalPart e X.env) (fun u s'=>∃o H',Inv X pins σ H' s'/\IsPart u o/\Q o H') X.xe s
def Do:TO:=fun _ H Q=>Q none H
abbrev GM (t:TE):TO:=fun σ H Q=>t σ H fun x H1=>∃i,x=.int i/\Q (some i) H1
section
variable {e:Expr}{te:TE}{lo hi:Option Expr}{tl th:TO}{pos p2:Pos}
theorem mD:PO X none Do:=by
 intro pins s σ H Q I h;rw[evalPart_none];exact IB ⟨none,H,I,.none,h⟩
theorem mC (h:PE X e te):PO X (some e) (GM te):=by
 intro pins s σ H Q I B;rw[evalPart_some];refine thn (h pins s σ H _ I B) fun u O ⟨x,H1,G,J,q1⟩=>?_;obtain⟨i,rfl,q⟩:=q1;obtain⟨t,rfl⟩:=J;exact⟨some i,H1,G,.int i t,q⟩
def SlR (X:Cx)(r:V->Option Int->Option Int->HV9):Prop :=
 ∀(pins:Pn9) (s:Sh9) (σ:St) (H:Hp) (x:V) (v vl vu:Value) (lo hi:Option Int) (sl:Addr) (Q:VK),Inv X pins σ H s->aZ x v->s.heap.IsSliceOf sl vl vu .none->IsPart vl lo->IsPart vu hi->r x lo hi H Q ->
  ∃T id,typeLookup (.type T) "__getitem__" = pure (some (.builtin id))/\s.TypeIs v T/\wpAny (model X.prog X.w) X.A (getItem v (.ref sl)) (EP X pins σ Q) X.xe s
abbrev tSl (r:V->Option Int->Option Int->HV9)(te:TE)(tl th:TO):TE:=fun σ H Q=>te σ H fun x H1=>tl σ H1 fun l H2=>th σ H2 fun u H3=>r x l u H3 Q
theorem jT (Y:SlR X r)(he:PE X e te)(hl:PO X lo tl)(hu:PO X hi th):PE X (.Subscript e (.Slice lo hi none p2) pos) (tSl r te tl th):=by
 intro pins s σ H Q I h;refine Subscript_ (thn (he pins s σ H _ I h) fun v s1 ⟨x,H1,I1,r1,q1⟩=>?_);refine wpAny_Slice (thn (hl pins s1 σ H1 _ I1 q1) fun G s2 ⟨l,H2,I2,pl,q2⟩=>thn (hu pins s2 σ H2 _ I2 q2) fun J B ⟨u,O,I3,pu,q3⟩=>?_);rw[evalPart_none];refine IB ?_;have I4:Inv X pins σ O {B with heap:=B.heap.push {cls:=.type "slice",data:=.fields #[G,J,.none]} }:=I3.kept (t':=B.toks) fun b ob q=>Ir _ q
 obtain⟨T,id,hT,ht,hg⟩:=Y pins {B with heap:=B.heap.push {cls:=.type "slice",data:=.fields #[G,J,.none]} } σ O x v G J l u B.heap.objs.size Q I4 r1 (Heap.IsSliceOf.new ..) pl pu q3
 show wpAny (model X.prog X.w) X.A (subscriptTail e (.Slice lo hi none p2) v (.ref B.heap.objs.size)) (EP X pins σ Q) X.xe {B with heap:=B.heap.push {cls:=.type "slice",data:=.fields #[G,J,.none]} }
 exact tail_any (ops:=[.ref B.heap.objs.size,v]) ht hT hg (by with_unfolding_all rfl)
def wE (xs:List V)(lo hi:Option Int):List V:=(xs.drop (HT.sIx xs.length 0 lo)).take (HT.sIx xs.length xs.length hi-HT.sIx xs.length 0 lo)
theorem wD (xs:List V)(lo hi:Option Int):(wE xs lo hi).length<=xs.length:=by
 unfold wE;rw[Jl,JX]
 lia
end
def ixN (n:Nat)(i:Int):Option Nat:=if 0<=i then (if i<n then some i.toNat else none) else if -(n:Int)<=i then some (i+n).toNat else none
def atI {α:Type}(xs:List α)(i:Int):Option α:=(ixN xs.length i).bind fun j=>xs[j]?
theorem En (h:ixN n i=some j):seqIndex? i n=some j/\j<n/\-(n:Int)<=i/\i<n:=by
 unfold ixN at h;by_cases h0:0<=i
 ·rw[if_pos h0]at h;by_cases h1:i<n
  ·rw[if_pos h1]at h;have e:i.toNat=j:=Option.some.inj h;exact⟨by rw[seqIndex_of h0 h1,e],by lia,by lia,h1⟩
  ·rw[if_neg h1]at h;cases h
 ·rw[if_neg h0]at h;by_cases h1:-(n:Int)<=i
  ·rw[if_pos h1]at h;have e:(i+n).toNat=j:=Option.some.inj h;exact⟨by rw[seqIndex_neg (by lia) h1,e],by lia,h1,by lia⟩
  ·rw[if_neg h1]at h;cases h
theorem va (h:atI xs i=some v):∃j,seqIndex? i xs.length=some j/\xs[j]? = some v/\j<xs.length/\-(xs.length:Int)<=i/\i<xs.length:=by
 unfold atI at h;cases e:ixN xs.length i with
 |none=>rw[e]at h;cases h
 |some j=>
  rw[e]at h;obtain⟨h1,h2,B,G⟩:=En e;exact⟨j,h1,h,h2,B,G⟩
theorem bG {α:Type}{xs:List α}{j:Nat}{v:α}(h:xs[j]? = some v):atI xs (j:Int)=some v:=by
 have hj:j<xs.length:=(Ix.mp h).1;have e:ixN xs.length (j:Int)=some j:=by
  unfold ixN;rw[if_pos (by simp),if_pos (by lia)];simp
 unfold atI;rw[e];exact h
theorem C7 (xs:List α)(v:α):atI (xs++[v]) (-1)=some v:=by
 have B:(xs++[v]).length=xs.length+1:=by simp
 have e:ixN (xs++[v]).length (-1)=some xs.length:=by
  unfold ixN;rw[B,if_neg (by decide),if_pos (by lia)]
  congr 1
  lia
 unfold atI;rw[e];show (xs++[v])[xs.length]? = some v;simp
def EN (b:Expr):Prop:=∀o i,subscripted b false o i=operate [o,i] (getItem o i)
def IxR (X:Cx)(r:R2):Prop :=
 ∀(value slice:Expr) (pins:Pn9) (s:Sh9) (σ:St) (H:Hp) (x y:V) (v u:Value) (Q:VK),Inv X pins σ H s->aZ x v->aZ y u->r x y H Q ->
  subscripted slice false v u=operate [v,u] (getItem v u)->wpAny (model X.prog X.w) X.A (subscriptTail value slice v u) (EP X pins σ Q) X.xe s
def MtR (X:Cx)(id:String)(r:V->List V->HV9):Prop :=
 ∀(pins:Pn9) (s:Sh9) (σ:St) (H:Hp) (x:V) (xs:List V) (v:Value) (us:LV9) (Q:VK),Inv X pins σ H s->aZ x v->aV xs us->r x xs H Q ->
  wpAny (model X.prog X.w) X.A (call (.builtin id) (v::us)) (EP X pins σ Q) X.xe s
section
variable {a b:Expr}{ta tb:TE}{pos:Pos}
theorem aD {r:R2}(B:IxR X r)(G:PE X a ta)(J:PE X b tb)(O:EN b:=by exact fun _ _=>rfl):PE X (.Subscript a b pos) (tOp r ta tb):=by
 intro pins s σ H Q I h;exact Subscript_ (Gy G J I h fun v u Y x y H2 I2 rx ry q=>B a b pins Y σ H2 x y v u Q I2 rx ry q (O _ _))
inductive Ff (K:Frag)(x:V)(y:V)(H:Hp)(Q:VK):Prop
 |mk (p xs i v:_) (h_0:x=.ref p) (h_1:y=.int i) (h_2:SqL K H p xs) (h_3:atI xs i=some v) (h_4:Q v H):Ff K x y H Q
def G2 (K:Frag):R2:=fun x y H Q=>Ff K x y H Q
inductive Fe (K:Frag)(x:V)(y:V)(H:Hp)(Q:VK):Prop
 |mk (p xs i v:_) (h_0:x=.ref p) (h_1:y=.int i) (h_2:SqT K H p xs) (h_3:atI xs i=some v) (h_4:Q v H):Fe K x y H Q
def G0 (K:Frag):R2:=fun x y H Q=>Fe K x y H Q
def HR:R2:=fun x y H Q=>∃z i c,x=.str z/\y=.int i/\z.length<=sizeLine/\atI z.cps.toList i=some c/\Q (.str ⟨#[c]⟩) H
theorem bh:IxR X (G2 X.K):=by
 intro value B pins s σ H x y v u Q I Y ry h J;obtain⟨p,xs,i,z,rfl,rfl,hq,he,q⟩:=h;cases Y;obtain⟨t,rfl⟩:=ry;obtain⟨its,r,pl,hz⟩:=I.list hq;obtain⟨j,h1,h2,h3,h4,h5⟩:=va he;obtain⟨w,O,G⟩:=r.get h2;have hl:=r.length;have hn:=uu;have fin:EP X pins σ Q w s:=⟨z,H,I,G,q⟩;by_cases h0:0<=i
 ·have hj:i.toNat=j:=by
   rw[seqIndex_of h0 h5]at h1;exact Option.some.inj h1
  exact item_listR pl.isList h0 (by lia) (by rw[hj];simpa using O) fin J
 ·have hj:(i+(its.toArray.size:Int)).toNat=j:=by
   rw[seqIndex_neg (by lia) h4]at h1;rw[IV,<-hl];exact Option.some.inj h1
  exact subscriptTail_builtinR (x:=w) pl.isList.typeIs slot_list_getitem.lookup
   (wpAny_getItem_list_neg (Q:=fun r s'=>r=w/\EP X pins σ Q r s') pl.isList (by lia) (by rw[IV]<;>lia) (by lia) (by rw[hj];simpa using O) ⟨rfl,fin⟩) J
theorem aI:IxR X (G0 X.K):=by
 intro value B pins s σ H x y v u Q I J O h Y;obtain⟨p,xs,i,z,rfl,rfl,hq,he,q⟩:=h;cases J;obtain⟨t,rfl⟩:=O;obtain⟨its,r,pl,hz⟩:=I.tuple hq;obtain⟨j,h1,h2,h3,h4,h5⟩:=va he;obtain⟨w,ew,G⟩:=r.get h2;have hl:=r.length;have hn:=uu;have fin:EP X pins σ Q w s:=⟨z,H,I,G,q⟩;exact subscriptTail_builtinR (x:=w) pl.typeIs slot_tuple_getitem.lookup
  (getItem_tuple (j:=j) (Q:=fun r s'=>r=w/\EP X pins σ Q r s') pl (by lia) (by lia) (by rw[IV,<-hl];exact h1) (by simpa using ew) ⟨rfl,fin⟩) Y
theorem qL:IxR X HR:=by
 intro value B pins s σ H x y v u Q I G J h O;obtain⟨z,i,c,rfl,rfl,hz,Y,q⟩:=h;obtain⟨t,rfl⟩:=G;obtain⟨t',rfl⟩:=J;obtain⟨j,h1,h2,h3,h4,h5⟩:=va Y;have hl:z.cps.toList.length=z.length:=by simp[Str.length]
 rw[hl]at h1 h4 h5;have hn:=uu;exact tail_any (typeIs_str s z t) slot_str_getitem.lookup (getItem_str (c:=c) (by
  have e1:decide (i < -(2^63:Int))=false:=Jh (by lia);have e2:decide (i≥2^63)=false:=Jh (by lia);rw[e1,e2,Bool.or_false]) (by rw[h1];simpa using h2) ⟨.str ⟨#[c]⟩,H,I.tok _,⟨_,rfl⟩,q⟩) O
theorem tI (lo hi:Option Int)(n:Nat):(sliceBounds lo hi none n).1=((HT.sIx n 0 lo:Nat):Int)/\(sliceBounds lo hi none n).2.1=((HT.sIx n n hi:Nat):Int)/\(sliceBounds lo hi none n).2.2=1:=by
 refine⟨?_,?_,rfl⟩
 ·cases lo with
  |none=>simp[sliceBounds,HT.sIx]
  |some i=>
   simp only[sliceBounds,HT.sIx,Option.getD_none,show (1:Int)>0 by decide,if_true];by_cases h:i<0
   ·simp only[h,if_true]<;>lia
   ·simp only[h,if_false]<;>lia
 ·cases hi with
  |none=>simp[sliceBounds,HT.sIx]
  |some i=>
   simp only[sliceBounds,HT.sIx,Option.getD_none,show (1:Int)>0 by decide,if_true];by_cases h:i<0
   ·simp only[h,if_true]<;>lia
   ·simp only[h,if_false]<;>lia
theorem rF (its:LV9)(lo hi:Option Int):slicePick its.toArray lo hi none=((its.drop (HT.sIx its.length 0 lo)).take (HT.sIx its.length its.length hi-HT.sIx its.length 0 lo)).toArray:=by
 obtain⟨h1,h2,B⟩:=tI lo hi its.toArray.size;unfold slicePick;rw[h1,h2,B];simp only[sliceRange_one,pick_run,IV]<;>rfl
def HP (K:Frag):V->Option Int->Option Int->HV9:=fun x lo hi H Q=>∃a xs,x=.ref a/\SqL K H a xs/\Nw H (.lst (wE xs lo hi)) fun p H=>Q (.ref p) H
theorem yw:SlR X (HP X.K):=by
 intro pins s σ H x v vl vu lo hi sl Q I J O pl Y h;obtain⟨a,xs,rfl,hx,q⟩:=h;cases J;obtain⟨its,r,G,hz⟩:=I.list hx;have B:=r.length;refine⟨"list",_,slot_list_getitem.lookup,G.isList.typeIs,?_⟩
 refine wpAny_getItem_list_slice G.isList O pl Y .none (by simp) ?_ (by rw[IV]<;>lia);rw[rF,<-B];refine⟨.ref s.heap.objs.size,_,I.laid (t':=s.toks) (o:=.lst (wE xs lo hi)) (fun b ob q=>Ir _ q) (Iw _) ?_,rfl,q _ (I.hok.fresh (Iw _))⟩;exact⟨IU (wD xs lo hi) hz,_,0,(r.drop (HT.sIx xs.length 0 lo)).take (HT.sIx xs.length xs.length hi-HT.sIx xs.length 0 lo),IH _ rfl⟩
def jw:V->Bool
 | .non=>true
 | .bl _=>true
 | .int _=>true
 | .str _=>true
 |_=>false
def eqV:V->V->Bool
 | .non,.non=>true
 | .bl a,.bl b=>a==b
 | .bl a,.int b=>(if a then 1 else 0)==b
 | .int a,.bl b=>a==(if b then 1 else 0)
 | .int a,.int b=>a==b
 | .str a,.str b=>a==b
 |_,_=>false
theorem CF (G:aZ y u)(B:aZ x v)(O:jw y=true)(J:jw x=true):SeqAt.EqAt A s u v (eqV y x):=by
 cases y with
 |non=>
  cases G;cases x with
  |non=>cases B;exact SeqAt.EqAt.same _
  |bl b=>cases B;exact SeqAt.EqAt.none_bool b
  |int b=>obtain⟨t,rfl⟩:=B;exact SeqAt.EqAt.none_int b t
  |str b=>obtain⟨t,rfl⟩:=B;exact SeqAt.EqAt.none_str b t
  |_=>exact absurd (show false=true from J) IL
 |bl a=>
  cases G;cases x with
  |non=>cases B;exact SeqAt.EqAt.bool_none a
  |bl b=>cases B;exact SeqAt.EqAt.bool_bool a b
  |int b=>obtain⟨t,rfl⟩:=B;exact SeqAt.EqAt.bool_int a b t
  |str b=>obtain⟨t,rfl⟩:=B;exact SeqAt.EqAt.bool_str a b t
  |_=>exact absurd (show false=true from J) IL
 |int a=>
  obtain⟨t',rfl⟩:=G;cases x with
  |non=>cases B;exact SeqAt.EqAt.int_none a t'
  |bl b=>cases B;exact SeqAt.EqAt.int_bool a t' b
  |int b=>obtain⟨t,rfl⟩:=B;exact SeqAt.EqAt.int_int a t' b t
  |str b=>obtain⟨t,rfl⟩:=B;exact SeqAt.EqAt.int_str a t' b t
  |_=>exact absurd (show false=true from J) IL
 |str a=>
  obtain⟨t',rfl⟩:=G;cases x with
  |non=>cases B;exact SeqAt.EqAt.str_none a t'
  |bl b=>cases B;exact SeqAt.EqAt.str_bool a t' b
  |int b=>obtain⟨t,rfl⟩:=B;exact SeqAt.EqAt.str_int a t' b t
  |str b=>obtain⟨t,rfl⟩:=B;exact SeqAt.EqAt.str_str a t' b t
  |_=>exact absurd (show false=true from J) IL
 |_=>exact absurd (show false=true from O) IL
def eqU (x:V)(u:Value):Bool:=match u with
 | .none=>eqV .non x
 | .bool b=>eqV (.bl b) x
 | .int i _=>eqV (.int i) x
 | .str z _=>eqV (.str z) x
 |_=>false
theorem CD (r:aZ y u)(f:jw y=true):eqU x u=eqV y x:=by
 cases y with
 |non=>cases r;rfl
 |bl b=>cases r;rfl
 |int i=>obtain⟨t,rfl⟩:=r;rfl
 |str z=>obtain⟨t,rfl⟩:=r;rfl
 |_=>exact absurd (show false=true from f) IL
theorem vd:∀{xs:List V} {us:LV9},aV xs us->xs.all jw=true->us.any (eqU x)=xs.any fun y=>eqV y x
 |_,_,.nil,_=>rfl
 |y::xs,u::us,.cons r t,f=>by
  rw[Lm,JC]at f;rw[Ll,Ll,CD r f.1,vd t f.2]
theorem qE (G:aZ x v)(J:jw x=true):∀{xs:List V} {us:LV9},aV xs us->xs.all jw=true->∀u∈us,SeqAt.EqAt A s u v (eqU x u)
 |_,_,.nil,_=>fun u B=>by cases B
 |y::xs,u::us,.cons r t,f=>fun O B=>by
  rw[Lm,JC]at f;rcases IP.mp B with rfl | B
  ·rw[CD r f.1];exact CF r G f.1 J
  ·exact qE G J t f.2 O B
def inV (x:V)(xs:List V):Bool:=xs.any fun y=>eqV y x
def rIn (K:Frag)(neg:Bool):R2:=fun x y H Q=>∃p xs,y=.ref p/\(SqL K H p xs\/SqT K H p xs)/\jw x=true/\xs.all jw=true/\Q (.bl (if neg then !inV x xs else inV x xs)) H
theorem Ac:OpR X (compareOp .In) (rIn X.K false):=by
 intro pins s σ H x y v u Q I J Y h;obtain⟨p,xs,rfl,B,O,fs,q⟩:=h;cases Y;rcases B with B | B
 ·obtain⟨its,r,pl,hz⟩:=I.list B;refine SeqAt.in_listAt (eqU x) pl.isList (fun w G=>qE J O r fs w (by simpa using G)) ⟨.bl _,H,I,rfl,?_⟩;rw[show its.toArray.any (eqU x)=its.any (eqU x) by simp,vd r fs];exact q
 ·obtain⟨its,r,pl,hz⟩:=I.tuple B;refine SeqAt.in_tupleAt (eqU x) pl (fun w G=>qE J O r fs w (by simpa using G)) ⟨.bl _,H,I,rfl,?_⟩;rw[show its.toArray.any (eqU x)=its.any (eqU x) by simp,vd r fs];exact q
def tyV (K:Frag)(T:String)(x:V)(H:Hp):Prop:=match x with
 | .str _=>T = "str"
 | .int _=>T = "int"
 | .ref p=>(T = "list" /\ ∃xs,SqL K H p xs)\/(T = "tuple" /\ ∃o,K.lookup p=some o/\o.cls=.type "tuple" /\ o.dict=none) \/
   (T = "dict" /\ ((∃kvs,H p=some (.dK kvs))\/∃kvs,H p=some (.dT kvs)))\/(T = "set" /\ ∃S n,H p=some (.set S n))
 |_=>False
theorem Fk (I:Inv X pins σ H s)(r:aZ x v)(ty:tyV X.K T x H):
  s.TypeIs v T/\∀a,v=.ref a->∃ob,s.heap.get? a=some ob/\ob.dict=none:=by
 cases x with
 |str z=>
  obtain⟨t,rfl⟩:=r;cases (show T = "str" from ty)
  exact⟨typeIs_str s z t,fun _ e=>nomatch e⟩
 |int i=>
  obtain⟨t,rfl⟩:=r;cases (show T = "int" from ty)
  exact⟨typeIs_int s i t,fun _ e=>nomatch e⟩
 |ref p=>
  cases r;rcases ty with⟨rfl,xs,O⟩ | ⟨rfl,o,B,Y,G⟩ | ⟨rfl,B⟩ | ⟨rfl,S,n,B⟩
  ·obtain⟨its,_,pl,_⟩:=I.list O;refine⟨pl.isList.typeIs,fun a e=>?_⟩;cases e;obtain⟨o,n,e,c,G,_⟩:=pl;exact⟨o,e,G⟩
  ·refine⟨⟨o,I.kIn p o B,Y⟩,fun a e=>?_⟩;cases e;exact⟨o,I.kIn _ o B,G⟩
  ·have z:∃o,s.heap.get? p=some o/\o.ExactDict:=by
    rcases B with⟨kvs,B⟩|⟨kvs,B⟩
    ·obtain⟨_,_,_,_,o,_,_,e,ex,_⟩:=I.hok p _ B;exact⟨o,e,ex⟩
    ·obtain⟨_,_,_,_,o,_,_,e,ex,_⟩:=I.hok p _ B;exact⟨o,e,ex⟩
   obtain⟨o,e,ex⟩:=z;refine⟨⟨o,e,ex.1⟩,fun a J=>?_⟩;cases J;exact⟨o,e,ex.2.1⟩
  ·obtain⟨o,_,_,_,e,ex,_⟩:=I.hok p _ B;refine⟨⟨o,e,ex.1⟩,fun a J=>?_⟩;cases J;exact⟨o,e,ex.2.1⟩
 |_=>exact False.elim ty
abbrev tBM (K:Frag)(T:String)(r:V->List V->HV9)(to:TE)(t:TA):TE:=fun σ H Q=>to σ H fun x H1=>tyV K T x H1/\t σ H1 fun xs H2=>r x xs H2 Q
variable {o e:Expr}{es:List Expr}{to:TE}{t:TA}{name:Str}{apos cpos:Pos}{T id:String}{r:V->List V->HV9}
theorem vT (pa:PlainAttrs T)(O:Slot T name id)(a0:typeOf (.builtin id)=pure (.type "method_descriptor"))(hm:MtR X id r)(ho:PE X o to)(ha:PA X (e::es) t)
  (G:attributeBase o name X.env (eval o X.env)=eval o X.env:=by rfl)
  (Y:((backTo cpos (starEach (e::es) X.env)).all (fun x=> !x.1)&&(backToKw cpos (keywordEach [] X.env)).all (fun x=>x.1.isSome)
   && decide ((e::es).length+([]:List Keyword).length+(if ([]:List Keyword).isEmpty then 0 else 1)<30))=true:=by rfl)
  (J:(apos.endLine==cpos.line)=true:=by rfl) (hs:starEach (e::es) X.env=(false,eval e X.env)::starEach es X.env:=by rfl) (B:(backTo cpos (starEach es X.env)).any (·.1)=false:=by rfl) :
  PE X (.Call (.Attribute o name apos) (e::es) [] cpos) (tBM X.K T r to t):=by
 intro pins s σ H Q I h;refine wpAny_Call_method_late G Y J rfl (thn (ho pins s σ H _ I h) fun v s1 ⟨x,H1,I1,r1,ty,q1⟩=>?_);obtain⟨h1,h2⟩:=Fk I1 r1 ty;refine⟨T,id,pa,O,a0,h1,h2,?_⟩;have hA:=ha cpos pins s1 σ H1 _ I1 q1;rw[hs]at hA ⊢;refine Calls.callWith_builtin (by show (false||(backTo cpos (starEach es X.env)).any (·.1))=false;rw[B]<;>rfl) (Calls.evalArgs_plain ?_);exact thn hA fun us s2 ⟨vs,H2,I2,r2,q2⟩=>hm pins s2 σ H2 x vs v us Q I2 r1 r2 q2
end
def MtM (X:Cx)(id:String)(r:V->List V->HV9):Prop :=
 ∀(pins:Pn9) (s:Sh9) (σ:St) (H:Hp) (x:V) (xs:List V) (v:Value) (us:LV9) (Q:VK),Inv X pins σ H s->aZ x v->aV xs us->r x xs H Q ->
  wpAny (model X.prog X.w) X.A (call (.builtin id) (v::us)) (EP X pins σ Q) X.xe s
theorem aV.one:∀{x:V} {us:LV9},aV [x] us->∃u,us=[u]/\aZ x u
 |_,_,.cons r .nil=>⟨_,rfl,r⟩
theorem aV.rep (h:aV xs us):∀k:Nat,aV (List.replicate k xs).flatten (List.replicate k us).flatten
 |0=>.nil
 |k+1=>by
  rw[Kz,Kz,KO,KO];exact aV.append h (aV.rep h k)
theorem sL (its:LV9):∀(k:Nat) (acc:LV9),
  List.foldl (fun B G=>B++G) acc.toArray (List.replicate k its.toArray)=(acc++(List.replicate k its).flatten).toArray
 |0,acc=>by simp
 |k+1,acc=>by
  have e:acc.toArray++its.toArray=(acc++its).toArray:=by simp
  have J:(acc++its)++(List.replicate k its).flatten=acc++(List.replicate (k+1) its).flatten:=by
   rw[Kz,KO,Jv]
  rw[<-J,<-sL its k (acc++its),<-e,Kz,Kf]
section
variable {pins:Pn9}{σ:St}{H:Hp}{s:Sh9}{l b:Addr}{xs ys zs:List V}
theorem Inv.lset {its its':LV9}{n:Nat}{f:Array Value->Array Value}{t':Nat}(I:Inv X pins σ H s)(B:H l=some (.lst xs))
  (e:s.heap.get? l=some {cls:=.type "list",data:=.seq its.toArray n}) (G:f its.toArray=its'.toArray) (J:aV ys its') (hz:ys.length<=sizeLine) :
  Inv X pins σ (upd H l (.lst ys)) {s with heap:=s.heap.update l (Obj.mapSeq f),toks:=t' }:=by
 have q:=PySem.IsL.update e f;rw[G]at q;refine I.write (x:=l) (e:=l) (by rw[B];exact trivial) (.inl rfl) (fun b' u O Y=>(Jk s.heap (Obj.mapSeq f) (Ne.symm O)).trans Y) ⟨_,q⟩ ?_;exact⟨hz,its',_,J,q⟩
theorem Inv.lnew (I:Inv X pins σ H s)(B:aV ys its)(hz:ys.length<=sizeLine):
  Inv X pins σ (upd H s.heap.objs.size (.lst ys)) {s with heap:=s.heap.push {cls:=.type "list",data:=.seq its.toArray},toks:=t' } :=
 I.laid (fun _ _ q=>Ir _ q) (Iw _) ⟨hz,its,0,B,IH _ rfl⟩
theorem Inv.fresh (I:Inv X pins σ H s):H s.heap.objs.size=none:=I.hok.fresh (Iw _)
theorem Inv.lstM (I:Inv X pins σ H s)(B:H l=some (.lst xs)):xs.length<=sizeLine/\∃(its:LV9) (n:Nat),aV xs its/\xs.length=its.length/\s.heap.get? l=some {cls:=.type "list",data:=.seq its.toArray n}:=by
 obtain⟨z,its,n,r,e⟩:=I.hok l _ B;exact⟨z,its,n,r,r.length,e⟩
theorem wj (h:n<=sizeLine):Builtin.List.listTooLong n=false:=by
 unfold Builtin.List.listTooLong;exact Jh (by lia)
end
section
inductive wO  (x:V)(vs:List V)(H:Hp)(Q:VK):Prop
 |mk (l xs y:_) (h_0:x=.ref l) (h_1:vs=[y]) (h_2:H l=some (.lst xs)) (h_3:xs.length<sizeLine) (h_4:Q .non (upd H l (.lst (xs++[y])))):wO x vs H Q
def yE:V->List V->HV9:=fun x vs H Q=>wO x vs H Q
theorem sF:MtM X "list.append" yE:=by
 intro pins s σ H x vs v Y Q I G J h;obtain⟨l,xs,y,rfl,rfl,B,hz,q⟩:=h;cases G;obtain⟨u,rfl,O⟩:=J.one;obtain⟨z,its,n,r,hl,e⟩:=I.lstM B;refine call_meets F.slot_list_append ⟨_,e,rfl⟩ F.entry_list_append (F.args_list_append_2 _ _) (PySem.list_append l its.toArray n u (by rw[IV];lia)) ⟨e,?_⟩;refine⟨.non,_,I.lset (its':=its++[u]) B e (by simp) (r.append (.cons O .nil)) ?_,rfl,q⟩;rw[Iy,Jq]
 assumption
def DF:V->List V->HV9:=fun x vs H Q=>∃l b xs zs,x=.ref l/\vs=[.ref b]/\H l=some (.lst xs)/\H b=some (.lst zs)/\xs.length+zs.length<=sizeLine/\Q .non (upd H l (.lst (xs++zs)))
theorem nM:MtM X "list.extend" DF:=by
 intro pins s σ H x vs v us Q I O Y h;obtain⟨l,b,xs,zs,rfl,rfl,J,hB,hz,q⟩:=h;cases O;obtain⟨u,rfl,ru⟩:=Y.one;cases ru;obtain⟨z,its,n,r,hl,e⟩:=I.lstM J;obtain⟨z2,B,n2,r2,a0,e2⟩:=I.lstM hB;have hsz:its.toArray.size+B.toArray.size<=sizeLine:=by rw[IV,IV];lia
 have G:¬ (!its.toArray.isEmpty&&Builtin.List.listTooLong (its.toArray.size+B.toArray.size))=true:=by
  rw[wj hsz,Bool.and_false];exact IL
 refine call_meets F.slot_list_extend ⟨_,e,rfl⟩ F.entry_list_extend (F.args_list_extend_2 _ _)
  (AutoSeq1.list_extend_list_list_0 l its.toArray n b B.toArray n2 G (by rw[IV];lia) (by lia)) ⟨e,e2,?_⟩
 refine⟨.non,_,I.lset (its':=its++B) J e (by simp) (r.append r2) ?_,rfl,q⟩;rw[Iy];omega
def HU:R2:=fun x y H Q=>∃l b xs zs,x=.ref l/\y=.ref b/\H l=some (.lst xs)/\H b=some (.lst zs)/\xs.length+zs.length<=sizeLine/\Nw H (.lst (xs++zs)) fun p H=>Q (.ref p) H
theorem FS:OpR X (binaryOp .Add) HU:=by
 intro pins s σ H x y v u Q I G J h;obtain⟨l,b,xs,zs,rfl,rfl,O,Y,hz,q⟩:=h;cases G;cases J;obtain⟨z,its,n,r,hl,e⟩:=I.lstM O;obtain⟨z2,B,n2,r2,a0,e2⟩:=I.lstM Y;refine PySem.P.add_list e e2 ?_ (by rw[IV,IV];lia);have ea:its.toArray++B.toArray=(its++B).toArray:=by simp
 rw[ea];exact⟨.ref _,_,I.lnew (t':=s.toks) (r.append r2) (by rw[Iy];omega),rfl,q _ I.fresh⟩
def HQ:R2:=fun x y H Q=>∃l k xs,x=.ref l/\y=.int k/\H l=some (.lst xs)/\-(2^63)<=k/\k<2^63/\xs.length*k.toNat<=sizeLine /\
 Nw H (.lst (List.replicate k.toNat xs).flatten) fun p H=>Q (.ref p) H
theorem Eh (xs:List α)(k:Nat):(List.replicate k xs).flatten.length=k*xs.length:=by
 induction k with
 |zero=>simp
 |succ k ih=>rw[Kz,KO,Iy,ih,Nat.succ_mul,Lf]
theorem FM:OpR X (binaryOp .Mult) HQ:=by
 intro pins s σ H x y v u Q I rx ry h;obtain⟨l,k,xs,rfl,rfl,hH,h1,h2,hz,q⟩:=h;cases rx;obtain⟨t,rfl⟩:=ry;obtain⟨z,its,n,r,hl,e⟩:=I.lstM hH;have G:its.toArray.size*k.toNat<=sizeLine:=by rw[IV,<-hl];exact hz
 have J:¬ its.toArray.size*k.toNat>(2^63-1)/8:=by
  have:(sizeLine:Nat)<=(2^63-1)/8:=by decide
  lia
 have O:¬ (!Builtin.List.listFitsIndex k)=true:=by
  rw[fitsIndex_both h1 h2];exact IL
 have B:¬ Builtin.List.listTooLong (its.toArray.size*k.toNat)=true:=by
  rw[wj G];exact IL
 have Y:List.foldl (fun x1 x2=>x1++x2) #[] (List.replicate (if its.toArray.isEmpty=true then 0 else k.toNat) its.toArray)=(List.replicate k.toNat its).flatten.toArray:=by
  have f0:∀m:Nat,List.foldl (fun x1 x2=>x1++x2) #[] (List.replicate m its.toArray)=(List.replicate m its).flatten.toArray:=fun m=>by
   have:=sL its m []
   rw[JL]at this;exact this
  rw[f0];cases its with
  |nil=>simp
  |cons a r'=>rw[if_neg (by simp)]
 refine wpAny_binaryOp_repeat_ref (T := "list") (U := "int") (by decide) ⟨_,e,rfl⟩ (fun s'=>typeIs_int s' k t) noFill_list_mul F.fills_int_mul F.slot_int_rmul repeat_list F.slot_int_index.lookup
  (call_meets F.slot_int_rmul (typeIs_int s k t) F.entry_int_rmul (F.args_int_rmul_2 _ _) (int___rmul___int_list k t l its.toArray n)
   ⟨e,rfl,⟨_,e,rfl⟩,call_meets F.slot_list_mul ⟨_,e,rfl⟩ F.entry_list_mul (F.args_list_mul_2 _ _) (AutoListH.list___mul___list_int_3 l its.toArray n k t O J B) ⟨e,?_⟩⟩)
 rw[Y];exact⟨.ref _,_,I.lnew (t':=s.toks) (r.rep k.toNat) (by rw[Eh,KH];exact hz),rfl,q _ I.fresh⟩
end
section
variable {prog:Pg9}{w:Wd9}{A:Around}{E:EV9}{s:Sh9}
set_option maxRecDepth 100000 in
end
end L2
namespace Att
open PySem PySem.W PySem.Calls PyProof.Rows
theorem oQ:∀(B:List Int) (vs:List Value),WellAll P h vs (B.map WData.int)->IntsAre vs B:=by
 intro B
 induction B with
 |nil=>
  intro vs w;rw[Lh]at w;cases w;exact .nil
 |cons n B ih=>
  intro vs w;rw[IR]at w;cases w with
  |cons a b=>
   cases a;exact .cons _ _ (ih _ b)
theorem zL {l:OpenLaw}{n:Nat}(hn:l.most=some n){P:Params}{h:Heap}{args:List WData}{G:List Value}
  (J:l.row.toRowW.claim.pre args=true) (a0:WellAll P h G args) :
  ∃a vs B,G=[Value.ref a]/\args=[WData.list (B.map WData.int)]/\h.get? a=some {cls:=.type "list",data:=.seq vs.toArray}/\IntsAre vs B/\B.length<=n:=by
 have a1:WShape.hasAll [] args [.list .int]=true:=(pre_splitW J).1;have hc:l.pre.holds [] {args:=args}=true:=(pre_splitW J).2;obtain⟨d,r,rfl,h1,h2⟩:=hasAllW_cons a1;obtain rfl:=hasAllW_nil h2;obtain⟨xs,rfl,h3⟩:=hasW_list h1;obtain⟨B,rfl⟩:=items_int h3;have O:B.length<=n:=by
  unfold OpenLaw.pre at hc;have Y:(WTm.not (.lt (.lit (.int (n:Int))) (.len (.arg 0)))).holds [] {args:=[.list (B.map .int)]}=true:=by
   have Y:=(holds_andW hc).1;rw[hn]at Y;exact Y
  have h5:=condW_of Y (w_not (w_lt w_lit (w_len_list (w_arg rfl))));rw[Iq]at h5;refine Kq fun q=>?_;have q':(n:Int)<((B.length:Nat):Int):=by omega
  first
   | (rw[IC q']at h5;exact absurd h5 (by decide))
   | (simp at h5;lia)
 cases a0 with
 |cons w1 w2=>
  cases w2;cases w1 with
  |list ho hall=>exact⟨_,_,B,rfl,rfl,ho,oQ B _ hall,O⟩
theorem zS (l:OpenLaw)(args:List WData):l.row.toRowW.claim.post args (.bool true) args=true :=
 postW_of (r:=l.row.toRowW) (X:=(true==true))
  (show WShape.has [] (.bool true) .bool=true by first | rfl | decide | simp[WShape.has,WShape.arms,WShape.armsAll])
  (show (WTm.eq .res (.lit (.bool true))).value [] {args:=args,res:=some (.bool true),after:=args}=some (.bool (true==true)) from w_eq_bool (w_res rfl) w_lit) rfl
theorem wN {l:OpenLaw}{n:Nat}{q:Program}{B:List Str}{XP:(Str->Option Value)->Heap->Prop}{YP:World->Heap->Prop}{d:DefRec}
  (hn:l.most=some n) (a3:d.params.defaults=[])
  (call:∀(w:World) (s₀ J:Shared) (mg mb:Str->Option Value) (fa:Addr) (o:Obj) (pm cd doc:Value) (a:Addr) (vs:List Value) (ns:List Int),
   Ground q B [] XP w s₀ mg mb J.heap->YP w J.heap ->
   J.heap.get? fa=some o->o.data=.func (docDef d.name d.params d.body d.scope pm cd doc)->J.heap.CodeRec cd d.name->mg d.name=some (.ref fa) ->
   J.heap.get? a=some {cls:=.type "list",data:=.seq vs.toArray}->IntsAre vs ns->ns.length<=n->J.gens = #[] ->
   codeAny (model l.prog w) callerA (.call (.ref fa) ⟨[.ref a],[]⟩) (fun r s'=>r=.ok (.ret (.bool true))/\OldK J.heap s'.heap/\s'.os=J.os/\AllBare s'.gens) J) :
  WalkO q B XP YP l.row.toRowW d [] (fun f vs=>PySem.call f vs):=by
 intro w s₀ J mg mb G Y fa o pm cd doc dV kV ho hd a4 hD a5 hg args a7 as a0 a8 a9 a6 b0;obtain rfl:dV=.none:=Dflts.none hD a3;obtain rfl:kV=.none:=Dflts.noKw hD;obtain⟨a,vs,ns,rfl,rfl,a1,O,a2⟩:=zL hn a0 a6;refine enter_call (codeAny_mono (call w s₀ J mg mb fa o pm cd doc a vs ns G Y ho (fd_plain hd) a4 a5 a1 O a2 hg) fun r s' hq=>?_);obtain⟨rfl,h2,h3,h4⟩:=hq;exact⟨.inl ⟨.bool true,.bool true,[],rfl,fun _=>rfl,.bool true,zS l _,fun _=>⟨List.Pairwise.nil,fun _ hm=>(nomatch hm)⟩⟩,h2,h3,h4⟩
end Att
namespace L2
open PySem PySem.Spec PyProof.Rows
variable {X:Cx}
theorem rR:∀{vs:LV9} {ns:List Int},IntsAre vs ns->aV (ns.map V.int) vs
 |_,_,.nil=>.nil
 |_,_,.cons n t h=>.cons ⟨t,rfl⟩ (rR h)
def cg (s:Stmt):Arguments:=match s with
 | .FunctionDef _ a _ _ _ _ _ _ _ _=>a
 |_=>{posonlyargs:=[],args:=[],vararg:=none,kwonlyargs:=[],kw_defaults:=[],kwarg:=none,defaults:=[]}
def bW (s:Stmt):List Stmt:=match s with
 | .FunctionDef _ _ b _ _ _ _ _ _ _=>b
 |_=>[]
def aq (s:Stmt):Scope:=match s with
 | .FunctionDef _ _ _ _ _ _ sc _ _ _=>sc
 |_=>{kind:=.function,names:=[],isGenerator:=false,isCoroutine:=false}
abbrev CX0:CXT:=fun _ _ _ _ _ _=>False
abbrev E0:XK:=fun _ _ _=>False
theorem cQ (h:n<=1000):n<sizeLine:=K0 h (by decide)
section
theorem pv (i:Nat)(G:X.N[i]? = some x:=by rfl)(J:Vis X.env.scope x:=by first | exact Or.inl rfl | exact Or.inr (Or.inl rfl) | exact Or.inr (Or.inr rfl))(O:(x==("__debug__" : Str))=false:=by decide)
  (B:(x==("__classdict__" : Str))=false:=by decide):PE X (.Name x pos) (wZ i):=FE G J O B
end
theorem dv {A B:Prop}(h:B):if false=true then A else B:=by
 rw[if_neg IL];exact h
theorem oP {A B:Prop}(h:A):if true=true then A else B:=by
 rw[if_pos rfl];exact h
theorem ci {c A B:Prop}[Decidable c](h1:c->A)(h2:¬ c->B):if c then A else B:=by
 by_cases h:c
 ·rw[if_pos h];exact h1 h
 ·rw[if_neg h];exact h2 h
theorem wt {c A B:Prop}[Decidable c](G:c)(h:B):if (!decide c)=true then A else B:=by
 rw[IC G];exact dv h
def ah (H H':Hp):Prop:=∀b o,H b=some o->H' b=some o
theorem ah.refl (H:Hp):ah H H:=fun _ _ h=>h
theorem ah.trans {H H1 H2:Hp}(a:ah H H1)(b:ah H1 H2):ah H H2:=fun c o h=>b c o (a c o h)
theorem ah.free (e:ah H H')(h:H' l=Option.none):H l=Option.none:=by
 cases q:H l with
 |none=>rfl
 |some o=>
  rw[e l o q]at h;cases h
theorem ah.seq {K:Frag}(e:ah H H')(h:SqL K H a xs):SqL K H' a xs:=by
 rcases h with (h|⟨o,h⟩)|h
 ·exact .inl (.inl (e _ _ h))
 ·exact .inl (.inr ⟨o,e _ _ h⟩)
 ·exact .inr h
section
variable {κ:Type}[DecidableEq κ]
def bo (kvs:List (κ×V))(k:κ):OW9:=(kvs.find? fun kv=>decide (kv.1=k)).map (·.2)
def dY (kvs:List (κ×V))(k:κ)(v:V):List (κ×V) :=
 if (kvs.any fun kv=>decide (kv.1=k))=true then kvs.map (fun kv=>if kv.1=k then (kv.1,v) else kv) else kvs++[(k,v)]
theorem vm:bo ([]:List (κ×V)) k=none:=rfl
theorem b_ {p:κ×V}{r:List (κ×V)}{k:κ}(e:p.1=k):bo (p::r) k=some p.2:=by simp[bo,Kg,e]
theorem bR {p:κ×V}{r:List (κ×V)}{k:κ}(e:¬ p.1=k):bo (p::r) k=bo r k:=by simp[bo,Kg,e]
theorem gf (k:κ):∀kvs:List (κ×V),(kvs.any fun B=>decide (B.1=k))=(bo kvs k).isSome
 | []=>rfl
 |p::r=>by
  rw[Ll];by_cases e:p.1=k
  ·simp only[b_ e,IC e,Bool.true_or,Option.isSome_some]
  ·rw[bR e,Jh e,Bool.false_or];exact gf k r
theorem vn (k j:κ)(y:V):∀kvs:List (κ×V),bo (kvs.map fun B=>if B.1=k then (B.1,y) else B) j=(bo kvs j).map fun x=>if j=k then y else x
 | []=>rfl
 |p::r=>by
  have G:=vn k j y r;rw[IR];by_cases h:p.1=k
  ·rw[if_pos h];by_cases e:p.1=j
   ·rw[b_ (p:=(p.1,y)) e,b_ e,KY,if_pos (e.symm.trans h)]
   ·rw[bR (p:=(p.1,y)) e,bR e,G]
  ·rw[if_neg h];by_cases e:p.1=j
   ·rw[b_ (p:=p) e,b_ e,KY,if_neg (fun z=>h (e.trans z))]
   ·rw[bR (p:=p) e,bR e,G]
theorem rS (k j:κ)(y:V):∀kvs:List (κ×V),bo kvs k=none->bo (kvs++[(k,y)]) j=if j=k then some y else bo kvs j
 | [],_=>by
  by_cases e:k=j
  ·rw[if_pos e.symm];exact b_ (p:=(k,y)) e
  ·rw[if_neg (fun z=>e z.symm)];exact bR (p:=(k,y)) e
 |p::r,hn=>by
  rw[List.cons_append];have B:¬ p.1=k:=fun z=>by rw[b_ z]at hn;cases hn
  rw[bR B]at hn;have G:=rS k j y r hn;by_cases e:p.1=j
  ·rw[b_ e,b_ e,if_neg (fun z=>B (e.trans z))]
  ·rw[bR e,bR e,G]
theorem pN (kvs:List (κ×V))(k j:κ)(y:V):bo (dY kvs k y) j=if j=k then some y else bo kvs j:=by
 unfold dY;by_cases a:(kvs.any fun B=>decide (B.1=k))=true
 ·rw[if_pos a,vn];rw[gf]at a;by_cases e:j=k
  ·obtain⟨x,G⟩:=I8.mp a;rw[if_pos e,e,G,KY,if_pos rfl]
  ·rw[if_neg e];cases bo kvs j with
   |none=>rfl
   |some x=>rw[KY,if_neg e]
 ·rw[if_neg a];refine rS k j y kvs ?_;rw[gf]at a;cases q:bo kvs k with
  |none=>rfl
  |some x=>rw[q]at a;exact (a rfl).elim
theorem fA (kvs:List (κ×V))(k:κ)(v:V):(dY kvs k v).length<=kvs.length+1:=by
 unfold dY
 split
 ·rw[Iq];simp
 ·rw[Iy,Jb,L5];simp
theorem my {kvs:List (κ×V)}{k:κ}(v:V)(h:bo kvs k=none):dY kvs k v=kvs++[(k,v)]:=by
 unfold dY;rw[gf,h];exact if_neg (by decide)
theorem oW.isSome_eq (r:oW o u):o.isSome=u.isSome:=by
 cases o with
 |none=>cases u with
  |none=>rfl
  |some _=>exact (show False from r).elim
 |some _=>cases u with
  |none=>exact (show False from r).elim
  |some _=>rfl
theorem KV.val {kvs:List (κ×V)}{vs:List (κ×Value)}(r:KV kvs vs)(k:κ):oW (bo kvs k) (valueAt vs k):=by
 unfold KV at r
 induction r with
 |nil=>exact True.intro
 | @cons p q ps qs h t ih=>
  obtain⟨h1,h2⟩:=h;by_cases e:p.1=k
  ·have e':q.1=k:=h1.symm.trans e;have b:valueAt (q::qs) k=some q.2:=by simp[valueAt,Kg,e']
   rw[b_ e,b];exact h2
  ·have e':¬ q.1=k:=fun z=>e (h1.trans z);have b:valueAt (q::qs) k=valueAt qs k:=by simp[valueAt,Kg,e']
   rw[bR e,b];exact ih
theorem KV.any (r:KV kvs vs)(k:κ):(kvs.any fun B=>decide (B.1=k))=vs.any fun B=>decide (B.1=k):=by
 unfold KV at r
 induction r with
 |nil=>rfl
 |cons h t ih=>rw[Ll,Ll,ih,h.1]
theorem KV.repl (r:KV kvs vs)(k:κ)(G:aZ y u):
  KV (kvs.map fun B=>if B.1=k then (B.1,y) else B) (vs.map fun B=>if B.1=k then (B.1,u) else B):=by
 unfold KV at r ⊢
 induction r with
 |nil=>exact .nil
 | @cons p q ps qs h t ih=>
  rw[IR,IR];refine .cons ?_ ih;obtain⟨h1,h2⟩:=h;by_cases e:p.1=k
  ·rw[if_pos e,if_pos (h1.symm.trans e)];exact⟨h1,G⟩
  ·rw[if_neg e,if_neg (fun z=>e (h1.trans z))];exact⟨h1,h2⟩
theorem KV.put (r:KV kvs vs)(k:κ)(B:aZ y u):KV (dY kvs k y) (stored vs k u):=by
 unfold dY stored;rw[r.any k];by_cases e:(vs.any fun G=>decide (G.1=k))=true
 ·rw[if_pos e,if_pos e];exact r.repl k B
 ·rw[if_neg e,if_neg e];exact Paired.snoc r ⟨rfl,B⟩
theorem KV.length (r:KV kvs vs):kvs.length=vs.length:=Paired.length r
end
theorem fM (r:aZ (kV k) u):(aw P w).is k u=true:=by
 cases k with
 |inl i=>obtain⟨t,e⟩:=(show ∃t,u=Value.int i t from r);subst e;exact wo P w i t
 |inr x=>obtain⟨t,e⟩:=(show ∃t,u=Value.str x t from r);subst e;exact wn P w x t
theorem sG:∀{ks:List Key} {us:LV9},aV (ks.map kV) us->ItemsAre (aw P w) ks us
 | [],_,r=>by rw[Lh]at r;cases r;exact .nil
 |k::ks,_,r=>by
  rw[IR]at r;cases r with
  |cons h t=>exact .cons (fM h) (sG t)
abbrev KT (H:Hp):List (List Key×V)->List (List Key×Addr×Value)->Prop:=Paired fun p q=>p.1=q.1/\H q.2.1=some (.tup (p.1.map kV))/\aZ p.2 q.2.2
theorem KT.val {H:Hp}{kvs:List (List Key×V)}{xs:List (List Key×Addr×Value)}(r:KT H kvs xs)(k:List Key):oW (bo kvs k) ((atKey xs k).map (·.2)):=by
 induction r with
 |nil=>exact True.intro
 | @cons p q ps qs h t ih=>
  obtain⟨h1,_,h2⟩:=h;by_cases e:p.1=k
  ·have e':q.1=k:=h1.symm.trans e;have b:atKey (q::qs) k=some q.2:=by simp[atKey,Kg,e']
   rw[b_ e,b];exact h2
  ·have e':¬ q.1=k:=fun z=>e (h1.trans z);have b:atKey (q::qs) k=atKey qs k:=by simp[atKey,Kg,e']
   rw[bR e,b];exact ih
theorem KT.repl (r:KT H kvs xs)(k:List Key)(G:aZ y u):
  KT H (kvs.map fun B=>if B.1=k then (B.1,y) else B) (xs.map (putAt k u)):=by
 induction r with
 |nil=>exact .nil
 | @cons p q ps qs h t ih=>
  rw[IR,IR];refine .cons ?_ ih;obtain⟨h1,h2,J⟩:=h;unfold putAt;by_cases e:p.1=k
  ·rw[if_pos e,if_pos (h1.symm.trans e)];exact⟨h1,h2,G⟩
  ·rw[if_neg e,if_neg (fun z=>e (h1.trans z))];exact⟨h1,h2,J⟩
theorem KT.put (r:KT H kvs xs)(k:List Key)(G:H b=some (.tup (k.map kV)))(B:aZ y u):
  KT H (dY kvs k y) (storedH xs k b u):=by
 have e:(kvs.any fun J=>decide (J.1=k))=(atKey xs k).isSome:=by
  rw[gf,(r.val k).isSome_eq,JD]
 unfold dY storedH;rw[e];by_cases q:(atKey xs k).isSome=true
 ·rw[if_pos q,if_pos q];exact r.repl k B
 ·rw[if_neg q,if_neg q];exact Paired.snoc r ⟨rfl,G,B⟩
theorem KT.keeps (r:KT H kvs xs)(B:∀b ys,H b=some (.tup ys)->H' b=some (.tup ys)):KT H' kvs xs :=
 Paired.mapP r fun _ _ z=>⟨z.1,B _ _ z.2.1,z.2.2⟩
section
variable {P:Pg9}{w:Wd9}{H:Hp}{h:Heap}{a:Addr}
theorem EX (ok:HOk P w H h)(e:Rd H a u):bv P w H h a u:=e.ok ok
theorem sP (ok:HOk P w H h)(e:Rd H a (.dK kvs)):kvs.length<=sizeLine/\(a==sysModules)=false/\∃vs,KV kvs vs/\h.DictOf (aw P w) a vs :=
 show bv P w H h a (.dK kvs) from EX ok e
theorem CI (ok:HOk P w H h)(e:H a=some (.dK kvs)):kvs.length<=sizeLine/\(a==sysModules)=false/\∃vs,KV kvs vs/\h.DictOf (aw P w) a vs:=sP ok (.inl e)
theorem ji (ok:HOk P w H h)(e:H a=some (.tup (ks.map kV))):(tupleKind (aw P w)).is h ks a:=by
 obtain⟨_,its,r,o,h1,h2,n,B⟩:=(show bv P w H h a (.tup (ks.map kV)) from ok a _ e);exact⟨o,its.toArray,n,h1,h2,B,by simpa using sG r⟩
theorem mV (ok:HOk P w H h)(e:Rd H a (.dT kvs)):kvs.length<=sizeLine/\(a==sysModules)=false /\
  ∃xs,KT H kvs xs/\h.DictOfH (tupleKind (aw P w)) a xs:=by
 obtain⟨z,y,xs,r,o,es,ep,h1,h2,G,J,O⟩:=(show bv P w H h a (.dT kvs) from EX ok e);refine⟨z,y,xs,r,o,es,ep,h1,h2,G,J,fun x B=>?_,O⟩;have all:∀{l:List (List Key×V)} {m:List (List Key×Addr×Value)},KT H l m->∀x∈m,(tupleKind (aw P w)).is h x.1 x.2.1:=by
  intro l m q
  induction q with
  |nil=>intro x B;exact nomatch B
  | @cons p q ps qs hq t ih=>
   intro x B;rcases IP.mp B with e | B
   ·subst e;exact ji ok (by rw[<-hq.1];exact hq.2.1)
   ·exact ih x B
 exact all r x B
theorem CG (ok:HOk P w H h)(e:H a=some (.dT kvs)):kvs.length<=sizeLine/\(a==sysModules)=false /\
  ∃xs,KT H kvs xs/\h.DictOfH (tupleKind (aw P w)) a xs:=mV ok (.inl e)
end
def dC (H:Hp)(a:Addr)(y:V)(r:OW9):Prop :=
 (∃kvs k,Rd H a (.dK kvs)/\y=kV k/\r=bo kvs k)\/∃kvs k b,Rd H a (.dT kvs)/\y=.ref b/\H b=some (.tup (k.map kV))/\r=bo kvs k
def lV (H:Hp)(a:Addr)(y v:V)(H':Hp):Prop :=
 (∃kvs k,H a=some (.dK kvs)/\y=kV k/\kvs.length<sizeLine/\H'=upd H a (.dK (dY kvs k v))) \/
 ∃kvs k b,H a=some (.dT kvs)/\y=.ref b/\H b=some (.tup (k.map kV))/\kvs.length<sizeLine/\H'=upd H a (.dT (dY kvs k v))
theorem dC.k {H:Hp}{a:Addr}{kvs:LK9}{k:Key}(e:H a=some (.dK kvs)):dC H a (kV k) (bo kvs k):=.inl ⟨kvs,k,.inl e,rfl,rfl⟩
theorem dC.t {H:Hp}{a b:Addr}{kvs:List (List Key×V)}{k:List Key}(e:H a=some (.dT kvs))(B:H b=some (.tup (k.map kV))):dC H a (.ref b) (bo kvs k):=.inr ⟨kvs,k,b,.inl e,rfl,B,rfl⟩
theorem lV.k {H:Hp}{a:Addr}{kvs:LK9}{k:Key}{v:V}(e:H a=some (.dK kvs))(B:kvs.length<sizeLine):lV H a (kV k) v (upd H a (.dK (dY kvs k v))):=.inl ⟨kvs,k,e,rfl,B,rfl⟩
theorem lV.t {H:Hp}{a b:Addr}{kvs:List (List Key×V)}{k:List Key}{v:V}(e:H a=some (.dT kvs))(B:H b=some (.tup (k.map kV)))(G:kvs.length<sizeLine):
  lV H a (.ref b) v (upd H a (.dT (dY kvs k v))):=.inr ⟨kvs,k,b,e,rfl,B,G,rfl⟩
section
variable {pins:Pn9}{σ:St}{H:Hp}{s:Sh9}{a:Addr}{y v:V}{u r:Value}{o:OW9}{A:Around}{E:EV9}
theorem Inv.big (I:Inv X pins σ H s):sysModules<s.heap.objs.size:=by
 have h:mainGlobals<s.heap.objs.size:=(I.mod.glob.keeps I.bk).lt;exact Ld (by decide) h
theorem AB (hu:A.units+1<cLine)(I:Inv X pins σ H s)(g:dC H a y (some v))(ry:aZ y u)(h:∀J s',Inv X pins σ H s'->aZ v J->Q J s'):
  wpAny (model X.prog X.w) A (getItem (.ref a) u) Q E s:=by
 rcases g with⟨kvs,k,e,O,l⟩|⟨kvs,k,b,e,O,eb,l⟩
 ·subst O;obtain⟨z,hd,vs,B,Y⟩:=sP I.hok e;obtain⟨J,hw,G⟩:=oW.some_of (v:=v) (o:=valueAt vs k) (by rw[l];exact B.val k);exact wpAny_getItem_of (fM ry) Y.mapOf hw (h J _ (I.tok _) G)
 ·subst O;cases (show u=Value.ref b from ry);obtain⟨z,hd,xs,B,Y⟩:=mV I.hok e;obtain⟨J,hw,G⟩:=oW.some_of (v:=v) (o:=(atKey xs k).map (·.2)) (by rw[l];exact B.val k);obtain⟨p,hp,a0⟩:=IX.mp hw;refine wpAny_getItem_heap (tupleKind_room_in1 hu) (ji I.hok eb) Y hp ?_;rw[a0];exact h J _ (I.tok _) G
theorem Ii (hu:A.units+1<cLine)(I:Inv X pins σ H s)(g:dC H a y o)(Y:aZ y u)(h:∀s',Inv X pins σ H s'->Q (.bool o.isSome) s'):
  wpAny (model X.prog X.w) A (compareOp .In u (.ref a)) Q E s:=by
 rcases g with⟨kvs,k,e,G,l⟩|⟨kvs,k,b,e,G,eb,l⟩
 ·subst G;obtain⟨z,J,vs,B,O⟩:=sP I.hok e;refine wpAny_in_of (fM Y) J O.mapOf ?_;rw[<-(B.val k).isSome_eq,<-l];exact h _ (I.tok _)
 ·subst G;cases (show u=Value.ref b from Y);obtain⟨z,J,xs,B,O⟩:=mV I.hok e;refine wpAny_in_heap (tupleKind_room_in1 hu) (ji I.hok eb) J O ?_;have q:=(B.val k).isSome_eq;rw[JD]at q;rw[<-q,<-l];exact h _ (I.tok _)
theorem EC (hu:A.units+1<cLine)(I:Inv X pins σ H s)(g:dC H a y o)(Y:aZ y u)(h:∀s',Inv X pins σ H s'->Q (.bool (!o.isSome)) s'):
  wpAny (model X.prog X.w) A (compareOp .NotIn u (.ref a)) Q E s:=by
 rcases g with⟨kvs,k,e,G,l⟩|⟨kvs,k,b,e,G,eb,l⟩
 ·subst G;obtain⟨z,J,vs,B,O⟩:=sP I.hok e;refine wpAny_notIn_of (fM Y) J O.mapOf ?_;rw[<-(B.val k).isSome_eq,<-l];exact h _ (I.tok _)
 ·subst G;cases (show u=Value.ref b from Y);obtain⟨z,J,xs,B,O⟩:=mV I.hok e;refine wpAny_notIn_heap (tupleKind_room_in1 hu) (ji I.hok eb) J O ?_;have q:=(B.val k).isSome_eq;rw[JD]at q;rw[<-q,<-l];exact h _ (I.tok _)
theorem kB (I:Inv X pins σ H s)(B:Mut (H a))(G:Heap.SameBut a s.heap h')(J:∃q,h'.get? a=some q)(new:bv X.prog X.w (upd H a ob) h' a ob):
  Inv X pins σ (upd H a ob) {s with heap:=h',toks:=t' } :=
 I.write (x:=a) (e:=a) B (.inl rfl) (fun b q O z=>(G.2 b O).trans z) J new
theorem CJ (z:kvs.length<=sizeLine)(G:(a==sysModules)=false)(B:KV kvs vs)(J:h'.DictOf (aw P w) a vs):
  bv P w H' h' a (.dK kvs):=⟨z,G,vs,B,J⟩
theorem AA {H':Hp}{Q:Unit->Sh9->Prop}(hu:A.units+1<cLine)(I:Inv X pins σ H s)(g:lV H a y v H')(ry:aZ y u)(rv:aZ v r)(h:∀s',Inv X pins σ H' s'->Q () s'):
  wpAny (model X.prog X.w) A (setItem (.ref a) u r) Q E s:=by
 rcases g with⟨kvs,k,e,O,l,Y⟩|⟨kvs,k,b,e,O,eb,l,Y⟩
 ·subst O Y;obtain⟨z,hd,vs,B,dd⟩:=CI I.hok e;have hz:vs.length<=sizeLine:=by rw[<-B.length];exact z
  have hl:(dY kvs k v).length<=sizeLine:=by have:=fA kvs k v;lia
  refine wpAny_setItem_pairs (hsz:=hz) (fM ry) dd fun h' G hs=>h _ ?_;have he:∃q,h'.get? a=some q:=let ⟨q,_,_,J,_⟩:=G;⟨q,J⟩
  exact kB I (by rw[e];exact True.intro) hs he (CJ hl hd (B.put k rv) G)
 ·subst O Y;cases (show u=Value.ref b from ry);obtain⟨z,hd,xs,B,dd⟩:=CG I.hok e;have hz:xs.length<=sizeLine:=by rw[<-Paired.length B];exact z
  have hl:(dY kvs k v).length<=sizeLine:=by have:=fA kvs k v;lia
  refine wpAny_setItem_heap (hsz:=hz) (tupleKind_room_in1 hu) (ji I.hok eb) dd fun h' G hs=>h _ ?_;obtain⟨q,es,ep,J,h2,h3,h4,_,h5⟩:=G;refine kB I (by rw[e];exact True.intro) hs ⟨q,J⟩ ⟨hl,hd,_,(B.put k eb rv).keeps fun c ys ec=>?_,q,es,ep,J,h2,h3,h4,h5⟩;rw[aA (yR ec e (fun z=>nomatch z))];exact ec
end
def EO (i:Expr):Prop:=∀ov iv,subscripted i false ov iv=operate [ov,iv] (getItem ov iv)
theorem tD {T id:String} 
  (hl:typeLookup (.type T) "__getitem__" = pure (some (.builtin id))) (hs:EO slice)
  (h:wpAny (model prog w) A (eval value env) (fun o J=>wpAny (model prog w) A (eval slice env) (fun i B=>B.TypeIs o T/\wpAny (model prog w) A (getItem o i) Q E B) E J) E s) :
  wpAny (model prog w) A (eval (.Subscript value slice pos) env) Q E s:=by
 refine Subscript_ (Jy h (fun o J h₁=>Jy h₁ (fun i B G=>?_) fun _ _ x=>x) fun _ _ x=>x);obtain⟨O,G⟩:=G;unfold subscriptTail;refine Ip ?_;rw[getitemInPython_of_ne O.not_modules];refine Ip (wpAny_specialOf O hl ?_);have fin:wpAny (model prog w) A (subscripted slice false o i) (fun r Y=>wpAny (model prog w) A (letTemporaryGo value o r >>= fun _=>pure r) Q E Y) E B:=by
  rw[hs o i];exact wpAny_operating (Jy G (fun r Y h₃=>Ip (wpAny_letTemporaryGo (IB h₃))) fun _ _ x=>x)
 first
  |exact IB (Ip fin)
  |exact Ip (IB (Ip fin))
  |exact Ip fin
theorem wB (I:Inv X pins σ H s)(g:dC H a y o):s.TypeIs (.ref a) "dict" := by
 rcases g with⟨kvs,k,e,_,_⟩|⟨kvs,k,b,e,_,_,_⟩
 ·obtain⟨_,_,vs,_,B⟩:=sP I.hok e;exact B.typeIs
 ·obtain⟨_,_,xs,_,B⟩:=mV I.hok e;exact B.typeIs
abbrev GV (td ty:TE):TE:=fun σ H Q=>td σ H fun x H1=>ty σ H1 fun y H2=>∃a v,x=.ref a/\dC H2 a y (some v)/\Q v H2
abbrev GZ (td ty tv:TE):TS:=fun D σ H=>tv σ H fun v H1=>td σ H1 fun x H2=>ty σ H2 fun y H3=>∃a H4,x=.ref a/\lV H3 a y v H4/\D.nx σ H4
section
variable {o i e value:Expr}{pos pos' tpos:Pos}{td ty tv:TE}
theorem dM (J:X.A.units+1<cLine)(O:PE X o td)(hi:PE X i ty)(Y:EO i):PE X (.Subscript o i pos) (GV td ty):=by
 intro pins s σ H Q I h;refine tD PySem.F.slot_dict_getitem.lookup Y (thn (O pins s σ H _ I h) fun u s1 ⟨x,H1,I1,rx,q1⟩=>thn (hi pins s1 σ H1 _ I1 q1) fun iv s2 ⟨y,H2,G,ry,a,v,ex,g,q2⟩=>?_);subst ex;obtain rfl:u=Value.ref a:=rx;exact⟨wB G g,AB J G g ry fun w' s3 I3 B=>⟨v,H2,I3,B,q2⟩⟩
theorem dZ (B:X.A.units+1<cLine)(G:PE X o td)(hi:PE X i ty)(J:PE X value tv)(O:swapsWith value (some (.Subscript o i pos')) pos.line X.env=pure false):
  PS X (.Assign [.Subscript o i pos'] value pos) (GZ td ty tv):=by
 intro pins s σ H D I h;refine wpAny_Assign_Subscript (thn (J pins s σ H _ I h) fun r Y ⟨v,H1,I1,rv,q1⟩=>thn (G pins Y σ H1 _ I1 q1) fun u s2 ⟨x,H2,I2,rx,q2⟩=>thn (hi pins s2 σ H2 _ I2 q2) fun iv s3 ⟨y,H3,I3,ry,a,H4,ex,g,q3⟩=>?_) O;subst ex;obtain rfl:u=Value.ref a:=rx;exact AA B I3 g ry rv fun s4 I4=>⟨σ,H4,I4,q3⟩
end
theorem wA (h:Heap)(B:sysModules<h.objs.size):bv P w H (h.push {cls:=.type "dict",data:=.dict #[]}) h.objs.size (.dK []) :=
 ⟨IG _,beq_eq_false_iff_ne.mpr (Ne.symm (I0 B)),[],.nil,Heap.DictOf.new h⟩
theorem wy (h:Heap)(B:sysModules<h.objs.size):bv P w H (h.push {cls:=.type "dict",data:=.dict #[]}) h.objs.size (.dT []) :=
 ⟨IG _,beq_eq_false_iff_ne.mpr (Ne.symm (I0 B)),[],.nil,_,#[],0,IH _ rfl,⟨rfl,rfl,rfl⟩,rfl,rfl,Km⟩
def Fq:TE:=fun _ H Q=>Nw H (.dK []) fun p H=>Q (.ref p) H
def Fo:TE:=fun _ H Q=>Nw H (.dT []) fun p H=>Q (.ref p) H
section
variable {pos:Pos}
theorem qr:PE X (.Dict [] [] pos) Fq:=fun pins s σ H Q I h=>
 wpAny_Dict_empty ⟨.ref s.heap.objs.size,_,I.laid (a:=s.heap.objs.size) (o:=.dK []) (t':=s.toks) (fun _ _ q=>Ir _ q) (Iw _) (wA s.heap I.big),rfl,h _ (I.hok.fresh (Iw _))⟩
theorem mE:PE X (.Dict [] [] pos) Fo:=fun pins s σ H Q I h=>
 wpAny_Dict_empty ⟨.ref s.heap.objs.size,_,I.laid (a:=s.heap.objs.size) (o:=.dT []) (t':=s.toks) (fun _ _ q=>Ir _ q) (Iw _) (wy s.heap I.big),rfl,h _ (I.hok.fresh (Iw _))⟩
end
def w_:List (TE×TE)->St->Hp->(List (V×V)->Hp->Prop)->Prop
 | [],_,H,Q=>Q [] H
 | (tk,tv)::r,σ,H,Q=>tk σ H fun x H1=>tv σ H1 fun y H2=>w_ r σ H2 fun ps H3=>Q ((x,y)::ps) H3
abbrev VV:List (V×V)->List (Value×Value)->Prop:=Paired fun p q=>aZ p.1 q.1/\aZ p.2 q.2
def PPs (X:Cx)(pos:Pos)(keys:List (Option Expr))(values:List Expr)(trs:List (TE×TE)):Prop :=
 ∀(pins:Pn9) (s:Sh9) (σ:St) (H:Hp) (Q:List (V×V)->Hp->Prop),Inv X pins σ H s->w_ trs σ H Q ->
  wpAny (model X.prog X.w) X.A (evalPairs (pairTrees keys values X.env pos)) (fun vs s'=>∃ps H',Inv X pins σ H' s'/\VV ps vs/\Q ps H') X.xe s
theorem DR:PPs X pos [] [] []:=fun pins s σ H Q I h=>pairTrees_nil_walk ⟨[],H,I,.nil,h⟩
theorem BK (G:PE X k tk)(J:PE X v tv)(O:PPs X pos ks vs trs):
  PPs X pos (some k::ks) (v::vs) ((tk,tv)::trs):=fun pins s σ H Q I h=>
 pairTrees_cons_walk (thn (G pins s σ H _ I h) fun u Y ⟨x,H1,I1,rx,q1⟩=>thn (J pins Y σ H1 _ I1 q1) fun w2 s2 ⟨y,H2,I2,ry,q2⟩=>
  thn (O pins s2 σ H2 _ I2 q2) fun ws s3 ⟨ps,H3,I3,B,q3⟩=>⟨(x,y)::ps,H3,I3,.cons ⟨rx,ry⟩ B,q3⟩)
def qD (kvs more:LK9):LK9:=more.foldl (fun acc kv=>dY acc kv.1 kv.2) kvs
theorem KV.merge:∀{B:LK9} {G:List (Key×Value)} {kvs:LK9} {vs:List (Key×Value)},KV B G->KV kvs vs->KV (qD kvs B) (merged vs G):=by
 intro B G kvs vs r;unfold KV at r
 induction r generalizing kvs vs with
 |nil=>intro q;exact q
 | @cons p q ps qs h t ih=>
  intro J;have e:KV (dY kvs p.1 p.2) (stored vs q.1 q.2):=by
   have:=J.put p.1 h.2
   rw[<-h.1];exact this
  exact ih e
theorem kM:∀(more kvs:LK9),(qD kvs more).length<=kvs.length+more.length
 | [],kvs=>by show kvs.length<=kvs.length+0;simp
 |p::r,kvs=>by
  have h1:=kM r (dY kvs p.1 p.2);have h2:=fA kvs p.1 p.2;show (qD (dY kvs p.1 p.2) r).length<=_;rw[Jb];lia
theorem qZ:∀{kvs:LK9} {ws:List (Value×Value)},VV (kvs.map fun G=>(kV G.1,G.2)) ws->∃B,Carries (aw P w) ws B/\KV kvs B
 | [],_,r=>by rw[Lh]at r;cases r;exact⟨[],True.intro,.nil⟩
 |p::kvs,_,r=>by
  rw[IR]at r;cases r with
  | @cons a b as bs h t=>
   obtain⟨B,c,q⟩:=qZ (P:=P) (w:=w) t;obtain⟨O,J⟩:=b;exact⟨(p.1,J)::B,⟨fM h.1,rfl,c⟩,.cons ⟨rfl,h.2⟩ q⟩
def EV (trs:List (TE×TE)):TE:=fun σ H Q=>∀p,H p=none->w_ trs σ (upd H p (.dK [])) fun ps H2=>H2 p=some (.dK [])/\∃kvs:LK9,ps=kvs.map (fun kv=>(kV kv.1,kv.2))/\kvs.length<=15/\Q (.ref p) (upd H2 p (.dK (qD [] kvs)))
theorem DZ (h:PPs X pos keys values trs)(B:keys.all (·.isSome)=true)(hl:keys.length=values.length)(h0:keys≠[])
  (J:keys.length<=15):PE X (.Dict keys values pos) (EV trs):=by
 intro pins s σ H Q I q;have hn:=I.hok.fresh (Iw s.heap.objs.size);have I1:=I.laid (a:=s.heap.objs.size) (o:=.dK []) (h':=s.heap.push {cls:=.type "dict",data:=.dict #[]}) (t':=s.toks) (fun _ _ q=>Ir _ q) (Iw _) (wA s.heap I.big)
 refine wpAny_Dict_walk (knd:=aw X.prog X.w) B hl h0 J (thn (h pins _ σ _ _ I1 (q _ hn)) fun ws s2 ⟨ps,H2,Y,O,e,kvs,ep,lk,q2⟩=>?_);subst ep;obtain⟨rs,c,rk⟩:=qZ (P:=X.prog) (w:=X.w) O;obtain⟨z,hd,a0,r0,dd⟩:=CI Y.hok e;cases r0;refine⟨rs,c,dd,fun h' G hs=>⟨.ref s.heap.objs.size,_,?_,rfl,q2⟩⟩;have hz:(qD [] kvs).length<=sizeLine:=by
  have h1:=kM kvs [];rw[L5]at h1;rw[sizeLine_eq];lia
 have he:∃q,h'.get? s.heap.objs.size=some q:=let ⟨q,_,_,hq,_⟩:=G;⟨q,hq⟩
 exact kB Y (by rw[e];exact True.intro) hs he (CJ hz hd (rk.merge .nil) G)
structure M1 (X:Cx)(o:Expr)(m:Str)(apos:Pos)(e:Expr)(cpos:Pos):Prop where
 base:attributeBase o m X.env (eval o X.env)=eval o X.env
 few:((backTo cpos (starEach [e] X.env)).all (fun x=> !x.1)&&(backToKw cpos (keywordEach [] X.env)).all (fun x=>x.1.isSome)
  && decide (([e]:List Expr).length+([]:List Keyword).length+(if ([]:List Keyword).isEmpty then 0 else 1)<30))=true
 line:(apos.endLine==cpos.line)=true
 trees:backTo cpos (starEach [e] X.env)=[(false,eval e X.env)]
def IsD (H:Hp)(a:Addr):Prop:=(∃kvs,Rd H a (.dK kvs))\/∃kvs,Rd H a (.dT kvs)
theorem Gc (I:Inv X pins σ H s)(d:IsD H a):
  s.TypeIs (.ref a) "dict" /\ (∀b,Value.ref a=.ref b->∃B,s.heap.get? b=some B/\B.dict=none)/\(a==sysModules)=false:=by
 rcases d with⟨kvs,e⟩|⟨kvs,e⟩
 ·obtain⟨_,J,vs,_,G⟩:=sP I.hok e;refine⟨G.typeIs,fun b q=>?_,J⟩;cases q;obtain⟨B,_,_,h1,h2,_⟩:=G;exact⟨B,h1,h2.2.1⟩
 ·obtain⟨_,J,xs,_,G⟩:=mV I.hok e;refine⟨G.typeIs,fun b q=>?_,J⟩;cases q;obtain⟨B,_,_,h1,h2,_⟩:=G;exact⟨B,h1,h2.2.1⟩
section
variable {κ:Type}[DecidableEq κ]
theorem pi:∀{l:List κ} {k:κ},l.Nodup->¬ k∈l->(l++[k]).Nodup
 | [],k,_,_=>by simp
 |a::r,k,h,hk=>by
  obtain⟨h1,h2⟩:=JE.mp h;show (a::(r++[k])).Nodup;refine JE.mpr ⟨fun m=>?_,pi h2 fun m=>hk (IP.mpr (Or.inr m))⟩;rcases Iz.mp m with q|q
  ·exact h1 q
  ·exact hk (IP.mpr (Or.inl (Iu.mp q).symm))
end
def Itg (n:Nat)(g:Nat->V):It:=⟨fun i _=>i<n,fun i H x H'=>H'=H/\x=g i,fun i _=>n<=i⟩
theorem nh {K:Frag}{St:Nat->Heap->Prop} 
  (W:∀A:Around,A.handled=none->Walks P w A it [it] [it] n Pn St) (hv:∀i v,Pn i v->aZ (g i) v)
  (hk:∀i h h',St i h->(∀o,h.get? it=some o->h'.get? it=some o)->St i h')
  (B:∀(A:Around) (i:Nat) (s:Sh9) (Q:EV9) (E:EV9),St i s.heap->Q (.ref it) s->wpAny (model P w) A (pyIter (.ref it)) Q E s)
  (ho:∀i h,St i h->∃o c vs,h.get? it=some o/\o.cls=.type c/\o.data=.fields vs /\
   ["enumerate","zip","dict_itemiterator","dict_reverseitemiterator","odict_iterator","itertools.zip_longest","itertools.pairwise"].contains c=false) :
  wP P w K tg (Itg n g) [it] it (fun i h=>i<=n/\St i h) where
 mem:=by simp
 obj:=fun i h st b G=>by
  have e:b=it:=by simpa using G
  subst e;obtain⟨o,c,vs,e,_,d,_⟩:=ho i h st.2;exact⟨o,e,fun v z=>by rw[d]at z;cases z⟩
 keep:=fun i h h' st k=>⟨st.1,hk i h h' st.2 fun o e=>k it (by simp) o e⟩
 item:=by
  intro X J hw hK hc i pins s σ H E I hf st hg;subst J hw hK;obtain⟨f0,f1,f2,f3,f4,f5⟩:=hf it (by simp);refine (W X.A (I.ok.hd hc)).item i s _ _ hg st.2 fun v h' tk J O kk=>?_;have I1:Inv X pins σ H {s with heap:=h',toks:=tk}:=I.turned (fun b o G e=>kk b o (by simpa using G) e) f0 f1 f3 f4 f5;obtain⟨o,c,vs,e,Y,d,hn⟩:=ho _ _ O;exact⟨v,rfl,sJ (s:={s with heap:=h',toks:=tk}) e Y d hn ⟨g i,H,I1,hv i v J,⟨rfl,rfl⟩,⟨hg,O⟩,fun b G=>(hf b G).1⟩⟩
 done:=by
  intro X J hw hK hc i pins s σ H E I hf st hg;subst J hw hK;obtain⟨f0,f1,f2,f3,f4,f5⟩:=hf it (by simp);have hg':n<=i:=hg;have e:i=n:=L3 st.1 hg';subst e;exact (W X.A (I.ok.hd hc)).done s _ _ st.2 fun h' tk kk=>⟨rfl,I.turned (fun b o G e=>kk b o (by simpa using G) e) f0 f1 f3 f4 f5⟩
 self:=fun A i s Q E st h=>B A i s Q E st.2 h
theorem pG {n:Nat}{g':Nat->V}{g:TG}{tb:TS}{D:rC}{σ:St}{H:Hp}(Pv:NS9)(J:Pv 0 σ H)
  (O:∀i σ H,i<n->Pv i σ H->g (g' i) σ H fun B H2=>tb {D with nx:=Pv (i+1),ct:=Pv (i+1),bk:=D.nx} B H2) (Y:∀σ H,Pv n σ H->D.nx σ H) :
  ∃W:Nat->NS9,(∃m,W 0 m σ H)/\∀i m σ H,W i m σ H ->
   ((Itg n g').stop i H/\D.nx σ H)\/((Itg n g').go i H/\∃N:SP9,(∀G H',N G H'->∃m',m'<m/\W (i+1) m' G H')/\∀x H',(Itg n g').yld i H x H'->g x σ H' fun B H2=>tb {D with nx:=N,ct:=N,bk:=D.nx} B H2):=by
 refine⟨fun i m σ H=>m=n-i/\i<=n/\Pv i σ H,⟨n,by simp,IG _,J⟩,?_⟩;rintro i m σ H ⟨rfl,hi,p⟩;by_cases hlt:i<n
 ·refine .inr ⟨hlt,Pv (i+1),fun G H' p'=>⟨n-(i+1),by lia,rfl,hlt,p'⟩,fun x H' y=>?_⟩;obtain⟨e,y⟩:=y;subst e y;exact O i σ _ hlt p
 ·have e:i=n:=by lia
  subst e;exact .inl ⟨Iw _,Y σ H p⟩
section
def sgn (z:Str)(i:Nat):Str:=⟨#[z.cps.getD i 0]⟩
abbrev Ib (tl:TE):TI:=fun σ H R=>tl σ H fun x H1=>∃z,x=.str z/\R (Itg z.length fun i=>.str (sgn z i)) H1
theorem Bo (h:SignAt z i v):aZ (.str (sgn z i)) v:=by
 obtain⟨c,u,B,rfl⟩:=h;refine⟨u,?_⟩;have e:z.cps.getD i 0=c:=by simp[JT,B]
 unfold sgn;rw[e]
theorem tT (Y:PE X l tl):PI X tg l (Ib tl):=by
 intro pins s σ H R I h;refine thn (Y pins s σ H _ I h) fun v B ⟨x,H1,G,r1,q1⟩=>?_;obtain⟨z,e,q⟩:=q1;subst e;obtain⟨t,rfl⟩:=r1;have fp:∀b∈[B.heap.objs.size],n_ X pins H1 b:=fun b hb=>by
  have e:b=B.heap.objs.size:=by simpa using hb
  subst e;exact G.fpOk (Iw _) (G.hok.fresh (Iw _))
 cases ha:z.cps.all (· < 128)
 ·refine wpAny_pyIter_wide ha ?_;refine⟨B.heap.objs.size,[B.heap.objs.size],_,_,H1,rfl,G.kept (t':=B.toks) fun b o e=>Ir _ e,
   nh (St:=fun i h=>h.IsStrIter B.heap.objs.size "str_iterator" z t i) (fun A J=>Walks.strWide J _ z t) (fun i v=>Bo) (fun i h h' st k=>let ⟨o,ho,r⟩:=st;⟨o,k o ho,r⟩) (fun A i s Q E st O=>wpAny_pyIter_striter_wide st O)
    (fun i h st=>let ⟨o,ho,hc,hd⟩:=st;⟨o,_,_,ho,hc,hd,by decide⟩),⟨IG _,⟨_,IH _ rfl,rfl,rfl⟩⟩,fp,q⟩
 ·refine wpAny_pyIter_ascii ha ?_;refine⟨B.heap.objs.size,[B.heap.objs.size],_,_,H1,rfl,G.kept (t':=B.toks) fun b o e=>Ir _ e,
   nh (St:=fun i h=>h.IsStrIter B.heap.objs.size "str_ascii_iterator" z t i) (fun A J=>Walks.strAscii J _ z t) (fun i v=>Bo) (fun i h h' st k=>let ⟨o,ho,r⟩:=st;⟨o,k o ho,r⟩) (fun A i s Q E st O=>wpAny_pyIter_striter_ascii st O)
    (fun i h st=>let ⟨o,ho,hc,hd⟩:=st;⟨o,_,_,ho,hc,hd,by decide⟩),⟨IG _,⟨_,IH _ rfl,rfl,rfl⟩⟩,fp,q⟩
abbrev Hh (ta:TA):TI:=fun σ H R=>ta σ H fun vs H1=>∃(i j c:Int) (n:Nat),vs=[.int i,.int j,.int c]/\c≠0/\(c<1073741824/\-1073741824<c)/\Builtin.Range.small i j c=true/\Builtin.Range.rangeSize i j c=(n:Int)/\R (Itg n fun k=>.int (i+(k:Int)*c)) H1
theorem zU (hg:Gl X "range")(hm:X.mg "range" = none)(ha:PA X [a,b,d] ta)
  (hs:starEach [a,b,d] X.env=(false,eval a X.env)::starEach [b,d] X.env:=by rfl) (J:(backTo pos (starEach [b,d] X.env)).any (·.1)=false:=by rfl) :
  PI X tg (.Call (.Name "range" p) [a,b,d] [] pos) (Hh ta):=by
 intro pins s σ H R I h;refine Call_ (jh I hg hm boot_range (PyProof.Rows.callWith_type1 (thn (ha pos pins s σ H _ I h) fun us G ⟨vs,H1,I1,r1,q1⟩=>?_) hs J));obtain⟨i,j,c,n,e,hc,a0,O,hsz,q⟩:=q1;subst e;cases r1 with
 |cons r rr=>
  cases rr with
  |cons r' rr=>
   cases rr with
   |cons r'' rr=>
    cases rr;obtain⟨t,rfl⟩:=r;obtain⟨t',rfl⟩:=r';obtain⟨B,rfl⟩:=r'';refine call_range_3 hc ?_ (.inl (PyProof.noPylong_small (by lia)));refine wpAny_pyIter_range (IsRange.new ..) O ?_;have Y:Inv X pins σ H1 {G with heap:=G.heap.push {cls:=.type "range",data:=.fields #[.int i t,.int j t',.int c B]} }:=I1.kept (t':=G.toks) fun b o e=>Ir _ e
    refine⟨(G.heap.push {cls:=.type "range",data:=.fields #[.int i t,.int j t',.int c B]}).objs.size,[(G.heap.push {cls:=.type "range",data:=.fields #[.int i t,.int j t',.int c B]}).objs.size],_,_,H1,rfl,
     Y.kept (t':=G.toks) fun b o e=>Ir _ e,
     nh (g:=fun k=>.int (i+(k:Int)*c)) (fun A hA=>Walks.range hA _ i c n) (fun k v h=>let ⟨t,e⟩:=h;⟨t,e⟩) (fun i h h' st k=>k _ st) (fun A i s Q E st hQ=>wpAny_pyIter_rangeiter st hQ)
      (fun i h st=>⟨_,_,_,st,rfl,rfl,by decide⟩),⟨IG _,?_⟩,fun b hb=>?_,q⟩
    ·have e1:i+((0:Nat):Int)*c=i:=by simp
     have e2:(n:Int)-((0:Nat):Int)=Builtin.Range.rangeSize i j c:=by rw[hsz];simp
     show IsRangeIter _ _ (i+((0:Nat):Int)*c) ((n:Int)-((0:Nat):Int)) c;rw[e1,e2];exact IH _ rfl
    ·have e:b=(G.heap.push {cls:=.type "range",data:=.fields #[.int i t,.int j t',.int c B]}).objs.size:=by simpa using hb
     subst e;exact Y.fpOk (Iw _) (Y.hok.fresh (Iw _))
end
section
theorem eA:fO X (.type "int") (fun xs H Q=>∃z n,xs=[.str z]/\PySem.intText? z=some n/\z.length<=640/\Q (.int n) H):=by
 intro pins s σ H xs J Q I r h;obtain⟨z,n,rfl,B,G,q⟩:=h;obtain⟨u,rfl,t,rfl⟩:=iD r;exact PySem.W.KIN.call_text B G ⟨.int n,H,I.tok _,⟨_,rfl⟩,q⟩
def HN:V->Option Int->Option Int->HV9:=fun x lo hi H Q=>∃z,x=.str z/\z.length<=sizeLine/\Q (.str (Txt.slice z lo hi)) H
theorem xj:SlR X HN:=by
 intro pins s σ H x v vl vu lo hi sl Q I rx hs pl Y h;obtain⟨z,rfl,hz,q⟩:=h;obtain⟨t,rfl⟩:=rx;refine⟨"str",_,F.slot_str_getitem.lookup,typeIs_str _ _ _,?_⟩
 obtain⟨o,B,G,J⟩:=hs;have fin:∀(O:Str) (t':Tok) (k:Nat),O=Txt.slice z lo hi->EP X pins σ Q (.str O t') {s with toks:=k}:=fun O t' k e=>by
  subst e;exact⟨.str _,H,I.tok _,⟨_,rfl⟩,q⟩
 cases pl with
 |none=>
  cases Y with
  |none=>exact wpAny_getItem_str_slice (l:=none) (u:=none) (st:=none) ⟨o,B,G,J⟩ rfl (post_val_or_str ⟨IU (Txt.slice_le z _ _) hz,fun t' k=>fin _ t' k rfl⟩)
  |int j uj=>exact wpAny_getItem_str_slice (l:=none) (u:=some (j,uj)) (st:=none) ⟨o,B,G,J⟩ rfl (post_val_or_str ⟨IU (Txt.slice_le z _ _) hz,fun t' k=>fin _ t' k rfl⟩)
 |int i ui=>
  cases Y with
  |none=>exact wpAny_getItem_str_slice (l:=some (i,ui)) (u:=none) (st:=none) ⟨o,B,G,J⟩ rfl (post_val_or_str ⟨IU (Txt.slice_le z _ _) hz,fun t' k=>fin _ t' k rfl⟩)
  |int j uj=>exact wpAny_getItem_str_slice (l:=some (i,ui)) (u:=some (j,uj)) (st:=none) ⟨o,B,G,J⟩ rfl (post_val_or_str ⟨IU (Txt.slice_le z _ _) hz,fun t' k=>fin _ t' k rfl⟩)
def G3 (K:Frag)(T:String):List V->HV9:=fun xs H Q=>∃x t b,xs=[x,.ty T]/\lR K H x t/\kitOne K t (.type T)=some b/\Q (.bl b) H
theorem aQ (T:String):fO X (.builtin "isinstance") (G3 X.K T):=by
 intro pins s σ H xs O Q I r h;obtain⟨x,t,b,rfl,ty,B,q⟩:=h;obtain⟨u,c,rfl,G,J⟩:=jB r;cases (show c=.type T from J);exact Av I G ty B fun tk=>⟨.bl b,H,I.tok _,rfl,q⟩
end
section
def A7 (ifs:List Expr)(env:Env):Sem Bool:=forIn ifs true fun c r=>if r=true then do
  let ok <-isTrue c env (eval c env)
  pure (ForInStep.yield ok)
 else pure (ForInStep.yield r)
theorem wG (I:Nat->Sh9->Prop)
  (turn:∀n s,I n s->wpAny (model prog w) A (pyNext it) (fun r J=>match r with
   |none=>R (.ok .next) J
   |some v=>wpAny (model prog w) A (letOwnedTupleGo target it v) (fun _ O=>wpAny (model prog w) A (assign target env v) (fun _ Y=>
     wpAny (model prog w) A (A7 ifs env) (fun ok B=>if ok=true then
     wpAny (model prog w) A (eval elt env) (fun x B=>
      wpAny (model prog w) A (call (.builtin "list.append") [acc,x]) (fun _ s5=>∃m,m<n/\I m s5) (notedBy (model prog w) A env fun e s'=>R (.error e) s') B) (notedBy (model prog w) A env fun e s'=>R (.error e) s') B
     else ∃m,m<n/\I m B) (notedBy (model prog w) A env fun e s'=>R (.error e) s') Y)
     (notedBy (model prog w) A env fun e s'=>R (.error e) s') O) (notedBy (model prog w) A env fun e s'=>R (.error e) s') J) (notedBy (model prog w) A env fun e s'=>R (.error e) s') s)
  (n:Nat) (h:I n s) :
  codeAny (model prog w) A (.compLoop (.ListComp elt [⟨target,iter,ifs,0⟩] scope pos) 0 it acc env) R s:=by
 refine codeAny_loop rfl I (fun n s hI=>?_) n h;show wpAny _ A ((compTurn (.ListComp elt [⟨target,iter,ifs,0⟩] scope pos) 0 it acc env).onRaise (fun x=>do noteFrame x env;theTreesLotGoes x)) _ _ s;refine wpAny_noted ?_;rw[compTurn_list];refine Ip (wpAny_standAt (Ip (Jy (turn n s hI) (fun r J h1=>?_) fun _ _ h'=>h')));cases r with
 |none=>exact IB h1
 |some v=>
  refine Ip (Jy h1 (fun _ O h2=>Ip (Jy h2 (fun _ Y h3=>?_) fun _ _ h'=>h')) fun _ _ h'=>h');refine Ip (Jy h3 (fun ok B G=>?_) fun _ _ h'=>h');cases ok with
  |false=>exact IB ⟨rfl,G⟩
  |true=>
   exact Ip (Ip (Jy G (fun x B G=>Ip (Jy G (fun _ s5 h5=>IB (IB ⟨rfl,h5⟩)) fun _ _ h'=>h')) fun _ _ h'=>h'))
end
section
theorem oA:∀{bs:List Bool} {us:LV9},aV (bs.map V.bl) us->LSm.BoolsAre us bs
 | [],us,r=>by rw[Lh]at r;cases r;exact .nil
 |b::bs,us,r=>by
  rw[IR]at r;cases r with
  |cons r1 r2=>
   cases (show _=Value.bool b from r1);exact .cons b (oA r2)
theorem CZ (O:X.calm=true):fO X (.builtin "all") (fun xs H Q=>∃(a:Addr) (bs:List Bool),xs=[.ref a]/\SqL X.K H a (bs.map V.bl)/\Q (.bl (bs.all id)) H):=by
 intro pins s σ H xs us Q I r h;obtain⟨a,bs,rfl,Y,q⟩:=h;obtain⟨u,rfl,ru⟩:=iD r;cases ru;obtain⟨its,rv,pl,_⟩:=I.list Y;have G:=oA rv;have B:a<s.heap.objs.size:=by obtain⟨_,e,_⟩:=pl.isList;exact IK e
 refine call_all_walk (wpAny_pyIter_list pl.isList ?_);refine⟨s.heap.objs.size,[s.heap.objs.size,a],[s.heap.objs.size],its.toArray.size,_,_,fun i=>(bs[i]?).getD true,rfl,Walks.list (A:=X.A.in1) (I.ok.hd O) _ a (I0 B) its.toArray,
  ⟨⟨_,IH _ rfl,rfl,rfl⟩,pl.isList.push _⟩,fun i v s' Q' E' hP J=>?_,fun h' tk hk=>?_⟩
 ·obtain⟨b,e,rfl⟩:=G.get i v (by simpa using hP);simp only[e,Option.getD_some]at J;exact wpAny_truthy_bool J
 ·have e:((List.range its.toArray.size).all fun i=>(bs[i]?).getD true)=bs.all id:=by
   rw[IV,G.length];exact LSm.range_all bs
  rw[e];exact⟨.bl _,H,I.kept (LSm.kept_iter hk),rfl,q⟩
end
def bS (CX:CXT):Prop:=∀outer H s e s',CX outer H s E0 e s'->False
theorem bq:bS CX0:=fun _ _ _ _ _ h=>h
theorem G7 (q:bS CX):vf CX X E0:=fun _ _ _ _ _ _ _ h=>(q _ _ _ _ _ h).elim
structure Fok (P:Pg9)(w:Wd9)(K:Frag)(mg:Mg9)(base:Heap)(CX:CXT)(j:Nat)(x:Str)(ps:List Str)(dvs:List V)(sp:Sp):Prop where
 ex:∃f fd ds,bB P w K mg base CX j f fd ps sp/\eU K fd ps ds/\aV dvs ds/\keepIn K (.ref f)=true/\mg x=some (.ref f)
section
theorem BS (F:Fok X.prog X.w X.K X.mg X.base CX j x ps dvs sp)(O:cV k X.A)(Y:vf CX X E)(ha:PA X (e::es) t)(hj:j<=k:=by decide)(hg:Gl X x:=by rfl)
  (B:(x==("__debug__" : Str))=false:=by decide) (he:starEach (e::es) X.env=(false,eval e X.env)::starEach es X.env:=by rfl) (J:(backTo pos (starEach es X.env)).any (·.1)=false:=by rfl) :
  PE X (.Call (.Name x p) (e::es) [] pos) (Be sp dvs E t):=by
 obtain⟨f,fd,ds,G,b,v,kp,m⟩:=F.ex;exact D3 G (O.mono hj) hg m kp b v Y ha B he J
theorem ai (F:Fok X.prog X.w X.K X.mg X.base CX j x ps dvs sp)(q:bS CX)(J:cV k X.A)(O:PA X (e::es) t)(hj:j<=k:=by decide)(Y:Gl X x:=by rfl)
  (B:(x==("__debug__" : Str))=false:=by decide) (he:starEach (e::es) X.env=(false,eval e X.env)::starEach es X.env:=by rfl) (G:(backTo pos (starEach es X.env)).any (·.1)=false:=by rfl) :
  PE X (.Call (.Name x p) (e::es) [] pos) (Be sp dvs E0 t):=BS F J (G7 q) O hj Y B he G
end
section
variable {P:Pg9}{w:Wd9}{K:Frag}{mg:Mg9}{base:Heap}
structure bD (K:Frag)(x qual:Str)(st:Stmt)(f:Addr)(fd:Fd9)(dV:Value):Prop where
 ex:∃(oc:Value) (od:Option Addr) (kV doc pm:Value) (an:Option Addr) (cdv ct:Value) (osl:Array (OV9)),
  fd=fnOf x qual (cg st) (bW st) (aq st) dV kV doc pm an cdv ct/\K.lookup f=some ⟨oc,od,.func fd,osl⟩/\codeIn K cdv qual=true
 kp:keepIn K (.ref f)=true
theorem pE {x qual:Str}{st:Stmt}{f:Addr}{oc:Value}{od J:Option Addr}{G:Array (OV9)}{O kV doc Y B ct:Value}(l:K.lookup f=some ⟨oc,od,.func (fnOf x qual (cg st) (bW st) (aq st) O kV doc Y J B ct),G⟩)
  (c:codeIn K B qual=true) (k:keepIn K (.ref f)=true):bD K x qual st f (fnOf x qual (cg st) (bW st) (aq st) O kV doc Y J B ct) O:=⟨⟨oc,od,kV,doc,Y,J,B,ct,G,rfl,l,c⟩,k⟩
theorem bD.ok {st:Stmt}(F:bD K x qual st f fd dV)(S:aE N ps (aq st))(len:∀vs H Q E,sp vs H Q E->vs.length=ps.length)
  (G:∀(B:Value) (A:Around) (outer:List Env) (s:Sh9) (H:Hp) (vs:List V) (Q:VK) (E:XK),cV k (A.deeper (envOfC qual (aq st) s.heap.objs.size f B))->sp vs H Q E ->
   ∃t,PSs (xX CX P w K mg base N qual (aq st) f B A outer s H E).nox (bW st) t/\t {nx:=fun _ H'=>Q .non H',rt:=Q} (start N vs) H):bB P w K mg base CX (k+1) f fd ps sp:=by
 obtain⟨oc,od,kV,doc,pm,an,B,ct,Y,rfl,lk,J⟩:=F.ex;refine Fa lk J S len fun A outer s H vs Q E hr O=>?_;obtain⟨t,h,q⟩:=G B A outer s H vs Q E hr O;exact⟨t,h.nox,q⟩
theorem bD.binds {st:Stmt}(F:bD K x qual st f fd dV)
  (h:∀(kV doc G:Value) (J:Option Addr) (B ct:Value) (O:LV9),O.length=ps.length->bindArgs (fnOf x qual (cg st) (bW st) (aq st) dV kV doc G J B ct) ⟨O,[]⟩=pure (ps.zip O)):eU K fd ps []:=by
 obtain⟨oc,od,kV,doc,G,J,B,ct,Y,rfl,lk,a0⟩:=F.ex;exact .all (h kV doc G J B ct)
theorem bD.bindsD {st:Stmt}(F:bD K x qual st f fd (.ref t))(Y:K.lookup t=some o)(hs:o.data=.seq items n)
  (h:∀(kV doc J:Value) (O:Option Addr) (B ct:Value) (G:LV9),(G++ds).length=ps.length ->
   ∃k,bindArgs (fnOf x qual (cg st) (bW st) (aq st) (.ref t) kV doc J O B ct) ⟨G,[]⟩=seqItems? (.ref t) >>= k/\k (some items)=pure (ps.zip (G++ds))):eU K fd ps ds:=by
 obtain⟨oc,od,kV,doc,J,O,B,ct,a0,rfl,lk,a1⟩:=F.ex;intro s G X hl;obtain⟨k,h1,h2⟩:=h kV doc J O B ct G hl;exact BindsTo.of_defaults rfl (X _ _ Y) hs h1 h2
theorem fok {st:Stmt}(F:bD K x qual st f fd dV)(G:bB P w K mg base CX j f fd ps sp)(b:eU K fd ps [])(m:mg x=some (.ref f)):
  Fok P w K mg base CX j x ps [] sp:=⟨f,fd,[],G,b,.nil,F.kp,m⟩
theorem Ig {st:Stmt}(F:bD K x qual st f fd dV)(G:bB P w K mg base CX j f fd ps sp)(b:eU K fd ps ds)(v:aV dvs ds)(m:mg x=some (.ref f)):
  Fok P w K mg base CX j x ps dvs sp:=⟨f,fd,ds,G,b,v,F.kp,m⟩
end
section
def Fh (i j:Int):Prop:=0<j/\j<2^1000
def xt:R2:=fun x y H Q=>of2 (fun i j=>Fh i j/\Q (.int (i/j)) H) x y
theorem bI:OpR X (binaryOp .FloorDiv) xt:=opI fun i j _ _ _ _ _ B q=>by
 have h1:(0:Int)<j:=B.1;have h2:j<2^1000:=B.2;refine floordiv_int (by lia) (by rw[Lr i (by lia)];exact q) (.inl (PyProof.noPylong_of_log2 ?_));have e:j.natAbs.log2<1000:=by
  refine (Nat.log2_lt (by lia)).mpr ?_;have G:((j.natAbs:Nat):Int)=j:=by lia
  have J:((2^1000:Nat):Int)=(2:Int)^1000:=by rw[Int.natCast_pow];rfl
  lia
 lia
theorem eP (B:0<j)(h1:j<1000000000000000000000000):Fh i j:=⟨B,Int.lt_trans h1 (by decide +kernel)⟩
end
theorem fL:bootBuiltins "int" = some (.type "int"):=by decide +kernel
theorem uY:bootBuiltins "str" = some (.type "str"):=by decide +kernel
theorem pL:bootBuiltins "bool" = some (.type "bool"):=by decide +kernel
theorem pK:bootBuiltins "list" = some (.type "list"):=by decide +kernel
theorem fE:bootBuiltins "tuple" = some (.type "tuple"):=by decide +kernel
theorem zA:bootBuiltins "dict" = some (.type "dict"):=by decide +kernel
theorem aH:bootBuiltins "isinstance" = some (.builtin "isinstance"):=by decide +kernel
theorem x_:bootBuiltins "max" = some (.builtin "max"):=by decide +kernel
theorem rf:bootBuiltins "min" = some (.builtin "min"):=by decide +kernel
theorem GA:bootBuiltins "all" = some (.builtin "all"):=by decide +kernel
theorem bN:bootBuiltins "len" = some (.builtin "len"):=by decide +kernel
theorem GB:bootBuiltins "abs" = some (.builtin "abs"):=by decide +kernel
section
variable {K:Frag}
theorem uE:kitOne K (.type "int") (.type "int")=some true:=by kernel_rfl
theorem uF:kitOne K (.type "int") (.type "bool")=some false:=by kernel_rfl
theorem Cs:kitOne K (.type "str") (.type "str")=some true:=by kernel_rfl
theorem F5:kitOne K (.type "bool") (.type "int")=some true:=by kernel_rfl
theorem F6:kitOne K (.type "bool") (.type "bool")=some true:=by kernel_rfl
theorem j5:kitOne K (.type "tuple") (.type "tuple")=some true:=by kernel_rfl
end
def KTu (K:Frag)(a:Addr)(xs:List V):Prop:=∃(o:Obj) (its:Array Value) (n:Nat),K.lookup a=some o/\o.cls=.type "tuple" /\ o.data=.seq its n/\its.size<=sizeLine/\aV xs its.toList
theorem KTu.sq {K:Frag}(h:KTu K a xs):SqT K H a xs:=.inr h
def KD (P:Pg9)(w:Wd9)(K:Frag)(a:Addr)(kvs:LK9):Prop:=∃(o:Obj) (vs:List (Key×Value)),K.lookup a=some o/\KV kvs vs/\o.IsDictOf (aw P w) vs
abbrev GS (P:Pg9)(w:Wd9)(K:Frag)(td ty:TE):TE:=fun σ H Q=>td σ H fun x H1=>ty σ H1 fun y H2=>∃a kvs k v,x=.ref a/\y=kV k/\KD P w K a kvs/\bo kvs k=some v/\Q v H2
theorem yL (Y:PE X o td)(hi:PE X i ty)(hs:EO i):PE X (.Subscript o i pos) (GS X.prog X.w X.K td ty):=by
 intro pins s σ H Q I h;refine tD PySem.F.slot_dict_getitem.lookup hs (thn (Y pins s σ H _ I h) fun u s1 ⟨x,H1,I1,rx,q1⟩=>thn (hi pins s1 σ H1 _ I1 q1) fun iv s2 ⟨y,H2,J,ry,a,kvs,k,v,ex,ey,kd,l,q2⟩=>?_);subst ex ey;obtain rfl:u=Value.ref a:=rx;obtain⟨O,vs,hk,B,dd⟩:=kd;have dd':s2.heap.DictOf (aw X.prog X.w) a vs:=Heap.dictOf_iff.mpr ⟨O,J.kIn a O hk,dd⟩;obtain⟨w',hw,G⟩:=oW.some_of (v:=v) (o:=valueAt vs k) (by rw[<-l];exact B.val k);exact⟨dd'.typeIs,wpAny_getItem_of (fM ry) dd'.mapOf hw ⟨v,H2,J.tok _,G,q2⟩⟩
def rQ:List V->List V->Bool
 | [],[]=>true
 |x::xs,y::ys=>eqV x y&&rQ xs ys
 |_,_=>false
def eqJ (xs ys:List V)(j:Nat):Bool:=match xs[j]?,ys[j]? with
 |some a,some b=>eqV a b
 |_,_=>false
theorem zg:∀xs ys:List V,((List.range (min xs.length ys.length)).all (eqJ xs ys)&&xs.length==ys.length)=rQ xs ys
 | [],[]=>rfl
 | [],_::_=>by simp[rQ]
 |_::_,[]=>by simp[rQ]
 |x::xs,y::ys=>by
  have B:=zg xs ys;have e:min (x::xs).length (y::ys).length=min xs.length ys.length+1:=by simp only[Jb];simp
  rw[e,List.range_succ_eq_map,Lm,List.all_map];have G:(eqJ (x::xs) (y::ys)∘Nat.succ)=eqJ xs ys:=by
   funext j
   simp[eqJ]
  have J:((x::xs).length==(y::ys).length)=(xs.length==ys.length):=by simp
  rw[G,J,Bool.and_assoc,B];rfl
theorem nV:∀xs ys:List Int,rQ (xs.map V.int) (ys.map V.int)=decide (xs=ys)
 | [],[]=>rfl
 | [],_::_=>rfl
 |_::_,[]=>rfl
 |x::xs,y::ys=>by
  show (x==y&&rQ (xs.map V.int) (ys.map V.int))=_;rw[nV xs ys];by_cases h:x=y<;>by_cases g:xs=ys<;>simp[h,g]
def HS (K:Frag)(neg:Bool):R2:=fun x y H Q=>∃p1 p2 xs ys,x=.ref p1/\y=.ref p2/\SqT K H p1 xs/\SqT K H p2 ys/\xs.all jw=true/\ys.all jw=true/\Q (.bl (if neg then !rQ xs ys else rQ xs ys)) H
theorem ye (r:aV xs us)(h:j<us.length):∃x,xs[j]? = some x/\aZ x us[j]:=by
 have e:=r.length;have hj:j<xs.length:=by lia
 obtain⟨u,B,G⟩:=r.get (show xs[j]? = some xs[j] by simp[hj])
 have:us[j]=u:=by
  have h2:us[j]? = some us[j]:=by simp[h]
  rw[h2]at B;exact Option.some.inj B
 exact⟨xs[j],by simp[hj],by rw[this];exact G⟩
theorem FR (Y:cV k X.A):OpR X (compareOp .Eq) (HS X.K false):=by
 intro pins s σ H x y v u Q I rx ry h;obtain⟨p1,p2,xs,ys,rfl,rfl,q1,q2,f1,f2,q⟩:=h;cases rx;cases ry;obtain⟨us,B,t1,_⟩:=I.tuple q1;obtain⟨vs,G,t2,_⟩:=I.tuple q2;have l1:=B.length;have l2:=G.length;refine SeqAt.eq_tupleAt (e:=eqJ xs ys) t1 t2 Y.units0 (fun j h1 h2=>?_) ⟨.bl _,H,I,rfl,?_⟩
 ·simp only[IV]at h1 h2;obtain⟨a,J,ra⟩:=ye B h1;obtain⟨b,O,rb⟩:=ye G h2;have e:eqJ xs ys j=eqV a b:=by unfold eqJ;rw[J,O]
  rw[e];have fa:jw a=true:=LV.mp f1 a (ID J);have fb:jw b=true:=LV.mp f2 b (ID O);exact CF ra rb fa fb
 ·simp only[IV];rw[<-l1,<-l2,zg];exact q
def clo (env:Env)(xs:List Str):List (Str×Addr):=xs.map fun x=>(x,(env.cells.lookup x).getD 0)
def vi (env:Env)(scope:Scope)(xs caps:List Str):Prop:=∀x∈caps,env.kindOf x=some .cell/\(relabel scope env).names.lookup x=some .cell/\x∈xs
theorem xZ:vi env scope xs []:=fun _ h=>by cases h
theorem wK (h1:env.kindOf x=some .cell)(h2:(relabel scope env).names.lookup x=some .cell)(G:x∈xs)(h:vi env scope xs r):vi env scope xs (x::r):=fun y B=>by
 rcases IP.mp B with rfl|B
 ·exact⟨h1,h2,G⟩
 ·exact h y B
theorem CY:∀{xs:List Str},x∈xs->env.cells.lookup x=some c->(clo env xs).lookup x=some c
 | [],h,_=>by cases h
 |y::r,h,e=>by
  unfold clo;rw[IR,LQ];by_cases z:x=y
  ·subst z;simp[e]
  ·have B:(x==y)=false:=by simpa using z
   rw[B];rcases IP.mp h with q | q
   ·exact absurd q z
   ·exact CY q e
theorem uX:∀{xs:List Str},x∈xs->∃c,(clo env xs).lookup x=some c
 | [],h=>by cases h
 |y::r,h=>by
  unfold clo;rw[IR,LQ];by_cases z:x=y
  ·subst z;exact⟨_,by simp;rfl⟩
  ·have B:(x==y)=false:=by simpa using z
   rw[B];rcases IP.mp h with q | q
   ·exact absurd q z
   ·exact uX q
theorem EG (B:(xs.all fun x=>(env.cells.lookup x).isSome)=true)(e:(clo env xs).lookup x=some c):env.cells.lookup x=some c:=by
 induction xs with
 |nil=>cases e
 |cons y r ih=>
  unfold clo at e;rw[IR,LQ]at e;rw[Lm,JC]at B;by_cases z:x=y
  ·subst z;obtain⟨a,G⟩:=I8.mp B.1;rw[G]at e ⊢;simpa using e
  ·have J:(x==y)=false:=by simpa using z
   rw[J]at e;exact ih B.2 e
theorem wJ {σ:St}{vs:List V}{is:List Nat}{N N' B:List Str}{k:Nat}(G:is.map (fun i=>σ[i]?)=vs.map fun v=>some (some v))(J:is.map (N[·]?)=B.map some)(O:N'.drop k=B)(Y:k<=N'.length):
  (List.replicate k (none:OW9)++vs.map some).length=N'.length:=by
 have h1:=I_ List.length G;have h2:=I_ List.length J;have h3:=I_ List.length O;simp only[Iq,JX,Iy,KJ]at *
 lia
theorem EJ {σ:St}{vs:List V}{is:List Nat}{N N' B:List Str}{k i:Nat}{x:Str}{v:V}(O:is.map (fun i=>σ[i]?)=vs.map fun v=>some (some v))(Y:is.map (N[·]?)=B.map some)(hN:N'.drop k=B)
  (e1:N'[i]? = some x) (G:(List.replicate k (none:OW9)++vs.map some)[i]? = some (some v)):∃j:Nat,N[j]? = some x/\x∈B/\σ[j]? = some (some v):=by
 have J:k<=i:=by
  by_cases h:k<=i
  ·exact h
  ·rw[Jj (by simpa using h),K5]at G
   split at G<;>cases G
 rw[Js (by simpa using J),KJ]at G;have e1':B[i-k]? = some x:=by rw[<-hN,Lx,KW J];exact e1
 have ev:vs[i-k]? = some v:=by
  rw[IM]at G;cases z:vs[i-k]? with
  |none=>rw[z]at G;cases G
  |some a=>rw[z]at G;cases G;rfl
 have q1:=I_ (·[i-k]?) O;have q2:=I_ (·[i-k]?) Y;simp only[IM,ev,e1',KY]at q1 q2;cases z:is[i-k]? with
 |none=>rw[z]at q1;cases q1
 |some j=>
  rw[z]at q1 q2;exact⟨j,Option.some.inj q2,ID e1',Option.some.inj q1⟩
theorem AF {σ:St}{vs:List V}{k:Nat}(h:σ.drop k=vs.map some)(i:Nat)(v:V)(e:(List.replicate k (none:OW9)++vs.map some)[i]? = some (some v)):σ[i]? = some (some v):=by
 have B:k<=i:=by
  by_cases h:k<=i
  ·exact h
  ·rw[Jj (by simpa using h),K5]at e
   split at e<;>cases e
 rw[Js (by simpa using B),KJ,<-h,Lx,KW B]at e;exact e
theorem GC {names:List (Str×NameKind)}{xs:List Str}(h:(names.all fun y=> !(y.2 == .cell||y.2 == .free)||xs.contains y.1)=true):∀y∈names,(y.2=.cell\/y.2=.free)->y.1∈xs:=fun y B G=>by
 have z:=LV.mp h y B;rcases G with e | e
 ·rw[e]at z;exact List.contains_iff_mem.mp (by simpa using z)
 ·rw[e]at z;exact List.contains_iff_mem.mp (by simpa using z)
def bu (X:Cx)(N':List Str)(scope:Scope)(xs:List Str)(C:Addr)(s0:Sh9)(H0:Hp)(fp:List Addr)(pins:Pn9):Cx where
 prog:=X.prog
 w:=X.w
 K:=X.K
 mg:=X.mg
 base:=X.base
 A:=X.A
 N:=N'
 s₀:=s0
 H₀:=H0
 env:=compEnvC scope (clo X.env xs) C X.env
 outer:=X.stack
 stack:=X.stack
 ex:=fp
 fn:=fun _=>false
 calm:=X.calm
 pn:=X.pn++pins
 xe:=fun _ _=>False
def nX (σ0:St)(k:Nat)(cs:St)(g:TG)(te:TE)(Q:VK):It->Hp->Prop:=fun J H1=>∀D,H1 D=none->∃W:Nat->Nat->List V->Hp->Prop,(∃m,W 0 m [] (upd H1 D (.lst []))) /\
 ∀i m ys H2,W i m ys H2->H2 D=some (.lst ys)/\((J.stop i H2/\Q (.ref D) H2)\/(J.go i H2/\ys.length<sizeLine /\
  ∀x H',J.yld i H2 x H'->g x σ0 H' fun σ2 H3=>σ2.drop k=cs/\te σ2 H3 fun y H4=>H4 D=some (.lst ys)/\∃m',m'<m/\W (i+1) m' (ys++[y]) (upd H4 D (.lst (ys++[y])))))
def tz (is:List Nat)(k:Nat)(wi:TI)(g:TG)(te:TE):TE:=fun σ H Q=>∃vs:List V,is.map (fun i=>σ[i]?)=vs.map (fun v=>some (some v))/\wi σ H (nX (List.replicate k none++vs.map some) k (vs.map some) g te Q)
def pJ (σ0:St)(k:Nat)(cs:St)(g:TG)(tt:TT)(te:TE)(Q:VK):It->Hp->Prop:=fun J H1=>∀D,H1 D=none->∃W:Nat->Nat->List V->Hp->Prop,(∃m,W 0 m [] (upd H1 D (.lst []))) /\
 ∀i m ys H2,W i m ys H2->H2 D=some (.lst ys)/\((J.stop i H2/\Q (.ref D) H2)\/(J.go i H2/\ys.length<sizeLine /\
  ∀x H',J.yld i H2 x H'->g x σ0 H' fun σ2 H3=>σ2.drop k=cs/\tt σ2 H3 fun b H4=>if b=true then te σ2 H4 fun y H5=>H5 D=some (.lst ys)/\∃m',m'<m/\W (i+1) m' (ys++[y]) (upd H5 D (.lst (ys++[y])))
   else ∃m',m'<m/\W (i+1) m' ys H4))
def kh (is:List Nat)(k:Nat)(wi:TI)(g:TG)(tt:TT)(te:TE):TE:=fun σ H Q=>∃vs:List V,is.map (fun i=>σ[i]?)=vs.map (fun v=>some (some v))/\wi σ H (pJ (List.replicate k none++vs.map some) k (vs.map some) g tt te Q)
def PTs (X:Cx)(ifs:List Expr)(tt:TT):Prop:=∀(pins:Pn9) (s:Sh9) (σ:St) (H:Hp) (Q:Bool->Hp->Prop),Inv X pins σ H s->tt σ H Q->wpAny (model X.prog X.w) X.A (A7 ifs X.env) (fun ok s'=>∃H',Inv X pins σ H' s'/\Q ok H') X.xe s
def Fl:TT:=fun _ H Q=>Q true H
theorem DL (h:PT X c tt):PTs X [c] tt:=fun pins s σ H Q I q=>wpAny_tests_one (h pins s σ H Q I q)
theorem yI:PTs X [] Fl:=fun _ _ _ H _ I q=>wpAny_tests_nil ⟨H,I,q⟩
theorem sR (is:List Nat)(k:Nat)(B:TI)(g:TG)(te:TE):tz is k B g te=kh is k B g Fl te:=by
 unfold tz kh nX pJ Fl;simp only[if_true]
structure oe (X:Cx)(N':List Str)(scope:Scope)(xs caps:List Str)(is:List Nat)(k:Nat):Prop where
 hclos:closureFor scope X.env=pure (clo X.env xs):=by with_unfolding_all rfl
 hin:(xs.all fun x=>(X.env.cells.lookup x).isSome)=true:=by rfl
 hcap:vi X.env scope xs caps:=by repeat (first | exact xZ | refine wK rfl rfl (by decide) ?_)
 his:is.map (X.N[·]?)=caps.map some:=by rfl
 hN:N'.drop k=caps:=by rfl
 hk:k<=N'.length:=by decide
 hallB:((relabel scope X.env).names.all fun y=> !(y.2 == .cell||y.2 == .free)||xs.contains y.1)=true:=by rfl
 hcell:∀y∈scope.names,y.2≠.cell:=by decide +kernel
 hkind:scope.kind=.function:=by rfl
 hnames:∀y∈scope.names,y.2=.local->scope.names.lookup y.1=some .local:=by decide +kernel
 hcalm:X.calm=true:=by rfl
section
theorem sQ {pos':Pos}{use:Option (Value->Sem Unit)}{Qf:EV9}{R:VK}{pins:Pn9}{s:Sh9}{σ:St}{H:Hp}(xs c9:List Str)(is:List Nat)(k:Nat)(ok:oe X N' scope xs c9 is k)(hi:PI X tg iter wi)(hg:∀C s0 H0 fp pins,PG (bu X N' scope xs C s0 H0 fp pins) tg g)(ht:∀C s0 H0 fp pins,PTs (bu X N' scope xs C s0 H0 fp pins) ifs tt)(he:∀C s0 H0 fp pins,PE (bu X N' scope xs C s0 H0 fp pins) elt te)
  (hs:∀x,foldedSetIterable iter X.env x=pure x) (I:Inv X pins σ H s) (h:kh is k wi g tt te σ H R)
  (d0:∀(d C:Addr) (H':Hp) (s':Sh9),Inv X pins σ H' s'->∀m,s'.heap.Ns C m->H' C=none->C≠X.env.locals->X.s₀.heap.objs.size<=C->(∀x c,X.env.cells.lookup x=some c->c≠C)->(∀p∈X.pn++pins,p.1≠C)->R (.ref d) H'->compPost (model X.prog X.w) X.A X.xe use Qf (.ref d) C (.ok .next) s') :
  wpAny (model X.prog X.w) X.A (comprehension (.ListComp elt [⟨tg,iter,ifs,0⟩] scope pos) scope X.env pos' (newList []) false (eval iter X.env) use) Qf X.xe s:=by
 obtain⟨b8,e4,d1,b9,hN,hk,c0,c1,a6,b3,a9⟩:=ok;have b5:=GC c0;obtain⟨vs,c2,h⟩:=h;refine wpAny_comprehension_free rfl hs b8 a6 b3 (thn (hi pins s σ H _ I h) fun v s1 h1=>thn h1 fun g1 O h2=>?_);obtain⟨it,fp,tn,J,H2,e,Y,T,c3,f2,hW⟩:=h2;subst e;refine wpAny_newObj_type (wpAny_newFunctionEnv c1 (by intro y hy;simp at hy) (fun h₁ b0 a8=>?_) a6);dsimp only at b0 a8 ⊢;generalize c4:O.heap.push {cls:=.type "list",dict:=none,data:=.seq ([]:LV9).toArray}=P2 at b0 a8 ⊢
 have hC:P2.objs.size=O.heap.objs.size+1:=by rw[<-c4,LF]
 have G:∀b,b<O.heap.objs.size->b≠P2.objs.size/\b≠O.heap.objs.size:=fun b B=>⟨by rw[hC];exact I0 (KN B),I0 B⟩;have d2:O.heap.objs.size≠P2.objs.size:=by rw[hC];exact I0 (Ki _)
 have a7:∀b o,O.heap.get? b=some o->h₁.get? b=some o:=fun b o e=>a8.extBut b o (G b (IK e)).1 (Ir _ (c4▸Ir _ e));have hD:h₁.get? O.heap.objs.size=some {cls:=.type "list",dict:=none,data:=.seq ([]:LV9).toArray}:=a8.extBut _ _ d2 (Ir _ (c4▸IH _ rfl))
 have d3:H2 O.heap.objs.size=none:=Y.hok.fresh (Iw _);have e5:H2 P2.objs.size=none:=Y.hok.fresh (by rw[hC];exact KI _);have c5:∀b∈fp,b<O.heap.objs.size:=fun b B=>by
  obtain⟨o,e,_⟩:=T.obj _ _ c3 b B;exact IK e
 have c6:∀b,b≠X.env.locals->b∉X.fs->b∉frs X.stack:=fun b n1 n2 z=>by
  rcases IP.mp (Y.stkSub b z) with e|e
  ·exact n1 e
  ·exact n2 e
 obtain⟨W,⟨m0,w0⟩,turn⟩:=hW O.heap.objs.size d3;have a0:∀(x:Str) (c:Addr),(clo X.env xs).lookup x=some c->X.env.cells.lookup x=some c:=fun x c e=>EG e4 e;have b6:∀(x:Str) (c:Addr),(clo X.env xs).lookup x=some c->∃v,O.heap.IsCell c v:=fun x c e=>Y.cell x c (a0 x c e);have e6:∀(x:Str) (c:Addr),(clo X.env xs).lookup x=some c->c<O.heap.objs.size:=fun x c e=>by
  obtain⟨v,o,ho,_⟩:=b6 x c e;exact IK ho
 have ok':(bu X N' scope xs P2.objs.size O H2 fp pins).Ok:=by
  refine⟨Y.ok.mod,a6,Y.ok.glob,Y.ok.blt,?_,fun x y c e e'=>Y.ok.inj x y c (a0 x c e) (a0 y c e'),fun x hx=>?_,(fun x c z _=>by cases z),Y.ok.hd,Y.ok.frames,.inl rfl,fun b B=>⟨(G b (c5 b B)).1,fun x c e=>(f2 b B).2.2.2.2.1 x c (a0 x c e)⟩,Y.bs,IU Y.ok.bsz Y.sz,fun b o e B=>?_,fun b B=>c6 b (f2 b B).2.1 (f2 b B).2.2.1,Y.stack,Y.stkFree⟩
  ·show O.heap.objs.size<=P2.objs.size;rw[hC];exact KI _
  ·have hx':(relabel scope X.env).names.lookup x=some .cell\/(relabel scope X.env).names.lookup x=some .free:=hx;rcases hx' with z | z
   ·exact uX (b5 _ (PySem.mem_of_lookup z) (.inl rfl))
   ·exact uX (b5 _ (PySem.mem_of_lookup z) (.inr rfl))
  ·rcases (f2 b B).2.2.2.1 with z|z
   ·exact Y.ok.noex b o e z
   ·exact absurd (IJ (IK (Y.ok.bs b o e).1) z) (Kb _)
 have I':Inv (bu X N' scope xs P2.objs.size O H2 fp pins) [] (List.replicate k none++vs.map some) (upd H2 O.heap.objs.size (.lst [])) {O with heap:=h₁,toks:=O.toks+([]:List (Str×Value)).length}:=by
  refine⟨ok',rfl,Y.bare,Un.laid a7 (Iw _) d3,⟨_,b0,fun i x v e1 e2 e3=>?_⟩,fun x c e=>?_,?_,fun x c e=>?_,fun p hp=>?_,Y.hok.laid a7 (Iw _) ⟨by simp,[],0,.nil,hD⟩,?_⟩
  ·obtain⟨j,ej,e7,e9⟩:=EJ c2 b9 hN e1 e2;obtain⟨d4,f0,f1⟩:=d1 x e7;obtain⟨m,hn,hl⟩:=Y.loc;obtain⟨u,r,l⟩:=hl j x v ej e9 (.inr (.inl d4));refine⟨u,r,.inr ⟨.inl f0,?_⟩⟩;rcases l with⟨z,_⟩|⟨_,c,ec,⟨o,ho,hd⟩⟩
   ·rw[show X.env.kindOf x=some .cell from d4]at z;cases z
   ·exact⟨c,CY f1 ec,o,a7 _ _ ho,hd⟩
  ·obtain⟨v,o,ho,hd⟩:=b6 x c e;exact⟨v,o,a7 _ _ ho,hd⟩
  ·show upd H2 O.heap.objs.size (.lst []) P2.objs.size=none;rw[aA (Ne.symm d2)];exact e5
  ·show upd H2 O.heap.objs.size (.lst []) c=none;rw[aA (G _ (e6 x c e)).2];exact Y.freeC x c (a0 x c e)
  ·have hp':p∈X.pn++pins:=by
    rcases Iz.mp hp with z|z
    ·exact z
    ·cases z
   obtain⟨a1,a2,a3,a4,a5⟩:=Y.pin p hp';refine⟨a7 _ _ a1,?_,(G _ (IK a1)).1,c6 _ a3 a4,a5⟩;rw[aA (G _ (IK a1)).2];exact a2
  ·show (List.replicate k none++vs.map some).length=N'.length;exact wJ c2 b9 hN hk
 have b1:∀{H':Hp},(∀b∈fp,H' b=none)->∀b∈fp,n_ (bu X N' scope xs P2.objs.size O H2 fp pins) [] H' b:=fun {H'} hn b B=>
  ⟨hn b B,(G b (c5 b B)).1,c6 b (f2 b B).2.1 (f2 b B).2.2.1,.inl B,fun x c e=>(f2 b B).2.2.2.2.1 x c (a0 x c e),fun p hp=>(f2 b B).2.2.2.2.2 p (by
   rcases Iz.mp hp with z|z
   ·exact z
   ·cases z)⟩
 have fin:∀(ys:List V) (σ':St) (H':Hp) (s':Sh9),Inv (bu X N' scope xs P2.objs.size O H2 fp pins) [] σ' H' s'->R (.ref O.heap.objs.size) H'->compPost (model X.prog X.w) X.A X.xe use Qf (.ref O.heap.objs.size) P2.objs.size (.ok .next) s':=by
  intro ys σ' H' s' J1 q;obtain⟨m,hm,_⟩:=id J1.loc;have J2:Inv X pins σ H' s':=Y.call' (s':=s') (ch:=fp) J1.os ⟨J1.base.keep,J1.base.slot,J1.base.free,J1.base.there,J1.base.tups,J1.base.frzs,J1.base.tbls⟩ J1.hok J1.bare fun b B=>⟨(f2 b B).2.2.2.1,(f2 b B).2.1,(f2 b B).2.2.2.2.1,(f2 b B).2.2.2.2.2⟩;have f3:X.s₀.heap.objs.size<=P2.objs.size:=IU Y.sz (by rw[hC];exact KI _);have f4:P2.objs.size≠X.env.locals:=Ne.symm (G _ Y.lt).1;have f5:∀x c,X.env.cells.lookup x=some c->c≠P2.objs.size:=fun x c e=>by
   obtain⟨v,o,ho,_⟩:=Y.cell x c e;exact (G _ (IK ho)).1
  have f6:∀p∈X.pn++pins,p.1≠P2.objs.size:=fun p hp=>(G _ (IK (Y.pin p hp).1)).1;exact d0 _ _ H' s' J2 m hm J1.free f4 f3 f5 f6 q
 have b7:codeAny (model X.prog X.w) X.A (.compLoop (.ListComp elt [⟨tg,iter,ifs,0⟩] scope pos) 0 (.ref it) (.ref O.heap.objs.size) (compEnvC scope (clo X.env xs) P2.objs.size X.env))
   (compPost (model X.prog X.w) X.A X.xe use Qf (.ref O.heap.objs.size) P2.objs.size)
   {O with heap:=h₁,toks:=O.toks+([]:List (Str×Value)).length}:=by
  refine wG (fun n s'=>∃i ys σ' H',σ'.drop k=vs.map some/\Inv (bu X N' scope xs P2.objs.size O H2 fp pins) [] σ' H' s'/\tn i s'.heap/\(∀b∈fp,H' b=none)/\W i n ys H') ?_ m0
   ⟨0,[],List.replicate k none++vs.map some,_,by simp,I',T.keep _ _ _ c3 (fun b B o e=>a7 b o e),fun b B=>by rw[aA (G b (c5 b B)).2];exact (f2 b B).1,w0⟩
  rintro n s3 ⟨i,ys,σ3,H3,f7,J3,d5,d6,w3⟩;obtain⟨hl,q3⟩:=turn i n ys H3 w3;rcases q3 with⟨d7,q⟩ | ⟨go,f8,step⟩
  ·refine thn (T.done (bu X N' scope xs P2.objs.size O H2 fp pins) rfl rfl rfl a9 i [] s3 σ3 H3 _ J3 (b1 d6) d5 d7) fun r s4 ⟨hr,J4⟩=>?_;subst hr;exact fin ys σ3 H3 s4 J4 q
  ·refine thn (T.item (bu X N' scope xs P2.objs.size O H2 fp pins) rfl rfl rfl a9 i [] s3 σ3 H3 _ J3 (b1 d6) d5 go) fun r s4 ⟨u,hr,h4⟩=>?_;subst hr;refine thn h4 fun _ s5 ⟨x,H5,J5,r5,y5,b2,f9⟩=>?_;have J5':=J5.pinned (b1 f9) (T.obj _ _ b2);have J6:Inv (bu X N' scope xs P2.objs.size O H2 fp pins) ([]++qo fp s5.heap) (List.replicate k none++vs.map some) H5 s5:=J5'.weak (by rw[J5'.len];exact wJ c2 b9 hN hk) (AF f7);refine Jy (hg _ _ _ _ _ _ s5 _ H5 x u _ J6 r5 (step x H5 y5)) (fun _ s6 ⟨σ6,H6,J7,d8,q6⟩=>?_) fun _ _ z=>False.elim z;refine Jy (ht _ _ _ _ _ _ s6 σ6 H6 _ J7 q6) (fun ok d9 ⟨e0,c7,b4⟩=>?_) fun _ _ z=>False.elim z;cases ok with
   |false=>
    rw[if_neg (by decide)];rw[if_neg (by decide)]at b4;obtain⟨m',c8,w7⟩:=b4;have pk:∀b∈fp,∀o,s5.heap.get? b=some o->d9.heap.get? b=some o/\e0 b=none:=fun b B o e=>
     let z:=c7.pin (b,o) (IW _ (IW _ (jf B e)))
     ⟨z.1,z.2.1⟩
    refine⟨m',c8,i+1,ys,σ6,_,d8,c7.unpinned,T.keep _ _ _ b2 fun b B o e=>(pk b B o e).1,fun b B=>?_,w7⟩;obtain⟨o,e,_⟩:=T.obj _ _ b2 b B;exact (pk b B o e).2
   |true=>
    rw[if_pos rfl];rw[if_pos rfl]at b4;refine Jy (he _ _ _ _ _ _ d9 σ6 e0 _ c7 b4) (fun yv s7 ⟨y,H7,J8,r7,q7⟩=>?_) fun _ _ z=>False.elim z;obtain⟨g0,m',c8,w7⟩:=q7;refine Jy (sF (X:=bu X N' scope xs P2.objs.size O H2 fp pins) _ s7 σ6 H7 (.ref O.heap.objs.size) [y] (.ref O.heap.objs.size) [yv] (fun v H8=>H8=upd H7 O.heap.objs.size (.lst (ys++[y]))) J8 rfl (.cons r7 .nil) ⟨_,ys,y,rfl,rfl,g0,f8,rfl⟩) (fun _ s8 ⟨v8,H8,J9,r8,e8⟩=>?_) fun _ _ z=>False.elim z;subst e8;have pk:∀b∈fp,∀o,s5.heap.get? b=some o->s8.heap.get? b=some o/\upd H7 O.heap.objs.size (.lst (ys++[y])) b=none:=fun b B o e=>
     let z:=J9.pin (b,o) (IW _ (IW _ (jf B e)))
     ⟨z.1,z.2.1⟩
    refine⟨m',c8,i+1,ys++[y],σ6,_,d8,J9.unpinned,T.keep _ _ _ b2 fun b B o e=>(pk b B o e).1,fun b B=>?_,w7⟩;obtain⟨o,e,_⟩:=T.obj _ _ b2 b B;exact (pk b B o e).2
 exact codeAny_compStart_list b7 (T.self X.A 0 {O with heap:=h₁,toks:=O.toks+([]:List (Str×Value)).length} _ _ (T.keep _ _ _ c3 fun b B o e=>a7 b o e) b7)
theorem vS (xs B:List Str)(is:List Nat)(k:Nat)(ok:oe X N' scope xs B is k)(hi:PI X tg iter wi)(G:∀C s0 H0 fp pins,PG (bu X N' scope xs C s0 H0 fp pins) tg g)(O:∀C s0 H0 fp pins,PTs (bu X N' scope xs C s0 H0 fp pins) ifs tt)(Y:∀C s0 H0 fp pins,PE (bu X N' scope xs C s0 H0 fp pins) elt te)
  (hs:∀x,foldedSetIterable iter X.env x=pure x:=by intro _;rfl):PE X (.ListComp elt [⟨tg,iter,ifs,0⟩] scope pos) (kh is k wi g tt te):=by
 intro pins s σ H Q I h;rw[eval_ListComp];exact sQ (use:=none) (Qf:=EP X pins σ Q) xs B is k ok hi G O Y hs I h fun d C H' s' J m hm f nL s0 nC nP q=>⟨m,hm,fun h' sb=>⟨.ref d,H',J.turned (t':=s'.toks) (fun b o hb e=>(sb.2 b hb).trans e) f nL (.inr s0) nC nP,rfl,q⟩⟩
theorem jU (xs B:List Str)(is:List Nat)(k:Nat)(ok:oe X N' scope xs B is k)(hi:PI X tg iter wi)(G:∀C s0 H0 fp pins,PG (bu X N' scope xs C s0 H0 fp pins) tg g)(J:∀C s0 H0 fp pins,PE (bu X N' scope xs C s0 H0 fp pins) elt te)
  (O:∀x,foldedSetIterable iter X.env x=pure x:=by intro _;rfl):PE X (.ListComp elt [⟨tg,iter,[],0⟩] scope pos) (tz is k wi g te):=by
 rw[sR];exact vS xs B is k ok hi G (fun _ _ _ _ _=>yI) J O
theorem zY (xs B:List Str)(is:List Nat)(k:Nat)(ok:oe X N' scope xs B is k)(hi:PI X tg iter wi)(G:∀C s0 H0 fp pins,PG (bu X N' scope xs C s0 H0 fp pins) tg g)(J:∀C s0 H0 fp pins,PT (bu X N' scope xs C s0 H0 fp pins) cnd tt)(O:∀C s0 H0 fp pins,PE (bu X N' scope xs C s0 H0 fp pins) elt te)
  (Y:∀x,foldedSetIterable iter X.env x=pure x:=by intro _;rfl):PE X (.ListComp elt [⟨tg,iter,[cnd],0⟩] scope pos) (kh is k wi g tt te) :=
 vS xs B is k ok hi G (fun C s0 H0 fp pins=>DL (J C s0 H0 fp pins)) O Y
end
mutual
inductive Dat (H:Hp):V->PyData->Prop
 |non:Dat H .non .none
 |bl (b:Bool):Dat H (.bl b) (.bool b)
 |int (i:Int):Dat H (.int i) (.int i)
 |str (x:Str):Dat H (.str x) (.str x)
 |lst {a:Addr} {xs:List V} {ds:List PyData}:H a=some (.lst xs)->Dats H xs ds->Dat H (.ref a) (.list ds)
 |tup {a:Addr} {xs:List V} {ds:List PyData}:H a=some (.tup xs)->Dats H xs ds->Dat H (.ref a) (.tuple ds)
inductive Dats (H:Hp):List V->List PyData->Prop
 |nil:Dats H [] []
 |cons {x:V} {xs:List V} {d:PyData} {ds:List PyData}:Dat H x d->Dats H xs ds->Dats H (x::xs) (d::ds)
end
section
mutual
theorem Dat.reads (ok:HOk P w H h):∀{x:V} {d:PyData} {u:Value},Dat H x d->aZ x u->∃as,Reads h u d as
 |_,_,u,.non,r=>by cases (show u=Value.none from r);exact⟨_,.none⟩
 |_,_,u,.bl b,r=>by cases (show u=Value.bool b from r);exact⟨_,.bool b⟩
 |_,_,u,.int i,r=>by obtain⟨t,rfl⟩:=r;exact⟨_,.int i t⟩
 |_,_,u,.str x,r=>by obtain⟨t,rfl⟩:=r;exact⟨_,.str x t⟩
 |_,_,u,.lst (a:=a) e q,r=>by
  cases (show u=Value.ref a from r);obtain⟨_,its,n,B,g⟩:=ok a _ e;obtain⟨as,G⟩:=Dats.reads ok q B;exact⟨_,.list g rfl rfl G⟩
 |_,_,u,.tup (a:=a) e q,r=>by
  cases (show u=Value.ref a from r);obtain⟨_,its,B,o,g,c,n,J⟩:=ok a _ e;obtain⟨as,G⟩:=Dats.reads ok q B;exact⟨_,.tuple g c J G⟩
theorem Dats.reads (ok:HOk P w H h):∀{xs:List V} {ds:List PyData} {us:LV9},Dats H xs ds->aV xs us->∃as,ReadsAll h us ds as
 |_,_,_,.nil,.nil=>⟨_,.nil⟩
 |_,_,_,.cons p q,.cons r s=>by
  obtain⟨as,x⟩:=Dat.reads ok p r;obtain⟨bs,y⟩:=Dats.reads ok q s;exact⟨_,.cons x y⟩
end
end
def FB (neg:Bool):R2:=fun x y H Q=>∃d1 d2,Dat H x d1/\Dat H y d2/\SeqAt.shaped d1=true/\SeqAt.shaped d2=true/\Q (.bl (if neg then !PyData.eqv d1 d2 else PyData.eqv d1 d2)) H
section
theorem B0 (B:cV k X.A):OpR X (compareOp .Eq) (FB false):=by
 intro pins s σ H x y v u Q I G J h;obtain⟨d1,d2,p,q,O,Y,h⟩:=h;obtain⟨as,r1⟩:=p.reads I.hok G;obtain⟨bs,r2⟩:=q.reads I.hok J;exact eq_dataH r1 r2 O Y B.units ⟨.bl _,H,I,rfl,h⟩
theorem FO (B:cV k X.A):OpR X (compareOp .NotEq) (FB true):=by
 intro pins s σ H x y v u Q I G J h;obtain⟨d1,d2,p,q,O,Y,h⟩:=h;obtain⟨as,r1⟩:=p.reads I.hok G;obtain⟨bs,r2⟩:=q.reads I.hok J;exact ne_dataH r1 r2 O Y B.units ⟨.bl _,H,I,rfl,h⟩
end
section
variable {K:Frag}
theorem qM (B:X.K=K:=by rfl):IxR X (G2 K):=B▸bh
theorem pA (B:X.K=K:=by rfl):IxR X (G0 K):=B▸aI
end
section
variable {K:Frag}{σ0 cs:St}{k:Nat}{g:TG}{te:TE}{tt:TT}{H1:Hp}{Q:VK}
theorem qX (n:Nat)(gv:Nat->V->Prop)(Pv:Addr->Nat->List V->Hp->Prop)(hn:n<=sizeLine)
  (O:∀D i ys H,i<n->Pv D i ys H->J.go i H) (Y:∀D ys H,Pv D n ys H->J.stop n H) (hy:∀D i ys H x H',i<n->Pv D i ys H->J.yld i H x H'->H'=H/\gv i x)
  (hl:∀D i ys H,Pv D i ys H->H D=some (.lst ys)/\ys.length<=i) (h0:∀D,H1 D=none->Pv D 0 [] (upd H1 D (.lst [])))
  (hs:∀D i x ys H,i<n->gv i x->H1 D=none->Pv D i ys H->g x σ0 H fun σ2 H3=>σ2.drop k=cs/\te σ2 H3 fun y H4=>H4 D=some (.lst ys)/\Pv D (i+1) (ys++[y]) (upd H4 D (.lst (ys++[y]))))
  (hd:∀D ys H,H1 D=none->Pv D n ys H->Q (.ref D) H) (mono:∀x σ H (R G:SP9),(∀σ' H',R σ' H'->G σ' H')->g x σ H R->g x σ H G)
  (B:∀σ H (R G:VK),(∀v H',R v H'->G v H')->te σ H R->te σ H G):nX σ0 k cs g te Q J H1:=by
 intro D hD;refine⟨fun i m ys H=>m=n-i/\i<=n/\Pv D i ys H,⟨n,rfl,IG _,h0 D hD⟩,?_⟩;rintro i m ys H ⟨rfl,hi,p⟩;obtain⟨e1,e2⟩:=hl D i ys H p;refine⟨e1,?_⟩;by_cases hlt:i<n
 ·refine .inr ⟨O D i ys H hlt p,by lia,fun x H' y=>?_⟩;obtain⟨rfl,hx⟩:=hy D i ys H x H' hlt p y;refine mono _ _ _ _ _ (fun σ2 H3 ⟨z1,z2⟩=>⟨z1,B _ _ _ _ (fun v H4 ⟨z3,z4⟩=>⟨z3,n-(i+1),by lia,rfl,hlt,z4⟩) z2⟩) (hs D i x ys H' hlt hx hD p)
 ·have e:i=n:=by lia
  subst e;exact .inl ⟨Y D ys H p,hd D ys H hD p⟩
theorem AD (n:Nat)(gv:Nat->V->Prop)(Pv:Addr->Nat->List V->Hp->Prop)(hn:n<=sizeLine)
  (a0:∀D i ys H,i<n->Pv D i ys H->J.go i H) (a1:∀D ys H,Pv D n ys H->J.stop n H) (hy:∀D i ys H x H',i<n->Pv D i ys H->J.yld i H x H'->H'=H/\gv i x)
  (hl:∀D i ys H,Pv D i ys H->H D=some (.lst ys)/\ys.length<=i) (h0:∀D,H1 D=none->Pv D 0 [] (upd H1 D (.lst [])))
  (hs:∀D i x ys H,i<n->gv i x->H1 D=none->Pv D i ys H->g x σ0 H fun Y H3=>Y.drop k=cs/\tt Y H3 fun b H4=>if b=true then te Y H4 fun y H5=>H5 D=some (.lst ys)/\Pv D (i+1) (ys++[y]) (upd H5 D (.lst (ys++[y]))) else Pv D (i+1) ys H4)
  (hd:∀D ys H,H1 D=none->Pv D n ys H->Q (.ref D) H) (mono:∀x σ H (R B:SP9),(∀σ' H',R σ' H'->B σ' H')->g x σ H R->g x σ H B)
  (G:∀σ H (R B:VK),(∀v H',R v H'->B v H')->te σ H R->te σ H B) (O:∀σ H (R B:Bool->Hp->Prop),(∀v H',R v H'->B v H')->tt σ H R->tt σ H B):pJ σ0 k cs g tt te Q J H1:=by
 intro D hD;refine⟨fun i m ys H=>m=n-i/\i<=n/\Pv D i ys H,⟨n,rfl,IG _,h0 D hD⟩,?_⟩;rintro i m ys H ⟨rfl,hi,p⟩;obtain⟨e1,e2⟩:=hl D i ys H p;refine⟨e1,?_⟩;by_cases hlt:i<n
 ·refine .inr ⟨a0 D i ys H hlt p,by lia,fun x H' y=>?_⟩;obtain⟨rfl,hx⟩:=hy D i ys H x H' hlt p y;refine mono _ _ _ _ _ (fun Y H3 ⟨z1,z2⟩=>⟨z1,O _ _ _ _ (fun b H4 z=>?_) z2⟩) (hs D i x ys H' hlt hx hD p);cases b with
  |true=>
   rw[if_pos rfl]at z ⊢;exact G _ _ _ _ (fun v H5 ⟨z3,z4⟩=>⟨z3,n-(i+1),by lia,rfl,hlt,z4⟩) z
  |false=>
   rw[if_neg (by decide)]at z ⊢;exact⟨n-(i+1),by lia,rfl,hlt,z⟩
 ·have e:i=n:=by lia
  subst e;exact .inl ⟨a1 D ys H p,hd D ys H hD p⟩
theorem lN (xs:List V)(Pv:Addr->Nat->List V->Hp->Prop)(hn:xs.length<=sizeLine)(J:∀D i ys H,Pv D i ys H->SqL K H a xs)
  (hl:∀D i ys H,Pv D i ys H->H D=some (.lst ys)/\ys.length<=i) (h0:∀D,H1 D=none->Pv D 0 [] (upd H1 D (.lst [])))
  (hs:∀D i x ys H,xs[i]? = some x->H1 D=none->Pv D i ys H->g x σ0 H fun O H3=>O.drop k=cs/\te O H3 fun y Y=>Y D=some (.lst ys)/\Pv D (i+1) (ys++[y]) (upd Y D (.lst (ys++[y]))))
  (hd:∀D ys H,H1 D=none->Pv D xs.length ys H->Q (.ref D) H) (mono:∀x σ H (R G:SP9),(∀σ' H',R σ' H'->G σ' H')->g x σ H R->g x σ H G)
  (B:∀σ H (R G:VK),(∀v H',R v H'->G v H')->te σ H R->te σ H G):nX σ0 k cs g te Q (Itl K a) H1 :=
 qX xs.length (fun i x=>xs[i]? = some x) Pv hn (fun D i ys H hi p=>⟨xs,xs[i],J D i ys H p,by simp[hi]⟩) (fun D ys H p=>⟨xs,J D _ ys H p,Iw _⟩)
  (fun D i ys H x H' hi p y=>⟨y.1,y.2 xs (J D i ys H p)⟩) hl h0 (fun D i x ys H hi hx hD p=>hs D i x ys H hx hD p) hd mono B
end
inductive Tr where
 |col (i:Int)
 |four (a b c d:Tr)
deriving DecidableEq
def Tr.data:Tr->PyData
 | .col i=>.int i
 | .four a b c d=>.tuple [a.data,b.data,c.data,d.data]
def Tr.deep:Tr->Nat
 | .col _=>0
 | .four a b c d=>max a.deep (max b.deep (max c.deep d.deep))+1
def Tr.isCol:Tr->Bool
 | .col _=>true
 | .four ..=>false
inductive cM (H:Hp):V->Tr->Prop
 |col (i:Int):cM H (.int i) (.col i)
 |four {p:Addr} {a b c d:V} {ta tb tc td:Tr}:H p=some (.tup [a,b,c,d])->cM H a ta->cM H b tb->cM H c tc->cM H d td->cM H (.ref p) (.four ta tb tc td)
def bn (H H':Hp):Prop:=∀b xs,H b=some (.tup xs)->H' b=some (.tup xs)
theorem ah.tups (s:ah H H'):bn H H':=fun b xs e=>s b _ e
theorem bn.refl (H:Hp):bn H H:=fun _ _ e=>e
theorem bn.trans (s:bn H H')(t:bn H' H''):bn H H'':=fun b xs e=>t b xs (s b xs e)
theorem bn.lst (e:H l=some (.lst xs)):bn H (upd H l (.lst ys)):=fun b zs q=>by
 rw[aA (yR q e (by intro z;cases z))];exact q
theorem cM.up (s:bn H H'):∀{v:V} {t:Tr},cM H v t->cM H' v t
 |_,_,.col i=>.col i
 |_,_,.four e a b c d=>.four (s _ _ e) (cM.up s a) (cM.up s b) (cM.up s c) (cM.up s d)
theorem cM.dat:∀{v:V} {t:Tr},cM H v t->Dat H v t.data
 |_,_,.col i=>.int i
 |_,_,.four e a b c d=>.tup e (.cons a.dat (.cons b.dat (.cons c.dat (.cons d.dat .nil))))
theorem Tr.eqv:∀t u:Tr,PyData.eqv t.data u.data=decide (t=u)
 | .col i,.col j=>by
  show (i==j)=_;by_cases h:i=j<;>simp[h]
 | .col i,.four ..=>by
  show false=_;simp
 | .four ..,.col j=>by
  show false=_;simp
 | .four a b c d,.four a' b' c' d'=>by
  show (PyData.eqv a.data a'.data&&(PyData.eqv b.data b'.data&&(PyData.eqv c.data c'.data&&(PyData.eqv d.data d'.data&&true))))=_;rw[Tr.eqv a a',Tr.eqv b b',Tr.eqv c c',Tr.eqv d d'];by_cases h1:a=a'<;>by_cases h2:b=b'<;>by_cases h3:c=c'<;>by_cases h4:d=d'<;>simp[h1,h2,h3,h4]
theorem Tr.lay:∀t:Tr,t.data.canLay0=true
 | .col i=>rfl
 | .four a b c d=>by
  show (a.data.canLay0&&(b.data.canLay0&&(c.data.canLay0&&(d.data.canLay0&&true))))=true;rw[Tr.lay a,Tr.lay b,Tr.lay c,Tr.lay d];rfl
theorem Tr.depth:∀t:Tr,t.data.depth=t.deep
 | .col i=>rfl
 | .four a b c d=>by
  show max a.data.depth (max b.data.depth (max c.data.depth (max d.data.depth 0)))+1=_;rw[Tr.depth a,Tr.depth b,Tr.depth c,Tr.depth d,Nat.max_zero];rfl
theorem Tr.shaped {t:Tr}(h:t.deep<=64):SeqAt.shaped t.data=true:=by
 unfold SeqAt.shaped;rw[Tr.lay,Tr.depth,IC h];rfl
theorem cM.ty {K:Frag}(h:cM H v t):lR K H v (if t.isCol then .type "int" else .type "tuple"):=by
 cases h with
 |col i=>exact .int i
 |four e=>exact .tup e
section
theorem DO (xs B:List Str)(is:List Nat)(k:Nat)(ok:oe X N' scope xs B is k)(hi:PI X tg iter wi)(hg:∀C s0 H0 fp pins,PG (bu X N' scope xs C s0 H0 fp pins) tg g)(ht:∀C s0 H0 fp pins,PTs (bu X N' scope xs C s0 H0 fp pins) ifs tt)(he:∀C s0 H0 fp pins,PE (bu X N' scope xs C s0 H0 fp pins) elt te)
  (G:X.N.Nodup) (O:X.N[i0]? = some y) (hy:Loc X.env.scope y) (Y:swapsWith (.ListComp elt [⟨tg,iter,ifs,0⟩] scope pos) (some (.Name y py)) spos.line X.env=pure true) (hf:X.fn y=true\/X.env.scope.names.lookup y=some .local)
  (hs:∀x,foldedSetIterable iter X.env x=pure x:=by intro _;rfl):PS X (.Assign [.Name y py] (.ListComp elt [⟨tg,iter,ifs,0⟩] scope pos) spos) (Bf (kh is k wi g tt te) (qO i0)):=by
 intro pins s σ H D0 I h;rw[exec_Assign_Name_used _ _ _ _ Y];refine Ip (wpAny_standAt (Ip ?_));refine Ip (Jy (sQ (use:=some (assign (.Name y py) X.env)) (Qf:=fun _ s'=>SP X pins D0 .next s') xs B is k ok hi hg ht he hs I h fun d C H' s' J m hm f nL s0 nC nP q=>?_) (fun _ s' hq=>IB (IB hq)) fun _ _ e=>e);refine wpAny_assign_Name (r6 J G O hy (v:=.ref d) rfl (fun s5 J5 a0=>?_) hf);obtain⟨a,sb,ha⟩:=a0;have a1:C≠a:=by
  rcases ha with rfl|ha
  ·exact nL
  ·exact Ne.symm (nC _ _ ha)
 exact⟨m,hm.sameBut sb a1,fun h' a2=>⟨_,H',J5.turned (t':=s5.toks) (fun b o hb e=>(a2.2 b hb).trans e) f nL (.inr s0) nC nP,q⟩⟩
theorem DP (xs B:List Str)(is:List Nat)(k:Nat)(ok:oe X N' scope xs B is k)(hi:PI X tg iter wi)(Y:∀C s0 H0 fp pins,PG (bu X N' scope xs C s0 H0 fp pins) tg g)(he:∀C s0 H0 fp pins,PE (bu X N' scope xs C s0 H0 fp pins) elt te)
  (G:X.N.Nodup) (J:X.N[i0]? = some y) (hy:Loc X.env.scope y) (O:swapsWith (.ListComp elt [⟨tg,iter,[],0⟩] scope pos) (some (.Name y py)) spos.line X.env=pure true:=by rfl) (hf:X.fn y=true\/X.env.scope.names.lookup y=some .local:=by first | exact .inl rfl | exact .inr rfl | assumption)
  (hs:∀x,foldedSetIterable iter X.env x=pure x:=by intro _;rfl):PS X (.Assign [.Name y py] (.ListComp elt [⟨tg,iter,[],0⟩] scope pos) spos) (Bf (tz is k wi g te) (qO i0)):=by
 rw[sR];exact DO xs B is k ok hi Y (fun _ _ _ _ _=>yI) he G J hy O hf hs
end
section
theorem DT {K:Frag}(G:X.calm=true)(h:PGs X es t)(J:X.K=K:=by rfl)
  (O:(assignEach es X.env).length=n:=by rfl) (B:(assignEach es X.env).findIdx? (·.1)=none:=by rfl):PG X (.Tuple es k pos) (Hn K n t):=by
 subst J;exact fK G h O B
end
def HJ (t:TS):TS:=fun D σ H=>∃Pv:SP9,t {D with nx:=Pv} σ H/\∀σ' H',Pv σ' H'->D.nx σ' H'
section
variable {st:Stmt}{t:TS}
theorem jS (h:PS X st t):PS X st (HJ t):=by
 intro pins s σ H D I ⟨Pv,h1,h2⟩;refine thn (h pins s σ H {D with nx:=Pv} I h1) fun f J q=>?_;cases f with
 |next=>
  obtain⟨B,H',G,q⟩:=q;exact⟨B,H',G,h2 _ _ q⟩
 |ret v=>exact q
 |brk=>exact q
 |cont=>exact q
end
open PySem.Calls
section
theorem AC (Pv:Addr->Nat->List V->Hp->Prop)(Y:n<=sizeLine)
  (hl:∀D i ys H,Pv D i ys H->H D=some (.lst ys)/\ys.length<=i) (h0:∀D,H1 D=none->Pv D 0 [] (upd H1 D (.lst [])))
  (hs:∀D i ys H,i<n->H1 D=none->Pv D i ys H->g (g' i) σ0 H fun J H3=>J.drop k=cs/\te J H3 fun y O=>O D=some (.lst ys)/\Pv D (i+1) (ys++[y]) (upd O D (.lst (ys++[y]))))
  (hd:∀D ys H,H1 D=none->Pv D n ys H->Q (.ref D) H) (mono:∀x σ H (R G:SP9),(∀σ' H',R σ' H'->G σ' H')->g x σ H R->g x σ H G)
  (B:∀σ H (R G:VK),(∀v H',R v H'->G v H')->te σ H R->te σ H G):nX σ0 k cs g te Q (Itg n g') H1 :=
 qX n (fun i x=>x=g' i) Pv Y (fun D i ys H hi p=>hi) (fun D ys H p=>Iw _)
  (fun D i ys H x H' hi p y=>y) hl h0 (fun D i x ys H hi hx hD p=>hx▸hs D i ys H hi hD p) hd mono B
theorem ou {lo:Int}(Pv:Addr->Nat->List V->Hp->Prop)(Y:n<=sizeLine)
  (hl:∀D i ys H,Pv D i ys H->H D=some (.lst ys)/\ys.length<=i) (h0:∀D,H1 D=none->Pv D 0 [] (upd H1 D (.lst [])))
  (hs:∀D i ys H,i<n->H1 D=none->Pv D i ys H->g (.int (lo+i)) σ0 H fun J H3=>J.drop k=cs/\te J H3 fun y O=>O D=some (.lst ys)/\Pv D (i+1) (ys++[y]) (upd O D (.lst (ys++[y]))))
  (hd:∀D ys H,H1 D=none->Pv D n ys H->Q (.ref D) H) (mono:∀x σ H (R G:SP9),(∀σ' H',R σ' H'->G σ' H')->g x σ H R->g x σ H G)
  (B:∀σ H (R G:VK),(∀v H',R v H'->G v H')->te σ H R->te σ H G):nX σ0 k cs g te Q (Itr lo n) H1 :=
 qX n (fun i x=>x=.int (lo+i)) Pv Y (fun D i ys H hi p=>hi) (fun D ys H p=>Iw _)
  (fun D i ys H x H' hi p y=>y) hl h0 (fun D i x ys H hi hx hD p=>hx▸hs D i ys H hi hD p) hd mono B
end
end L2
namespace Qs
open PySem L2
theorem nQ (z:Str):z.length=z.cps.toList.length:=by
 show z.cps.size=z.cps.toList.length;rw[IN]
def IsC (z:Str):Prop:=∀c∈z.cps.toList,48<=c/\c<=51
def dig (z:Str):List Nat:=z.cps.toList.map (· - 48)
def cxs (ds:List Nat):Nat:=ds.foldl (fun a d=>a*2+d%2) 0
def cys (ds:List Nat):Nat:=ds.foldl (fun a d=>a*2+d/2) 0
theorem qV (ds:List Nat)(d:Nat):cxs (ds++[d])=cxs ds*2+d%2:=by simp[cxs]
theorem qU (ds:List Nat)(d:Nat):cys (ds++[d])=cys ds*2+d/2:=by simp[cys]
theorem dO (z:Str):(dig z).length=z.length:=by simp[dig,nQ]
theorem uN (h:i<z.length):(dig z)[i]? = some (z.cps.getD i 0-48):=by
 have h':i<z.cps.size:=h;simp[dig,JT,h']
theorem mW (h:i<z.length):(dig z).take (i+1)=(dig z).take i++[z.cps.getD i 0-48]:=by
 rw[Kl,uN h];rfl
theorem tJ (hz:IsC z)(h:i<z.length):48<=z.cps.getD i 0/\z.cps.getD i 0<=51:=by
 have h':i<z.cps.size:=h;refine hz _ ?_;have e:z.cps.getD i 0=z.cps[i]:=by simp[JT,h']
 rw[e];exact Array.getElem_mem_toList h'
def one (d:Nat):Str:=⟨#[48+d]⟩
theorem mr (hz:IsC z)(h:i<z.length):∃d,d<4/\sgn z i=one d/\z.cps.getD i 0-48=d:=by
 obtain⟨h1,h2⟩:=tJ hz h;refine⟨z.cps.getD i 0-48,by lia,?_,rfl⟩;unfold sgn one;have e:48+(z.cps.getD i 0-48)=z.cps.getD i 0:=by lia
 rw[e]
theorem four {P:Nat->Prop}(B:P 0)(h1:P 1)(h2:P 2)(G:P 3){d:Nat}(h:d<4):P d:=by
 rcases d with _|_|_|_|d
 ·exact B
 ·exact h1
 ·exact h2
 ·exact G
 ·lia
theorem mR {d:Nat}(h:d<4):PySem.intText? (one d)=some (d:Int) :=
 four (P:=fun d=>PySem.intText? (one d)=some (d:Int)) (by decide +kernel) (by decide +kernel) (by decide +kernel) (by decide +kernel) h
theorem IsC.nil:IsC ⟨#[]⟩:=fun c h=>by simp at h
theorem IsC.app (B:IsC a)(G:IsC b):IsC (a++b):=fun c h=>by
 have e:(a++b).cps.toList=a.cps.toList++b.cps.toList:=by
  show (a.cps++b.cps).toList=_;simp
 rw[e]at h;rcases Iz.mp h with h | h
 ·exact B c h
 ·exact G c h
theorem IsC.one (h:d<4):IsC (one d):=fun c B=>by
 have e:c=48+d:=by simpa[Qs.one] using B
 lia
end Qs
namespace L2
open PySem PySem.Spec PyProof.Rows
variable {X:Cx}
section
theorem yM (h:∃t,X.mg x=some (.int i t))(B:Gl X x:=by rfl)(G:(x==("__debug__" : Str))=false:=by decide):PE X (.Name x pos) (tC (.int i)):=by
 obtain⟨t,h⟩:=h;exact ko B h ⟨t,rfl⟩ G
theorem DY (h:∃t,X.mg x=some (.str z t))(B:Gl X x:=by rfl)(G:(x==("__debug__" : Str))=false:=by decide):PE X (.Name x pos) (tC (.str z)):=by
 obtain⟨t,h⟩:=h;exact ko B h ⟨t,rfl⟩ G
end
section
theorem cm (B:X.mg x=none)(G:bootBuiltins x=some (.type n))(J:Gl X x:=by rfl)(O:x ≠ "__name__" := by decide)(Y:(x==("__debug__" : Str))=false:=by decide):PE X (.Name x pos) (tC (.ty n)) :=
 D5 J B G rfl O Y
end
theorem ah.new (h:H p=none)(o:HO):ah H (upd H p o):=fun b u q=>by rw[aA (bM q h)];exact q
theorem ah.set (h:ah H H')(B:H p=none)(o:HO):ah H (upd H' p o):=fun b u q=>by rw[aA (bM q B)];exact h b u q
theorem HV (h:k<=63):-(2^64)<((2^k:Nat):Int)/\((2^k:Nat):Int)<2^64:=by
 have h1:=Kj (show 0<2 by decide) h;generalize (2^k:Nat)=m at h1
 lia
theorem small (h:n<=1000):n<=sizeLine:=JW (cQ h)
def uk:PySem.Expr->Bool
 | .Starred _ _=>false
 |_=>true
theorem Dr (h:uk e=true):starEach (e::es) env=(false,eval e env)::starEach es env:=by
 cases e<;>first | rfl | (cases h)
theorem HX (B:PE X e te)(G:PA X es t)(h:uk e=true:=by rfl):PA X (e::es) (Bb te t):=aa B G (Dr h)
theorem BQ (B:PE X k tk)(G:PE X v tv):PE X (.Dict [some k] [v] pos) (EV [(tk,tv)]) :=
 DZ (BK B G DR) rfl rfl (by simp) (by show 1<=15;decide)
structure PAx (X:Cx)(es:List PySem.Expr)(t:TA):Prop where
 h:PA X es t
section
theorem ak:PAx X [] GO:=⟨ae⟩
theorem am (B:PE X e te)(G:PAx X es t)(h:uk e=true:=by rfl):PAx X (e::es) (Bb te t):=⟨HX B G.h h⟩
theorem az {x1}(h:PAx X es t):PE X (.Tuple es x1 pos) (GK t):=FF h.h
theorem bg (h:PAx X es t):PE X (.List es pos) (GR t):=FH h.h
end
open PySem.Calls
def Ec:PySem.Expr->Bool
 | .ListComp _ _ _ _=>false
 | .SetComp _ _ _ _=>false
 | .DictComp _ _ _ _ _=>false
 |_=>true
theorem cG (h:Ec e=true):swapsWith e t l env=pure false:=by
 cases e<;>first | rfl | (cases h)
theorem yd:∀(xs:List V) (us:LV9),xs.length=us.length->(∀(i:Nat) (x:V) (u:Value),xs[i]? = some x->us[i]? = some u->aZ x u)->aV xs us
 | [],[],_,_=>.nil
 | [],_::_,h,_=>by simp at h
 |_::_,[],h,_=>by simp at h
 |x::xs,u::us,h,r=>.cons (r 0 x u rfl rfl) (yd xs us (by simpa using h) fun i y v B G=>r (i+1) y v (by simpa using B) (by simpa using G))
open PySem.W
theorem kC:bootBuiltins "sorted" = some (.builtin "sorted"):=by decide +kernel
section
theorem jt {h:Heap}{vs:LV9}{out:Array Value}{b:Addr}{o:Obj}(e:h.get? b=some o):(sortedHeap (h.push (seqObj "list" vs.toArray 0)) h.objs.size vs out).get? b=some o:=by
 rw[sortedHeap_old (I0 (IK e)) (by rw[size_push'];exact KN (IK e))];exact Ir _ e
theorem kJ {h:Heap}{vs:LV9}{out:Array Value}:∃n,(sortedHeap (h.push (seqObj "list" vs.toArray 0)) h.objs.size vs out).get? h.objs.size=some (seqObj "list" out n) :=
 sortedHeap_at (n:=0) (IH _ rfl)
end
end L2
namespace L2
open PySem PySem.Spec PySem.Calls PyProof.Rows
variable {X:Cx}
section
theorem cV.dic (r:cV k A):A.units+1<PySem.cLine:=by have:=r.un;lia
end
open PySem.W
structure wR (ps caps:List Str)(scope:Scope):Prop where
 kind:scope.kind=.function
 gen:scope.isGenerator=false
 co:scope.isCoroutine=false
 nd:ps.Nodup
 loc:∀x∈ps,scope.names.lookup x=some .local
 nocell:∀y∈scope.names,y.2≠.cell
 free:∀y∈scope.names,y.2=.free->y.1∈caps
 caps:∀x∈caps,scope.names.lookup x=some .free
def oz (c:Addr)(qual:Str):HO:=.ext fun h=>h.CodeRec (.ref c) qual
def isE (a:Addr)(o:Obj):HO:=.ext fun h=>h.get? a=some o
theorem Cu (e:h.get? a=some o):bv P w H h a (isE a o):=⟨e,⟨o,e⟩,fun _ _ B k=>k _ B⟩
theorem CV (e:h.CodeRec (.ref c) qual):bv P w H h c (oz c qual):=by
 refine⟨e,?_,fun h1 h2 G k=>?_⟩
 ·obtain⟨_,o,vs,t,z,B,_⟩:=e;cases z;exact⟨o,B⟩
 ·obtain⟨_,o,vs,t,z,B,r⟩:=G;cases z;exact⟨c,o,vs,t,rfl,k _ B,r⟩
def Hw (H:Hp)(P:Addr)(qual:Str):Prop:=∃ps:Array Value,H P=some (.tbl ps)/\TriplesOk ps.toList/\∀pos cv,codeAmong pos ps.toList=some cv->∃c',cv=.ref c'/\H c'=some (oz c' qual)
def fV (T:AS9)(H:Hp):Prop:=∀q∈T,Hw H q.1 q.2
def cD (T:AS9)(H H':Hp):Prop:=∀b o,H b=some o->b∉T.map (·.1)->H' b=some o
theorem ah.toT (s:ah H H'):cD T H H':=fun b o e _=>s b o e
theorem cD.refl (H:Hp):cD T H H:=fun _ _ h _=>h
theorem cD.trans (a:cD T H H1)(b:cD T H1 H2):cD T H H2:=fun c o h n=>b c o (a c o h n) n
theorem ah.tabs (s:ah H H')(t:fV T H):fV T H':=fun q B=>by
 obtain⟨ps,h1,h2,G⟩:=t q B;refine⟨ps,s _ _ h1,h2,fun pos J e=>?_⟩;obtain⟨O,Y,e2⟩:=G pos J e;exact⟨O,Y,s _ _ e2⟩
theorem fV.apart (t:fV T H)(e:H b=some o)(n:∀ps,o≠.tbl ps):b∉T.map (·.1):=fun B=>by
 obtain⟨q,G,rfl⟩:=Iv.mp B;obtain⟨ps,h1,_⟩:=t q G;rw[e]at h1;cases h1;exact n ps rfl
theorem cD.keep (s:cD T H H')(t:fV T H)(e:H b=some o)(n:∀ps,o≠.tbl ps):H' b=some o:=s b o e (t.apart e n)
theorem qY {pos pos':Pos}{c B:Value}(l:LV9)(h:TriplesOk l)(e:codeAmong pos (l++[rawInt pos'.line,rawInt pos'.col,c])=some B):codeAmong pos l=some B\/B=c:=by
 fun_induction TriplesOk l with
 |case1=>
  simp only[JL,rawInt,codeAmong]at e
  split at e
  ·exact .inr (Option.some.inj e).symm
  ·cases e
 |case2 a t b u x rest ih=>
  simp only[List.cons_append,codeAmong]at e ⊢
  split at e
  ·rename_i hc
   rw[if_pos hc];exact .inl e
  ·rename_i hc
   rw[if_neg hc];exact ih h e
 |case3 l h1 h2=>exact h.elim
def ng (mg:Mg9)(h:Heap):Prop:=∃bm,(∃ob,(mg "__builtins__" = some (.ref bm)/\bm≠builtinsNs/\h.get? bm=some ob/\ob.cls=.type "module" /\ ob.dict=some builtinsNs/\ob.data=.plain))
def HF (T:AS9)(qual:Str)(mk:Addr->Value->Obj):TE:=fun _ H Q=>fV T H/\∀fa c' ctv H',H fa=none->H' fa=some (isE fa (mk c' ctv))->H' c'=some (oz c' qual)->fV T H'->cD T H H'->Q (.ref fa) H'
section
theorem FI (xs:List Str)(hB:ng X.mg X.base)(hC:CodeHd X.base c P)(a0:X.env.code=.ref c)(hT:(P,qual)∈T)(c3:(T.map (·.1)).Nodup)(hq:X.env.qual ++ "<lambda>" = qual)
  (a1:closureFor scope X.env=pure (clo X.env xs)) (b7:defaultsOf params X.env=([],[]):=by rfl) :
  PE X (.Lambda params body scope pos) (HF T qual fun G O=>kla_obj "<lambda>" qual params body scope (clo X.env xs) ((X.mg "__name__").getD .none) G O):=by
 intro pins s σ H Q I h;obtain⟨hTab,h⟩:=h;obtain⟨ps,hP,ht,a8⟩:=hTab (P,qual) hT;have a2:s.heap.get? P=some (tabObj ps):=I.hok P _ hP;have a5:s.heap.Ns mainGlobals X.mg:=I.ok.mod.glob.keeps I.bk;have c4:mainGlobals≠P:=fun q=>by
  obtain⟨o,es,ep,e,hd,_⟩:=a5;rw[q,a2]at e;cases e;cases hd
 obtain⟨bm,ob,b1,b2,b3,b4,b5,b6⟩:=hB;have b3':=I.bk _ _ b3;have c5:bm≠P:=fun q=>by
  rw[q,a2]at b3';cases b3';cases b4
 have c6:bm≠mainGlobals:=fun q=>by
  obtain⟨o,es,ep,e,hd,_⟩:=a5;rw[q,e]at b3';cases b3';rw[hd]at b6;cases b6
 have b8:s.heap.BuiltinsAt X.mg P:=⟨bm,ob,b1,b2,c6,c5,b3',b4,b5,b6⟩;refine kla_eval b7 ?_;rw[hq];cases hf:codeAmong pos ps.toList with
 |none=>
  refine kla_makeFunction a1 I.ok.glob a5 a0 (hC.keeps I.bk) a2 ht hf c4 b8 fun G O h' tk hx a6 b9 c0 c1=>?_;generalize a3:kla_obj "<lambda>" qual params body scope (clo X.env xs) ((X.mg "__name__").getD .none) G O=B
  have c2:P<s.heap.objs.size:=IK a2;have c7:G≠P:=Kk (IJ c2 a6);have a9:s.heap.objs.size<=h'.objs.size:=JW (K0 a6 b9);have c8:h'.objs.size≠P:=Kk (IJ c2 a9);have c9:h'.objs.size≠G:=Kk b9;have a4:H h'.objs.size=none:=I.hok.fresh a9;have nc:H G=none:=I.hok.fresh a6;have a7:∀b o,b≠P->s.heap.get? b=some o->(h'.push B).get? b=some o:=fun b o hb e=>Ir _ (hx b o hb e)
  let H':Hp:=upd (upd (upd H P (.tbl (ps ++ #[rawInt pos.line,rawInt pos.col,.ref G]))) G (oz G qual)) h'.objs.size (isE h'.objs.size B)
  have e1:H' h'.objs.size=some (isE h'.objs.size B):=ag;have e2:H' G=some (oz G qual):=by show upd _ _ _ _=_;rw[aA (Ne.symm c9),ag]
  have e3:H' P=some (.tbl (ps ++ #[rawInt pos.line,rawInt pos.col,.ref G])):=by show upd _ _ _ _=_;rw[aA (Ne.symm c8),aA (Ne.symm c7),ag]
  have e4:∀b,b≠P->b≠G->b≠h'.objs.size->H' b=H b:=fun b n1 n2 n3=>by show upd _ _ _ _=_;rw[aA n3,aA n2,aA n1]
  have e5:∀b o,H b=some o->b≠P->H' b=some o:=fun b o e n=>by rw[e4 b n (bM e nc) (bM e a4)];exact e
  have hrec':(h'.push B).CodeRec (.ref G) qual:=by
   obtain⟨c₂,o₂,d0,t₂,z,g₂,r₂⟩:=c0;exact⟨c₂,o₂,d0,t₂,z,Ir _ g₂,r₂⟩
  have b0:B.isFreed=false:=by rw[<-a3];rfl
  have J:Inv X pins σ H' {s with heap:=h'.push B,toks:=tk}:=by
   refine I.un ⟨fun b u q n _ _=>a7 b u (fun z=>by rw[z,hP]at n;cases n) q,fun b u q n _ _=>⟨u.slots,a7 b u (fun z=>by rw[z,hP]at n;cases n) q⟩,fun b u q n _=>?_,fun b u q _=>?_,fun b xs q=>e5 b _ q (fun z=>by rw[z,hP]at q;cases q),fun b u xs q=>e5 b _ q (fun z=>by rw[z,hP]at q;cases q),fun b qs q=>?_⟩ fun b u q=>?_
   ·have hb:=IK q;rw[e4 b (fun z=>by rw[z,hP]at n;cases n) (I0 (IJ hb a6)) (I0 (IJ hb a9))];exact n
   ·by_cases hb:b=P
    ·rw[hb];exact⟨_,Ir _ c1⟩
    ·exact⟨u,a7 b u hb q⟩
   ·by_cases hb:b=P
    ·rw[hb,hP]at q;cases q;exact⟨_,by rw[hb];exact e3⟩
    ·exact⟨#[],by rw[e5 b _ q hb];simp⟩
   ·by_cases h1:b=h'.objs.size
    ·subst h1;rw[e1]at q;cases q;exact Cu (IH _ b0)
    ·by_cases h2:b=G
     ·subst h2;rw[e2]at q;cases q;exact CV hrec'
     ·by_cases h3:b=P
      ·subst h3;rw[e3]at q;cases q;exact Ir _ c1
      ·rw[e4 b h3 h2 h1]at q;refine (I.hok b u q).stay (fun d v hd r=>a7 d v ?_ r) (fun d r=>e5 d _ r fun z=>by rw[z,hP]at r;cases r) fun d xs r=>e5 d _ r fun z=>by rw[z,hP]at r;cases r
       rcases hd with rfl|hd
       ·exact h3
       ·intro z;rw[z,hP]at hd;cases hd
  refine⟨.ref h'.objs.size,H',J,rfl,h _ G O H' a4 (by dsimp only;rw[a3];exact e1) e2 (fun q hq=>?_) fun b o e n=>e5 b o e fun z=>n (by rw[z];exact Iv.mpr ⟨_,hT,rfl⟩)⟩;by_cases hqP:q.1=P
  ·have d1:q=(P,qual):=by
    have:∀(l:AS9),(l.map (·.1)).Nodup->q∈l->(P,qual)∈l->q.1=P->q=(P,qual):=by
     intro l
     induction l with
     |nil=>intro _ h;cases h
     |cons y r ih=>
      intro nd h1 h2 h3;rw[IR,JE]at nd;rcases IP.mp h1 with z1 | z1
      ·rcases IP.mp h2 with Y|Y
       ·exact z1.trans Y.symm
       ·exact absurd (Iv.mpr ⟨_,Y,by rw[<-z1];exact h3.symm⟩) nd.1
      ·rcases IP.mp h2 with Y|Y
       ·exact absurd (Iv.mpr ⟨_,z1,by rw[<-Y];exact h3⟩) nd.1
       ·exact ih nd.2 z1 Y h3
    exact this T c3 hq hT hqP
   subst d1;refine⟨_,e3,?_,fun pos' cv e=>?_⟩
   ·rw[JN];exact TriplesOk_snoc _ _ _ _ ht
   ·rw[JN]at e;rcases qY _ ht e with e | e
    ·obtain⟨d,z1,Y⟩:=a8 _ _ e;exact⟨d,z1,e5 d _ Y fun z=>by rw[z,hP]at Y;cases Y⟩
    ·exact⟨G,e,e2⟩
  ·obtain⟨qs,g1,g2,g3⟩:=hTab q hq;refine⟨qs,e5 _ _ g1 hqP,g2,fun pos' cv e=>?_⟩;obtain⟨d,z1,Y⟩:=g3 _ _ e;exact⟨d,z1,e5 d _ Y fun z=>by rw[z,hP]at Y;cases Y⟩
 |some cv=>
  obtain⟨G,rfl,d2⟩:=a8 _ _ hf;refine kla_makeFunctionHit a1 I.ok.glob a5 a0 (hC.keeps I.bk) a2 ht hf b8 fun O h' tk hk hsz=>?_;show EP X pins σ Q (.ref h'.objs.size) {s with heap:=h'.push (kla_obj "<lambda>" qual params body scope (clo X.env xs) ((X.mg "__name__").getD .none) G O),toks:=tk}
  generalize a3:kla_obj "<lambda>" qual params body scope (clo X.env xs) ((X.mg "__name__").getD .none) G O=B
  have b0:B.isFreed=false:=by rw[<-a3];rfl
  have a4:H h'.objs.size=none:=I.hok.fresh hsz;have sm:ah H (upd H h'.objs.size (isE h'.objs.size B)):=fun b o e=>by rw[aA (bM e a4)];exact e
  refine⟨.ref h'.objs.size,_,I.laid (a:=h'.objs.size) (o:=isE h'.objs.size B) (h':=h'.push B) (t':=tk) (fun b u e=>Ir _ (hk b u e)) hsz (Cu (IH _ b0)),rfl,h _ G O _ a4 (by dsimp only;rw[a3];exact ag) (sm _ _ d2) (sm.tabs hTab) sm.toT⟩
end
theorem Aq {P:Pg9}{w:Wd9}{K:Frag}{mg mb:Mg9}{CX:CXT}{k:Nat}{fa a:Addr}{fd:Fd9}{x:Str}{sp:Sp}{B:Sh9}{vs:LV9}{ns:List Int}{Ps:List Addr}
  (KX:K.In B.heap) (a3:B.heap.Ns mainGlobals mg) (G:B.heap.Ns builtinsNs mb) (b7:∀x:Str,x ≠ "__name__" -> mb x=bootBuiltins x) (a4:B.heap.NoLimit) (hg:B.gens = #[])
  (ha:B.heap.get? a=some {cls:=.type "list",data:=.seq vs.toArray}) (hi:IntsAre vs ns) (hl:ns.length<=sizeLine) (hr:cV k callerA)
  (b8:ng mg B.heap) (O:∀P∈Ps,B.heap.get? P=some (tabObj #[])/\K.lookup P=none/\∃c,CodeHd B.heap c P)
  (F:∀base:Heap,K.In base->base.Ns mainGlobals mg->ng mg base->bB P w K mg base CX k fa fd [x] sp) (a2:∀(s:Sh9) (u:Value),BindsTo s fd ⟨[u],[]⟩ [(x,u)])
  (b9:∀H:Hp,(∀P∈Ps,H P=some (.tbl #[]))->SqL K H a (ns.map V.int)->sp [.ref a] H (fun v _=>v=.bl true) fun _ _ _=>False)
  (c0:∀H e s',CX [] H B (fun _ _ _=>False) e s'->False) :
  codeAny (model P w) callerA (.call (.ref fa) ⟨[.ref a],[]⟩) (fun r s'=>r=.ok (.ret (.bool true))/\OldK B.heap s'.heap/\s'.os=B.os/\AllBare s'.gens) B:=by
 have rv:=rR hi;have a5:=hi.length;have a6:a∉Ps:=fun z=>by
  have:=(O a z).1
  rw[ha]at this;cases this
 have a0:∀H:Hp,(∀b,H b=none\/(b∈Ps/\H b=some (.tbl #[]))\/∃o xs,H b=some (.frz o (.lst xs)))->(∀P∈Ps,H P=some (.tbl #[]))->SqL K H a (ns.map V.int)->HOk P w H B.heap->(∀b,H b≠none->b∈Ps\/b=a)->(H a≠none->K.lookup a=none) ->
   codeAny (model P w) callerA (.call (.ref fa) ⟨[.ref a],[]⟩) (fun r s'=>r=.ok (.ret (.bool true))/\OldK B.heap s'.heap/\s'.os=B.os/\AllBare s'.gens) B:=by
  intro H hO hT hS a7 hA hK;have J:∀{b:Addr} {o:Obj},B.heap.get? b=some o->H b=none->(rO B.heap H).get? b=some o:=fun e n=>Cw e n;have a8:∀{b:Addr} {o:Obj},B.heap.get? b=some o->(∀qs,o.data≠.fields qs)->(∀qs n,o.data≠.seq qs n)->H b=none:=fun {b o} e d1 d2=>by
   cases q:H b with
   |none=>rfl
   |some u=>
    rcases hA b (by rw[q];simp) with e'|e'
    ·rw[(O b e').1]at e;cases e;exact absurd rfl (d1 #[])
    ·subst e';rw[ha]at e;cases e;exact absurd rfl (d2 _ _)
  have Y:∀{b:Addr} {m:Mg9},B.heap.Ns b m->(rO B.heap H).Ns b m:=fun {b m} ⟨o,es,ep,e,d,r⟩=>⟨o,es,ep,J e (a8 e (fun qs z=>by rw[d]at z;cases z) (fun qs n z=>by rw[d]at z;cases z)),d,r⟩;have a9:K.In (rO B.heap H):=fun b o e=>J (KX b o e) (by
   cases q:H b with
   |none=>rfl
   |some u=>
    rcases hA b (by rw[q];simp) with e'|e'
    ·rw[(O b e').2.1]at e;cases e
    ·subst e';rw[hK (by rw[q];simp)]at e;cases e)
  have hM:Mod K mg (rO B.heap H):=⟨a9,Y a3,⟨mb,Y G,b7⟩,let ⟨mc,h1,h2⟩:=a4;⟨mc,Y h1,h2⟩⟩;have c1:ng mg (rO B.heap H):=by
   obtain⟨bm,ob,b1,b2,b3,b4,b5,b6⟩:=b8;exact⟨bm,ob,b1,b2,J b3 (a8 b3 (fun qs z=>by rw[b6]at z;cases z) (fun qs n z=>by rw[b6]at z;cases z)),b4,b5,b6⟩
  have e0:ET P w K mg (rO B.heap H) callerA [] B H:=⟨rfl,hM,fun b o e=>Eb e,Le (Ay _ _),trivial,fun b G=>absurd (show b∈([]:List Addr) from G) (by simp),a7,.of_eq hg⟩;refine codeAny_mono ((F _ a9 (Y a3) c1).run callerA [] B H ⟨[.ref a],[]⟩ [.ref a] [.ref a] _ _ hr e0 (a2 B (.ref a)) (.cons rfl .nil) (b9 H hT hS)) fun r s' h=>?_;cases r with
  |error e=>exact (c0 H e s' h).elim
  |ok fl=>
   cases fl with
   |next=>exact False.elim h
   |brk=>exact False.elim h
   |cont=>exact False.elim h
   |ret u=>
    obtain⟨v,H',os,bare,un,a1,r',q⟩:=h;have q':v=.bl true:=q;subst q';obtain rfl:u=Value.bool true:=r';have nofs:∀b:Addr,b∉frs []:=fun b z=>absurd (show b∈([]:List Addr) from z) (by simp);refine⟨rfl,⟨fun b o e=>?_,fun b o e=>un.there b o e (by simp)⟩,os,bare⟩;rcases hO b with q|⟨c2,q⟩|⟨ob,xs,z⟩
    ·exact .inl (un.keep b o e q (nofs b) (by simp))
    ·obtain⟨h1,h2,c,h3⟩:=O b c2;rw[h1]at e;cases e;obtain⟨b0,hm⟩:=un.tbls b _ q;exact .inr (.inl ⟨(h3.tab h1).isCodeTable,rfl,#[],b0,rfl,a1 b _ hm⟩)
    ·have z2:=un.frzs b ob _ z;obtain⟨e1,_⟩:=a7 b _ z;obtain⟨e2,_⟩:=a1 b _ z2;rw[e]at e1;cases e1;exact .inl e2
 cases hk:K.lookup a with
 |some o=>
  have e:=KX a o hk;rw[ha]at e;cases e;refine a0 (fun b=>if b∈Ps then some (.tbl #[]) else none) (fun b=>?_) (fun P hP=>if_pos hP) (.inr ⟨_,vs.toArray,_,hk,rfl,rfl,rfl,by rw[IV,a5];exact hl,by simpa using rv⟩) (fun b u z=>?_) (fun b z=>?_) fun z=>absurd (if_neg a6) z
  ·by_cases G:b∈Ps
   ·exact .inr (.inl ⟨G,if_pos G⟩)
   ·exact .inl (if_neg G)
  ·by_cases G:b∈Ps
   ·have z':=(if_pos G).symm.trans z;cases z';exact (O b G).1
   ·have z':=(if_neg G).symm.trans z;cases z'
  ·by_cases G:b∈Ps
   ·exact .inl G
   ·exact absurd (if_neg G) z
 |none=>
  refine a0 (fun b=>if b∈Ps then some (.tbl #[]) else if b=a then some (.frz {cls:=.type "list",data:=.seq vs.toArray} (.lst (ns.map V.int))) else none) (fun b=>?_) (fun P hP=>if_pos hP) (.inl (.inr ⟨{cls:=.type "list",data:=.seq vs.toArray},(if_neg a6).trans (if_pos rfl)⟩)) (fun b u z=>?_) (fun b z=>?_) fun _=>hk
  ·by_cases G:b∈Ps
   ·exact .inr (.inl ⟨G,if_pos G⟩)
   ·by_cases hb2:b=a
    ·exact .inr (.inr ⟨_,_,(if_neg G).trans (if_pos hb2)⟩)
    ·exact .inl ((if_neg G).trans (if_neg hb2))
  ·by_cases G:b∈Ps
   ·have z':=(if_pos G).symm.trans z;cases z';exact (O b G).1
   ·have z:=(if_neg G).symm.trans z;by_cases hb2:b=a
    ·have z':=(if_pos hb2).symm.trans z;cases z';subst hb2;exact⟨ha,by rw[Iq];exact hl,vs,_,rv,ha⟩
    ·have z':=(if_neg hb2).symm.trans z;cases z'
  ·by_cases G:b∈Ps
   ·exact .inl G
   ·by_cases hb2:b=a
    ·exact .inr hb2
    ·exact absurd ((if_neg G).trans (if_neg hb2)) z
def rX (K:Frag)(cd:Value):Option Addr:=match cd with
 | .ref c=>(match K.lookup c with
  |some ⟨_,_,.fields vs,_⟩=>(match (vs[11]? : OV9) with
   |some (.ref P)=>if codeHdIn K c P=true then some P else none
   |_=>none)
  |_=>none)
 |_=>none
theorem vq {K:Frag}(X:K.In h)(e:rX K cd=some P):∃c,cd=.ref c/\CodeHd h c P:=by
 unfold rX at e
 split at e
 ·rename_i c
  split at e
  ·split at e
   ·split at e
    ·rename_i hc
     cases e;exact⟨c,rfl,codeHd_of_K X hc⟩
    ·cases e
   ·cases e
  ·cases e
 ·cases e
theorem A8 {K:Frag}(B:cd=.ref c)(l:K.lookup c=some ⟨cl,od,.fields vs,sl⟩)(e:vs[11]? = some (.ref P))(h:codeHdIn K c P=true):rX K cd=some P:=by
 subst B;unfold rX;simp only[l,e,h,if_true]
theorem AU {l:PySem.W.OpenLaw}{n k:Nat}{q:Pg9}{J:List Str}{XP:(Mg9)->Heap->Prop}{YP:Wd9->Heap->Prop}{d:DefRec}{K:Params->Frag}{CX:Wd9->CXT}{x:Str}{ts:List Addr}
  (hn:l.most=some n) (a1:n<=sizeLine) (a2:d.params.defaults=[]) (hr:cV k callerA)
  (hY:∀(w:Wd9) (h:Heap),YP w h->(K w.params).In h) (hT:∀(w:Wd9) (h:Heap),YP w h->∀P∈ts,h.get? P=some (tabObj #[]))
  (F:∀(w:Wd9) (mg:Mg9) (fa:Addr) (h:Heap),(K w.params).In h->h.Ns mainGlobals mg->mg d.name=some (.ref fa) ->
   ∃(fd:Fd9) (Ps:List Addr) (sp:Sp),(∀(s:Sh9) (u:Value),BindsTo s fd ⟨[u],[]⟩ [(x,u)])/\(∀P∈Ps,P∈ts/\(K w.params).lookup P=none/\∃c,CodeHd h c P) /\
    (∀base:Heap,(K w.params).In base->base.Ns mainGlobals mg->ng mg base->bB l.prog w (K w.params) mg base (CX w) k fa fd [x] sp) /\
    ∀(H:Hp) (a:Addr) (ns:List Int),ns.length<=n->(∀P∈Ps,H P=some (.tbl #[]))->SqL (K w.params) H a (ns.map V.int)->sp [.ref a] H (fun v _=>v=.bl true) fun _ _ _=>False)
  (a3:∀(w:Wd9) (H:Hp) (s:Sh9) (e:Value) (s':Sh9),CX w [] H s (fun _ _ _=>False) e s'->False) :
  PySem.W.WalkO q J XP YP l.row.toRowW d [] (fun f vs=>PySem.call f vs):=by
 refine Att.wN hn a2 fun w s₀ s₁ mg mb fa o pm cd doc a vs ns G Y ho hd a6 a4 a0 O B hg=>?_;have KX:=hY w _ Y;obtain⟨fd,Ps,sp,hb,hP,hF,a5⟩:=F w mg fa _ KX G.T.g a4;exact Aq (Ps:=Ps) KX G.T.g G.T.b G.T.builtins G.T.nolimit hg a0 O (IU B a1) hr G.T.bmain (fun P h=>⟨hT w _ Y P (hP P h).1,(hP P h).2.1,(hP P h).2.2⟩) hF hb (fun H hO hS=>a5 H a ns B hO hS) fun H e s'=>a3 w H s₁ e s'
section
variable {P:Pg9}{w:Wd9}{K:Frag}{mg:Mg9}{base:Heap}{Z:Pn9}
structure ES (K:Frag)(x qual:Str)(st:Stmt)(f:Addr)(fd:Fd9)(dV:Value)(P:Addr):Prop where
 ex:∃(oc:Value) (od:Option Addr) (kV doc pm:Value) (an:Option Addr) (cdv ct:Value) (osl:Array (OV9)),
  fd=fnOf x qual (cg st) (bW st) (aq st) dV kV doc pm an cdv ct/\K.lookup f=some ⟨oc,od,.func fd,osl⟩/\codeIn K cdv qual=true/\rX K cdv=some P
theorem Ev {x qual:Str}{st:Stmt}{f Pt:Addr}{oc:Value}{od J:Option Addr}{G:Array (OV9)}{O kV doc Y B ct:Value}(l:K.lookup f=some ⟨oc,od,.func (fnOf x qual (cg st) (bW st) (aq st) O kV doc Y J B ct),G⟩)
  (c:codeIn K B qual=true) (t:rX K B=some Pt):ES K x qual st f (fnOf x qual (cg st) (bW st) (aq st) O kV doc Y J B ct) O Pt:=⟨⟨oc,od,kV,doc,Y,J,B,ct,G,rfl,l,c,t⟩⟩
theorem ES.ok {st:Stmt}(F:ES K x qual st f fd dV Pt)(O:K.In base)(S:aE N ps (aq st))(len:∀vs H Q E,sp vs H Q E->vs.length=ps.length)
  (B:∀(c:Addr) (A:Around) (outer:List Env) (s:Sh9) (H:Hp) (vs:List V) (Q:VK) (E:XK),CodeHd base c Pt->cV k (A.deeper (envOfC qual (aq st) s.heap.objs.size f (.ref c)))->sp vs H Q E ->
   ∃t,PSs (xX CX P w K mg base N qual (aq st) f (.ref c) A outer s H E).nox (bW st) t/\t {nx:=fun _ H'=>Q .non H',rt:=Q} (start N vs) H):bB P w K mg base CX (k+1) f fd ps sp:=by
 obtain⟨oc,od,kV,doc,pm,an,Y,ct,a0,rfl,lk,G,ht⟩:=F.ex;obtain⟨c,rfl,hc⟩:=vq O ht;refine Fa lk G S len fun A outer s H vs Q E hr J=>?_;obtain⟨t,h,q⟩:=B c A outer s H vs Q E hc hr J;exact⟨t,h.nox,q⟩
end
theorem SqL.upT {K:Frag}(h:SqL K H a xs)(s:cD T H H')(t:fV T H):SqL K H' a xs:=by
 rcases h with (h|⟨o,h⟩)|h
 ·exact .inl (.inl (s.keep t h (by intro ps z;cases z)))
 ·exact .inl (.inr ⟨o,s.keep t h (by intro ps z;cases z)⟩)
 ·exact .inr h
theorem cD.tups (s:cD T H H')(t:fV T H):bn H H':=fun b xs e=>s.keep t e (by intro ps z;cases z)
theorem fV.start (h:∀P∈T.map (·.1),H P=some (.tbl #[])):fV T H:=fun q B=>
 ⟨#[],h _ (Iv.mpr ⟨_,B,rfl⟩),trivial,fun pos G e=>by cases e⟩
section
theorem uM {id:String}{d:Addr}{o:Obj}{es:Array DictEntry}{ep:Nat}{xs:List (List Key×Addr×Value)}{Q:Array DictEntry->Sh9->Prop}(Y:s.heap.get? d=some o)(hd:o.data=.dict es ep)
  (O:es.toList=xs.map (entryOfKey (tupleKind (aw prog w)))) (J:∀x∈xs,(tupleKind (aw prog w)).is s.heap x.1 x.2.1) (hn:(xs.map fun x=>(tupleKind (aw prog w)).hash x.1).Nodup) (h:Q es s) :
  wpAny (model prog w) A (Builtin.Dict.entriesForEmpty id d) Q E s:=by
 unfold Builtin.Dict.entriesForEmpty;refine Ip (wpAny_dictEntries Y hd ?_);refine Ip ?_;rw[<-K6];refine wpAny_forIn_list _ (fun rest _ s'=>s'=s/\∀e∈rest,e∈es.toList) _ ?_ ?_ _ _ ⟨rfl,fun e h=>h⟩
 ·rintro e rest c s' ⟨rfl,B⟩;have hm:=B e IF;have hm':e∈xs.map (entryOfKey (tupleKind (aw prog w))):=O▸hm;obtain⟨x,hx,ex⟩:=Iv.mp hm';have hk:=J x hx;have hT:s'.TypeIs (.ref x.2.1) "tuple" := IsTupleKey.typeIs hk
  have ek:e.key=.ref x.2.1:=by rw[<-ex];rfl
  have G:¬ (es.filter (·.hash==e.hash)).size>1:=by
   have l:(es.filter (·.hash==e.hash)).size=(es.toList.filter (·.hash==e.hash)).length:=by rw[<-IN,Array.toList_filter]
   rw[l,O];have key:∀(ys:List (List Key×Addr×Value)),(ys.map fun x=>(tupleKind (aw prog w)).hash x.1).Nodup->((ys.map (entryOfKey (tupleKind (aw prog w)))).filter (·.hash==e.hash)).length<=1:=by
    intro ys
    induction ys with
    |nil=>intro _;simp
    |cons y r ih=>
     intro nd;rw[IR,JE]at nd;rw[IR,List.filter_cons]
     split
     ·rename_i hy
      have hy':(tupleKind (aw prog w)).hash y.1=e.hash:=by simpa[entryOfKey] using hy
      have none:(r.map (entryOfKey (tupleKind (aw prog w)))).filter (·.hash==e.hash)=[]:=by
       rw[List.filter_eq_nil_iff];intro z hz hh;obtain⟨u,hu,rfl⟩:=Iv.mp hz;have hu':(tupleKind (aw prog w)).hash u.1=e.hash:=by simpa[entryOfKey] using hh
       exact nd.1 (Iv.mpr ⟨u,hu,by rw[hu',hy']⟩)
      rw[none];simp
     ·exact ih nd.2
   have:=key xs hn
   lia
  show wpAny _ _ (Builtin.Dict.quietEq e.key >>= _) _ _ _;refine Ip ?_;rw[ek];unfold Builtin.Dict.quietEq;refine Ip (wpAny_specialOf hT F.slot_tuple_eq.lookup (IB ?_));rw[show (some (Value.builtin "tuple.__eq__")==some (Value.builtin "object.__eq__"))=false by decide +kernel]
  simp only[Bool.not_false,if_true];rw[if_neg G];exact IB ⟨rfl,fun e' h'=>B e' (IA _ h')⟩
 ·rintro c s' ⟨rfl,_⟩;exact IB h
theorem xM {nm:String}{d o:Addr}{xs:List (List Key×Addr×Value)}{Q:Unit->Sh9->Prop}(a7:d≠o)(a8:(o==sysModules)=false)(hd:s.heap.DictOfH (tupleKind (aw prog w)) d [])
  (ho:s.heap.DictOfH (tupleKind (aw prog w)) o xs) (a9:(xs.map fun x=>(tupleKind (aw prog w)).hash x.1).Nodup) (hsz:xs.length<=sizeLine)
  (hQ:∀h' o' es' ep',h'.get? d=some o'->o'.ExactDict->o'.data=.dict es' ep'->es'.toList=xs.map (entryOfKey (tupleKind (aw prog w)))->Heap.SameBut d s.heap h'->Q () {s with heap:=h' }) :
  wpAny (model prog w) A (Builtin.Dict.mergeDict nm d o) Q E s:=by
 obtain⟨od,a2,a3,a0,a4,J,a5,_,_⟩:=id hd;obtain⟨oo,B,b0,a1,b1,G,O,a6,b2⟩:=id ho;have Y:B.size=xs.length:=size_of_entries O;have e0:a2 = #[]:=by
  have:a2.toList=[]:=by rw[a5];rfl
  exact Array.toList_eq_nil_iff.mp this
 unfold Builtin.Dict.mergeDict;rw[if_neg (by simpa using a7)];unfold Builtin.Dict.showsAll;rw[if_neg (by rw[a8];exact IL)];refine Ip (IB ?_);refine Ip (wpAny_dictEntries a1 G ?_);cases xs with
 |nil=>
  have e1:B = #[]:=Array.toList_eq_nil_iff.mp (by rw[O];rfl);subst e1;dsimp only;rw[if_neg (by simp)];refine Ip (wpAny_dictEpoch a1 G ?_);refine Ip (wpAny_dictEntries a1 G ?_);refine Ip ?_;rw[Std.Legacy.Range.forIn_eq_forIn_range'];simp only[Std.Legacy.Range.size];exact IB (IB (hQ _ od a2 a3 a0 a4 J (by rw[a5]) (Heap.SameBut.refl _ _)))
 |cons x r=>
  have ns:(B.all fun e=>(keyPart e.key).isSome)=false:=by
   rw[<-Array.all_toList,O,IR,Lm];show ((keyPart (.ref x.2.1)).isSome&&_)=false;rfl
  dsimp only;rw[ns,Bool.and_false];simp only[Bool.not_false,if_true];refine Ip (wpAny_dictEntries a0 J ?_);rw[if_pos (by rw[e0];rfl)];refine Ip (uM a1 G O a6 a9 ?_);have ne:(!B.isEmpty)=true:=by
   cases q:B.isEmpty with
   |false=>rfl
   |true=>
    have:B = #[]:=Array.isEmpty_iff.mp q
    rw[this]at Y;simp at Y
  rw[if_pos ne];refine Ip (wpAny_updateDictKeysTo a0 J (IB ?_) (by rw[Y];lia));exact hQ _ _ B (a3+1) (Li _ a0 (Obj.isFreed_of_dict (Obj.data_mapDictKeys J _))) (a4.mapDictKeys _) (Obj.data_mapDictKeys J _) O (Heap.SameBut.update ..)
end
section
def om (ks:List Key)(w:Wd9):Int:=reduceHash (Builtin.Tuple.tupleHashOf (ks.map (Gb w)))
theorem KT.hashes:∀{kvs:List (List Key×V)} {xs:List (List Key×Addr×Value)},KT H kvs xs->(xs.map fun x=>(tupleKind (aw P w)).hash x.1)=kvs.map fun B=>om B.1 w
 |_,_,.nil=>rfl
 |_,_,.cons h t=>by
  rw[IR,IR,KT.hashes (P:=P) (w:=w) t,h.1];rfl
end
structure Lin {α:Type}(lt:α->α->Bool):Prop where
 irr:∀x,lt x x=false
 tr:∀x y z,lt x y=true->lt y z=true->lt x z=true
 tot:∀x y,lt x y=false->lt y x=false->x=y
theorem j7:∀{l:List α},(∀x∈l,p x=true->q x=true)->a∈l->p a=false->q a=true->l.countP p<l.countP q
 | [],_,h,_,_=>by simp at h
 |x::l,hm,B,hp,hq=>by
  have m:l.countP p<=l.countP q:=List.countP_mono_left fun y G=>hm y (by simp[G]);rw[List.countP_cons,List.countP_cons];rcases IP.mp B with rfl | B
  ·rw[hp,hq];simp
   lia
  ·have:=j7 (fun y G=>hm y (by simp[G])) B hp hq
   have J:=hm x (by simp);cases e:p x with
   |true=>rw[J e];simp;omega
   |false=>simp;split<;>omega
def rnk {α:Type}(lt:α->α->Bool)(ks:List α)(x:α):Int:=((ks.countP fun k=>lt k x:Nat):Int)
theorem tP (L:Lin lt)(B:x∈ks)(G:y∈ks):decide (rnk lt ks x<rnk lt ks y)=lt x y:=by
 unfold rnk;cases e:lt x y with
 |true=>
  have:=j7 (l:=ks) (p:=fun k=>lt k x) (q:=fun k=>lt k y) (fun k _ h=>L.tr _ _ _ h e) B (L.irr x) e
  simp
  exact this
 |false=>
  cases e2:lt y x with
  |true=>
   have:=j7 (l:=ks) (p:=fun k=>lt k y) (q:=fun k=>lt k x) (fun k _ h=>L.tr _ _ _ h e2) G (L.irr y) e2
   simp
   lia
  |false=>
   have:=L.tot _ _ e e2
   subst this;simp
section
structure AJ (A:Around)(prog:Pg9)(w:Wd9)(vs:LV9){α:Type}(kf:Value->α)(lt:α->α->Bool)(κ:SortKind)(s:Sh9):Prop where
 kind:2<=vs.length->∀Q:SortKind->Sh9->Prop,Q κ s->wpAny (model prog w) A (keyKind' vs.toArray) Q (fun _ _=>False) s
 less:∀(x y:Value) (C:Bool->Sh9->Prop),x∈vs->y∈vs->C (lt (kf x) (kf y)) s->wpAny (model prog w) A (keyLt' κ x y) C (fun _ _=>False) s
theorem vj {vs:LV9}{p:Keyed}(h:p∈(vs.toArray.zip vs.toArray).toList):p.1=p.2/\p.2∈vs:=by
 rw[Array.toList_zip]at h;obtain⟨i,hi⟩:=Lg.mp h;rw[List.getElem?_zip_eq_some]at hi;have e:=hi.1.symm.trans hi.2;exact⟨Option.some.inj e,Lg.mpr ⟨i,hi.2⟩⟩
theorem yb (vs:LV9):(vs.toArray.zip vs.toArray).toList.map (·.2)=vs:=by
 rw[Array.toList_zip];exact List.map_snd_zip (Iw _)
theorem kL {a:Addr}{vs:LV9}{n:Nat}{κ:SortKind}{P:PySem.Fin->Sh9->Prop}(L:Lin lt)(ho:s.heap.get? a=some (seqObj "list" vs.toArray n))(sz:vs.length<=sizeLine)
  (hs:∀h',(∀b o,b≠a->s.heap.get? b=some o->h'.get? b=some o)->AJ A prog w vs kf lt κ {s with heap:=h' })
  (h:∀out:LV9,out.Perm vs->out.Pairwise (fun x y=>lt (kf y) (kf x)=false)->P (.done (.ret .none)) {s with heap:=sortedHeap s.heap a vs out.toArray}) :
  wpAny (model prog w) A (Builtin.«list.sort» ⟨[.ref a],[]⟩) P E s:=by
 have ha:a<s.heap.objs.size:=IK ho;rw[list_sort_plain];refine Ip (listItems_at ho rfl ?_);refine Ip (listUpdate_at ho rfl ?_ (by rw[IV];exact sz) (IG _));obtain⟨e1,O⟩:∃e1,(s.heap.update a (Obj.mapSeq fun _=>(#[]:Array Value))).get? a=some (seqObj "list" #[] e1):=⟨_,get?_update_seq ho fun _=> #[]⟩
 refine Ip (seqEpoch_at O rfl ?_);refine Ip (wpAny_newTuple ?_ (by show vs.length<=_;exact sz));refine Ip (wpAny_newList ?_ (IG _));refine wpAny_holding ?_;show wpAny (model prog w) A _ P E {s with heap:=((s.heap.update a (Obj.mapSeq fun _=>(#[]:Array Value))).push (seqObj "tuple" vs.toArray 0)).push (seqObj "list" #[] 0)}
 dsimp only;have J:(((s.heap.update a (Obj.mapSeq fun _=>(#[]:Array Value))).push (seqObj "tuple" vs.toArray 0)).push (seqObj "list" #[] 0)).get? a=some (seqObj "list" #[] e1):=Ir _ (Ir _ O)
 have kp:∀b o,b≠a->s.heap.get? b=some o->(((s.heap.update a (Obj.mapSeq fun _=>(#[]:Array Value))).push (seqObj "tuple" vs.toArray 0)).push (seqObj "list" #[] 0)).get? b=some o:=fun b o hb e=>
  Ir _ (Ir _ ((Jk _ _ (Ne.symm hb)).trans e))
 have S:=hs _ kp;by_cases h2:vs.toArray.size<2
 ·rw[if_pos h2,if_pos h2];refine Ip (IB ?_);rw[StateT.run_pure];refine Ip (IB ?_);dsimp only;refine Ip (seqEpoch_at J rfl ?_);have ez:(vs.toArray.zip vs.toArray).map (·.2)=vs.toArray:=by
   apply KU.mp
   rw[LZ,yb]
  refine Ip (listUpdate_at J rfl ?_ (hsz2:=by rw[Array.size_map,Array.size_zip];simp;lia));simp only[bne_self_eq_false,IQ,if_false];refine IB ?_
  have:=h vs (List.Perm.refl _) (by
   rw[IV]at h2
   match vs,h2 with
   | [],_=>exact List.Pairwise.nil
   | [x],_=>exact KA _ _
   |_::_::_,h2=>exact absurd h2 (by simp))
  show P _ {s with heap:=Heap.update _ a (Obj.mapSeq fun _=>(vs.toArray.zip vs.toArray).map (·.2))};rw[ez];exact this
 ·rw[if_neg h2,if_neg h2];have h2':2<=vs.length:=by rw[IV]at h2;lia
  refine Ip (Jy (S.kind h2' (fun Y s'=>Y=κ/\s'=_) ⟨rfl,rfl⟩) (fun Y s' hk=>?_) fun _ _ x=>x.elim);obtain⟨rfl,rfl⟩:=hk;have LO:Tim.eE prog w A E {s with heap:=((s.heap.update a (Obj.mapSeq fun _=>(#[]:Array Value))).push (seqObj "tuple" vs.toArray 0)).push (seqObj "list" #[] 0)} (vs.toArray.zip vs.toArray) Y (fun p=>rnk lt (vs.map kf) (kf p.2)):=fun x y C hx hy hC=>by
   obtain⟨x1,x2⟩:=vj hx;obtain⟨y1,y2⟩:=vj hy;rw[x1,y1];refine S.less x.2 y.2 C x2 y2 ?_;rw[<-tP L (Jr x2) (Jr y2)];exact hC
  refine Ip (Jy (Tim.yB LO (st:=SortSt.mk' Y (vs.toArray.zip vs.toArray) #[] 7 none) (Q:=fun _ G=>Tim.SB (vs.toArray.zip vs.toArray) Y G/\Tim.Seg (fun p=>rnk lt (vs.map kf) (kf p.2)) (arrOf G) 0 (vs.toArray.zip vs.toArray).size) ⟨Array.Perm.refl _,rfl,rfl⟩ rfl fun G B S'=>⟨B,S'⟩) ?_ fun _ _ e=>e);rintro⟨⟨⟩,G⟩ s' ⟨rfl,B,S'⟩;dsimp only at B S' ⊢;refine Ip (seqEpoch_at J rfl ?_);have hp:((arrOf G).toList.map (·.2)).Perm vs:=by
   have:=(JY.mp B.perm).map (·.2)
   rw[yb]at this;exact this
  have a0:(arrOf G).map (·.2)=((arrOf G).toList.map (·.2)).toArray:=by
   apply KU.mp
   rw[LZ]
  rw[a0];refine Ip (listUpdate_at J rfl ?_ (IG _) (by rw[IV,hp.length_eq];lia));rw[B.ok];simp only[bne_self_eq_false,IQ,if_false];refine IB (h _ hp ?_);rw[Jc,JA];intro i j hi hj a1;rw[IN]at hi hj;have q:=S' i j (IG _) (JW a1) (by rw[<-B.size];exact hj);rw[Tim.aU (IY hi),Tim.aU (IY hj)]at q;have m1:(arrOf G)[i].2∈vs:=hp.mem_iff.mp (Jr (by simp));have m2:(arrOf G)[j].2∈vs:=hp.mem_iff.mp (Jr (by simp))
  have:=tP L (ks:=vs.map kf) (Jr m2) (Jr m1)
  show lt (kf (arrOf G)[j].2) (kf (arrOf G)[i].2)=false;rw[<-this];exact Jh (by lia)
theorem pW (L:Lin lt)(G:wpAny (model prog w) A.in1 (collect (.ref r)) (fun vs B=>vs.length<=sizeLine/\∃(κ:SortKind),(∀h',(∀b o,B.heap.get? b=some o->h'.get? b=some o)->AJ A.in1.in1 prog w vs kf lt κ {B with heap:=h' }) /\
   ∀out:LV9,out.Perm vs->out.Pairwise (fun x y=>lt (kf y) (kf x)=false)->Q (.ref B.heap.objs.size) {B with heap:=sortedHeap (B.heap.push (seqObj "list" vs.toArray 0)) B.heap.objs.size vs out.toArray}) E s) :
  wpAny (model prog w) A (call (.builtin "sorted") [.ref r]) Q E s:=by
 refine Calls.call_function_entry kind_sorted plain_sorted entry_sorted (args_sorted1 _) ?_;unfold Builtin.«sorted»;refine Ip (m:=checkCount "sorted" 1 1 _) (IB ?_)
 refine Ip (Jy G (fun vs B ⟨sz,κ,O,Y⟩=>?_) fun _ _ e=>e);refine Ip (wpAny_newList ?_ sz);have J:(B.heap.push (seqObj "list" vs.toArray 0)).get? B.heap.objs.size=some (seqObj "list" vs.toArray 0):=IH _ rfl
 show wpAny _ _ _ _ _ {B with heap:=B.heap.push (seqObj "list" vs.toArray 0)}
 refine Ip (wpAny_holding (wpAny_call_entry slot_list_sort ⟨_,J,rfl⟩ entry_list_sort (kL (kf:=kf) (κ:=κ) L J sz (fun h' kp=>O h' fun b o e=>?_) fun out o u=>⟨_,rfl,?_⟩) (args_list_sort _)))
 ·exact kp b o (I0 (IK e)) (Ir _ e)
 ·exact IB ⟨_,rfl,Y out o u⟩
end
theorem uv:Lin (fun (a b:List Nat)=>decide (a<b)):=by
 refine⟨fun a=>by simpa using JP a,fun a b c h1 h2=>?_,fun a b h1 h2=>?_⟩
 ·simp only[decide_eq_true_eq]at *;exact List.lt_trans h1 h2
 ·simp only[decide_eq_false_iff_not]at *;exact List.le_antisymm (List.not_lt.mp h2) (List.not_lt.mp h1)
theorem uz:Lin (fun (a b:Int)=>decide (a<b)):=by
 refine⟨fun a=>by simp,fun a b c h1 h2=>?_,fun a b h1 h2=>?_⟩
 ·simp only[decide_eq_true_eq]at *
  lia
 ·simp only[decide_eq_false_iff_not]at *
  lia
def mM {α β:Type}[DecidableEq α](l:α->α->Bool)(m:β->β->Bool)(x y:α×β):Bool:=if x.1=y.1 then m x.2 y.2 else l x.1 y.1
theorem uw {α β:Type}[DecidableEq α]{l:α->α->Bool}{m:β->β->Bool}(B:Lin l)(G:Lin m):Lin (mM l m):=by
 refine⟨fun x=>by unfold mM;rw[if_pos rfl];exact G.irr _,fun x y z h1 h2=>?_,fun x y h1 h2=>?_⟩
 ·unfold mM at h1 h2 ⊢;by_cases e1:x.1=y.1
  ·rw[if_pos e1]at h1;by_cases e2:y.1=z.1
   ·rw[if_pos e2]at h2;rw[if_pos (e1.trans e2)];exact G.tr _ _ _ h1 h2
   ·rw[if_neg e2]at h2;rw[e1,if_neg e2];exact h2
  ·rw[if_neg e1]at h1;by_cases e2:y.1=z.1
   ·rw[<-e2,if_neg e1];exact h1
   ·rw[if_neg e2]at h2;have J:=B.tr _ _ _ h1 h2;by_cases e3:x.1=z.1
    ·rw[e3,B.irr]at J;cases J
    ·rw[if_neg e3];exact J
 ·unfold mM at h1 h2;by_cases e1:x.1=y.1
  ·rw[if_pos e1]at h1;rw[if_pos e1.symm]at h2;exact Prod.ext e1 (G.tot _ _ h1 h2)
  ·rw[if_neg e1]at h1;rw[if_neg (Ne.symm e1)]at h2;exact absurd (B.tot _ _ h1 h2) e1
def yh:Value->Str
 | .str x _=>x
 |_=>default
def kO:Value->Addr
 | .ref a=>a
 |_=>0
section
theorem Bi {A:Around}{vs:LV9}{B:List Str}(r:aV (B.map V.str) vs):AJ A prog w vs (fun v=>(yh v).cps.toList) (fun a b=>decide (a<b)) oneType' s:=by
 have G:∀v∈vs,∃x t,v=.str x t:=fun v J=>by
  obtain⟨j,hj⟩:=Lg.mp J;have Y:=r.length;rw[Iq]at Y;obtain⟨a0,_⟩:=Ix.mp hj;obtain⟨u,O,e2⟩:=r.get (i:=j) (x:=V.str (B[j]'(by lia))) (by simp[show j<B.length by lia]);rw[hj]at O;cases O;obtain⟨t,e3⟩:=e2;exact⟨_,t,e3⟩
 refine⟨fun h2 Q q=>?_,fun x y C hx hy q=>?_⟩
 ·refine kas_kind (T:=.type "str") h2 (fun v J=>?_) (by decide) (by decide) q
  obtain⟨x,t,rfl⟩:=G v J;exact Looks.now
 ·obtain⟨a,t,rfl⟩:=G x hx;obtain⟨b,u,rfl⟩:=G y hy;rw[keyLt'_oneType];exact oneLt_str q
end
section
theorem Inv.sortd {pins:Pn9}{σ:St}{H:Hp}{s:Sh9}{a:Addr}{its out:LV9}{B:List V}(I:Inv X pins σ H s)(hz:B.length<=sizeLine)(J:aV B out):
  ∃S,H S=none/\Inv X pins σ (upd H S (.lst B)) {s with heap:=sortedHeap (((s.heap.push (seqObj "list" #[] 0)).update s.heap.objs.size (Obj.mapSeq (· ++ its.toArray))).push (seqObj "list" its.toArray 0)) ((s.heap.push (seqObj "list" #[] 0)).update s.heap.objs.size (Obj.mapSeq (· ++ its.toArray))).objs.size its out.toArray} /\
   S=((s.heap.push (seqObj "list" #[] 0)).update s.heap.objs.size (Obj.mapSeq (· ++ its.toArray))).objs.size:=by
 have kp:∀b o,s.heap.get? b=some o->((s.heap.push (seqObj "list" #[] 0)).update s.heap.objs.size (Obj.mapSeq (· ++ its.toArray))).get? b=some o:=fun b o e=>
  (Jk _ _ (Ne.symm (I0 (IK e)))).trans (Ir _ e)
 have G:Inv X pins σ H {s with heap:=(s.heap.push (seqObj "list" #[] 0)).update s.heap.objs.size (Obj.mapSeq (· ++ its.toArray))}:=I.kept (t':=s.toks) kp
 obtain⟨O,Y⟩:=kJ (h:=(s.heap.push (seqObj "list" #[] 0)).update s.heap.objs.size (Obj.mapSeq (· ++ its.toArray))) (vs:=its) (out:=out.toArray)
 refine⟨_,G.hok.fresh (Iw _),G.laid (t':=s.toks) (fun b o e=>jt e) (Iw _) ⟨hz,out,O,J,Y⟩,rfl⟩
end
abbrev Pky:Type:=List Nat×Int×List Nat
def pkV (x:Str):V->Pky
 | .int i=>(x.cps.toList,i,[])
 | .str y=>(x.cps.toList,0,y.cps.toList)
 |_=>(x.cps.toList,0,[])
def pkH (H:Hp)(a:Addr):Pky:=match H a with
 |some (.tup [.str x,v])=>pkV x v
 |_=>([],0,[])
def ltP:Pky->Pky->Bool:=mM (fun a b=>decide (a<b)) (mM (fun a b=>decide (a<b)) (fun a b=>decide (a<b)))
theorem yU:Lin ltP:=uw uv (uw uz uv)
def Snd (t:Bool)(v:V):Prop:=if t=true then ∃y,v=.str y else ∃i,v=.int i
section
theorem zw {x y:Str}(h:x.cps.toList=y.cps.toList):x=y:=by
 cases x;cases y;simp only[Str.mk.injEq];exact KU.mp h
theorem Ap {x y:Addr}{a b:Str}{p q:V}{O Y:LV9}{t:Bool}{C:Bool->Sh9->Prop}(hp:Snd t p)(hq:Snd t q)(ix:IsTup s.heap x O.toArray)(iy:IsTup s.heap y Y.toArray)(B:aV [.str a,p] O)(G:aV [.str b,q] Y)
  (h:C (ltP (pkV a p) (pkV b q)) s):wpAny (model prog w) A (keyLt' (tuples' true) (.ref x) (.ref y)) C (fun _ _=>False) s:=by
 obtain⟨ox,hx,_,n,dx⟩:=ix;obtain⟨oy,hy,_,m,dy⟩:=iy;cases B with
 |cons r1 B=>
 cases B with
 |cons r2 B=>
 cases B;cases G with
 |cons r3 G=>
 cases G with
 |cons r4 G=>
 cases G;obtain⟨t1,rfl⟩:=r1;obtain⟨t3,rfl⟩:=r3;refine kat_lt hx dx hy dy (kat_cons (wpAny_eqBool_str (kat_go (fun e=>kat_yes ?_) fun e=>kat_no ?_)))
 ·have e':a=b:=by simpa using e
  subst e';cases t with
  |true=>
   obtain⟨c,rfl⟩:=hp;obtain⟨d,rfl⟩:=hq;obtain⟨t2,rfl⟩:=r2;obtain⟨t4,rfl⟩:=r4;have J:ltP (pkV a (.str c)) (pkV a (.str d))=decide (c.cps.toList<d.cps.toList):=by
    simp only[ltP,mM,pkV,if_true];exact decide_eq_decide.mpr Iff.rfl
   rw[J]at h;refine kat_cons (wpAny_eqBool_str (kat_go (fun e=>kat_yes (kat_nil ?_)) fun e=>kat_no (kat_one _ _ (PySem.P.lt_str ?_))))
   ·have e':c=d:=by simpa using e
    subst e';rw[Jh (JP _)]at h;simpa using h
   ·exact h
  |false=>
   obtain⟨c,rfl⟩:=hp;obtain⟨d,rfl⟩:=hq;obtain⟨t2,rfl⟩:=r2;obtain⟨t4,rfl⟩:=r4;have J:ltP (pkV a (.int c)) (pkV a (.int d))=decide (c<d):=by
    simp only[ltP,mM,pkV,if_true];by_cases e:c=d
    ·subst e;simp
    ·exact (if_neg e).trans (decide_eq_decide.mpr Iff.rfl)
   rw[J]at h;refine kat_cons (wpAny_eqBool_int (kat_go (fun e=>kat_yes (kat_nil ?_)) fun e=>kat_no (kat_one _ _ (PySem.P.lt_int ?_))))
   ·have e':c=d:=by simpa using e
    subst e';simpa using h
   ·exact h
 ·have e':¬ a=b:=by simpa using e
  show wpAny _ _ (oneLt' true _ _) _ _ _;refine oneLt_str ?_;have J:ltP (pkV a p) (pkV b q)=decide (a.cps.toList<b.cps.toList):=by
   have f1:∀(x:Str) (v:V),(pkV x v).1=x.cps.toList:=fun x v=>by cases v<;>rfl
   unfold ltP mM;rw[f1,f1,if_neg fun e=>e' (zw e)]
  rw[<-J];exact h
def Prs (H:Hp)(t:Bool)(as:List Addr):Prop:=∀b∈as,∃x v,H b=some (.tup [.str x,v])/\Snd t v
theorem Ds (J:Prs H t as)(B:∀b x v,H b=some (.tup [.str x,v])->∃its:LV9,aV [.str x,v] its/\IsTup s.heap b its.toArray):
  AJ A prog w (as.map Value.ref) (fun v=>pkH H (kO v)) ltP (tuples' true) s:=by
 refine⟨fun h2 Q q=>?_,fun x y C hx hy q=>?_⟩
 ·have kt:∀(as:List Addr),Prs H t as->∃fs:LV9,KatTups s.heap (as.map Value.ref) fs/\fs.length=as.length/\∀v∈fs,∃(k:Str) (t:Tok),v=.str k t:=by
   intro as
   induction as with
   |nil=>intro _;exact⟨[],KatTups.nil,rfl,fun v G=>nomatch G⟩
   |cons a as ih=>
    intro J;obtain⟨x,v,e,_⟩:=J a (by simp);obtain⟨its,r,o,ho,hc,n,hd⟩:=B a x v e;obtain⟨fs,O,Y,f3⟩:=ih fun b hb=>J b (by simp[hb]);cases r with
    |cons r1 r=>
     obtain⟨tk,rfl⟩:=r1;refine⟨.str x tk::fs,KatTups.cons ho hc hd (by simp) O,by simp[Y],fun v G=>?_⟩;rcases IP.mp G with rfl|G
     ·exact⟨x,tk,rfl⟩
     ·exact f3 v G
  obtain⟨fs,O,Y,f3⟩:=kt as J;refine kat_kind (T:=.type "str") O (by rw[Y];rw[Iq]at h2;lia) (fun v G=>?_) (by decide) q
  obtain⟨k,t,rfl⟩:=f3 v G;exact Looks.now
 ·obtain⟨a,ha,rfl⟩:=Iv.mp hx;obtain⟨b,hb,rfl⟩:=Iv.mp hy;obtain⟨x,v,e1,s1⟩:=J a ha;obtain⟨y,u,e2,s2⟩:=J b hb;obtain⟨ix,r1,i1⟩:=B a x v e1;obtain⟨iy,r2,i2⟩:=B b y u e2;refine Ap s1 s2 i1 i2 r1 r2 ?_;have O:pkH H (kO (.ref a))=pkV x v:=by show pkH H a=_;unfold pkH;rw[e1]
  have Y:pkH H (kO (.ref b))=pkV y u:=by show pkH H b=_;unfold pkH;rw[e2]
  rw[<-O,<-Y];exact q
end
section
theorem eV:∀{as:List Addr} {its:LV9},aV (as.map V.ref) its->its=as.map Value.ref
 | [],its,r=>by cases r;rfl
 |a::as,its,r=>by
  cases r with
  |cons h t=>
   rw[eV t,show _=Value.ref a from h];rfl
theorem si:∀(as:List Addr),aV (as.map V.ref) (as.map Value.ref)
 | []=>.nil
 |_::as=>.cons rfl (si as)
theorem x6 (hc:X.calm=true):fO X (.builtin "sorted") (fun xs H Q=>∃(a:Addr) (t:Bool) (as:List Addr),xs=[.ref a]/\SqL X.K H a (as.map V.ref)/\Prs H t as /\
  ∀(S:Addr) (as':List Addr),H S=none->as'.Perm as->as'.Pairwise (fun x y=>ltP (pkH H y) (pkH H x)=false)->Q (.ref S) (upd H S (.lst (as'.map V.ref)))):=by
 intro pins s σ H xs us Q I r h;obtain⟨a,t,as,rfl,Y,hP,q⟩:=h;obtain⟨u,rfl,ru⟩:=iD r;cases ru;obtain⟨its,O,pl,sz⟩:=I.list Y;have sz':its.length<=sizeLine:=by rw[<-O.length];exact sz
 obtain rfl:=eV O;refine pW (kf:=fun v=>pkH H (kO v)) yU (collect_list pl.isList ?_ sz');have G:∀b o,s.heap.get? b=some o->((s.heap.push (seqObj "list" #[] 0)).update s.heap.objs.size (Obj.mapSeq (· ++ (as.map Value.ref).toArray))).get? b=some o:=fun b o e=>
  (Jk _ _ (Ne.symm (I0 (IK e)))).trans (Ir _ e)
 refine⟨sz',tuples' true,fun h' kp=>Ds (t:=t) hP fun b x v e=>?_,fun out J hw=>?_⟩
 ·obtain⟨_,its,r,it⟩:=I.hok b _ e;exact⟨its,r,it.keeps fun c o e=>kp c o (G c o e)⟩
 have ro:out=(out.map kO).map Value.ref:=by
  rw[Jp];refine (Mb out).symm.trans (Jg fun v hv=>?_);obtain⟨b,_,rfl⟩:=Iv.mp (J.mem_iff.mp hv);rfl
 have pm:(out.map kO).Perm as:=by
  have:=J.map kO
  rw[Jp]at this;have e:as.map (kO∘Value.ref)=as:=(Jg fun b _=>rfl).trans (Mb as);rw[e]at this;exact this
 have B:aV ((out.map kO).map V.ref) out:=by
  have:=si (out.map kO)
  rw[<-ro]at this;exact this
 obtain⟨S,h1,h2,h3⟩:=I.sortd (a:=a) (its:=as.map Value.ref) (by rw[B.length,J.length_eq];exact sz') B;subst h3;refine⟨.ref _,_,h2,rfl,q _ _ h1 pm ?_⟩;rw[Jc];exact hw
end
theorem uq:typeLookup (.type "list") "keys" = pure none:=by rw[typeLookup_type,builtinLookup_eq_fast];kernel_rfl
theorem sO:entryFor table "dict.update.loop" = some Builtin.«dict.update.loop» := entryFor_of_tree (by kernel_rfl)
theorem kn:plainId "dict.update.loop" = true:=by decide +kernel
section
theorem AI 
  (hx:s.heap.get? a=some o) (hc:o.cls=.type "list") (B:o.data=.seq xs k) (hd:o.dict=none) (G:typeLookup (.type "list") name=pure none) (J:(["__module__","__name__","__qualname__","__doc__","__annotations__"]:List Str).contains name=false) (hA:A.handled=none)
  (h:∀h' tk e,Heap.NewExcOf s.heap h' e "AttributeError" -> E (.ref e) {s with heap:=h',toks:=tk}) (hsz:name.length+100<=sizeLine:=by size_fits) :
  wpAny (model prog w) A (getAttrBy (.ref a) (.str name u) false) Q E s:=by
 obtain⟨c,a0,dat,sl⟩:=o;simp only at hc B hd;subst hc B hd;obtain⟨hp,g,d,tk,os⟩:=s;have hT:∀O,(⟨hp,g,d,O,os⟩:Sh9).TypeIs (.ref a) "list" := fun _=>⟨_,hx,rfl⟩
 have f1:=sub_AttributeError;have f3:=PySem.F.slot_list_getattribute.lookup;have f4:=PySem.F.slot_list_getattribute.bind (.ref a);have f5:=am_list_getattr_none;unfold getAttrBy
 repeat (any_goals (first | assumption | exact hT _ | ((with_reducible show wpAny _ _ (call (Value.builtin "list.__getattribute__") _ _) _ _ _);refine call_meets PySem.F.slot_list_getattribute (hT _) am_entry_list_getattribute (PySem.F.args_list_getattribute_2 _ _) (meets_getattribute_miss_list a xs k sl name _ G J hsz) ⟨hx,hA,fun h' O e Y=>?_⟩) | wp_step))
 all_goals (try (obtain⟨t',u',he⟩:=Y.there))
 all_goals (try (show wpAny _ _ (getattributeRaised _ _ _ _ _ _ _) _ _ _;unfold getattributeRaised))
 repeat (any_goals (first | assumption | wp_step))
 exact h _ _ _ Y.of
theorem Ed (G:s.heap.get? a=some o)(J:o.cls=.type "list")(B:o.data=.seq xs k)(O:o.dict=none)(Y:A.handled=none)
  (h:∀h' tk,(∀b u,s.heap.get? b=some u->h'.get? b=some u)->Q none {s with heap:=h',toks:=tk}):wpAny (model prog w) A (getAttr? (.ref a) "keys") Q E s:=by
 unfold getAttr? getAttrBy?;refine Ip (wpAny_mkText (Ip (wpAny_attempt (AI (s:={s with toks:=s.toks+1}) G J B O uq (by decide +kernel) Y (fun h' tk e x=>?_) (by rw[sizeLine_eq];decide +kernel)))));obtain⟨ob,vs,e1,e2,_⟩:=x.there;have hT:({s with heap:=h',toks:=tk}:Sh9).TypeIs (.ref e) "AttributeError" := ⟨ob,e1,e2⟩
 show wpAny _ _ (isInstance (.ref e) (.type "AttributeError") >>= _) _ _ _
 refine Ip (wpAny_isInstance hT sub_AttributeError ?_);simp only[if_true];exact IB (h h' tk x.keeps)
def GE {K:Type}[DecidableEq K](knd:KeyKind prog w K)(h:Heap)(items:Array Value)(ps:List (K×Value)):Prop :=
 items.size=ps.length/\∀(i:Nat) (v:Value),items[i]? = some v->∃(a:Addr) (o:Obj) (n:Nat) (key x:Value) (k:K),v=.ref a/\h.get? a=some o/\o.cls=.type "tuple" /\ o.data=.seq #[key,x] n/\knd.is k key=true/\ps[i]? = some (k,x)
theorem Gp {K:Type}[DecidableEq K]{knd:KeyKind prog w K}{R:Result->Sh9->Prop}{d it l:Addr}{items:Array Value}{ps:List (K×Value)}(hh:A.handled=none)(b1:d≠l)(O:d≠it)(a0:l≠it)(nd:(ps.map (·.1)).Nodup)(hsz:ps.length<=sizeLine):
  ∀(m i:Nat) (s:Sh9) (tk:Tok),items.size-i=m->i<=items.size->s.heap.IsListIter it l i->s.heap.IsList l items->GE knd s.heap items ps->s.heap.DictOf knd d (ps.take i) ->
   (∀(j:Nat) (b:Addr),items[j]? = some (.ref b)->b≠d/\b≠it) ->
   (∀h' B,h'.DictOf knd d ps->(∀b u,b≠d->b≠it->s.heap.get? b=some u->h'.get? b=some u)->R (.ok (.ret .none)) {s with heap:=h',toks:=B}) ->
   codeAny (model prog w) A (.builtin "dict.update.loop" ⟨[.ref d,.ref it,.int (i:Int) tk,.none],[]⟩) R s:=by
 intro m
 induction m with
 |zero=>
  intro i s tk hm hi Y hl hP hd G hR;have e:i=items.size:=by lia
  subst e;refine codeAny_builtin sO ?_;rw[Around.under_plainId kn _];show wpAny _ A.in1 (pyNext (.ref it) >>= _) _ _ s;refine Ip ((Walks.list (A:=A.in1) hh it l a0 items).done s _ _ ⟨Y,hl⟩ fun h' B kk=>?_);show wpAny _ _ (Builtin.Dict.addKeywords d [] >>= fun _=>ret Value.none) _ _ _;refine Ip (IB (IB (hR h' B ?_ fun b u _ hb e=>kk b u (by simpa using hb) e)));have e1:ps.take items.size=ps:=by rw[hP.1];exact Jw
  rw[e1]at hd;obtain⟨o,es,ep,ho,r⟩:=hd;exact⟨o,es,ep,kk d o (by simpa using O) ho,r⟩
 |succ m ih=>
  intro i s tk hm hi Y hl hP hd G hR;have a1:i<items.size:=by lia
  refine codeAny_builtin sO ?_;rw[Around.under_plainId kn _];show wpAny _ A.in1 (pyNext (.ref it) >>= _) _ _ s;refine Ip ((Walks.list (A:=A.in1) hh it l a0 items).item i s _ _ a1 ⟨Y,hl⟩ fun v h' B hv a2 kk=>?_);obtain⟨b,o,n,key,x,k,rfl,hb,hc,a3,hk,a4⟩:=hP.2 i v hv;have b2:=G i b hv;have hb':h'.get? b=some o:=kk b o (by simpa using b2.2) hb;have hd':h'.DictOf knd d (ps.take i):=by
   obtain⟨o,es,ep,ho,r⟩:=hd;exact⟨o,es,ep,kk d o (by simpa using O) ho,r⟩
  dsimp only;refine Ip (wpAny_holding (Ip (wpAny_tryCatch ?_)));unfold Builtin.Dict.pairItems;refine Ip (wpAny_typeOf (T := "tuple") ⟨o,hb',hc⟩ ?_)
  rw[if_pos (by decide)];unfold seqItems?;refine Ip (Ip (wpAny_load hb' ?_));rw[a3];refine IB (IB ?_);show wpAny _ _ (holding [key,x] (dictSet d key x)) _ _ _;have b4:i<ps.length:=(Ix.mp a4).1;have et:ps.take (i+1)=ps.take i++[(k,x)]:=by rw[Jf,a4];rfl
  refine wpAny_holding (wpAny_dictSet_pairs (s:={s with heap:=h',toks:=B}) hk hd' (fun h2 a5 sb=>?_) (by rw[Jl];lia));have ea:stored (ps.take i) k x=ps.take (i+1):=by
   unfold stored;rw[if_neg,et];intro h;rw[LU]at h;obtain⟨q,hq,e⟩:=h;have e':q.1=k:=by simpa using e
   have a6:((ps.take (i+1)).map (·.1)).Nodup:=by
    have:=nd.sublist ((LI (i+1) ps).map (·.1))
    exact this
   rw[et,IT,JF]at a6;exact a6.2.2 q.1 (Jr hq) k (by simp) e'
  rw[ea]at a5;have J:∀b u,b≠d->h'.get? b=some u->h2.get? b=some u:=fun b u hb e=>(sb.2 b hb).trans e;refine IB ⟨plainId_quiet kn _,?_⟩;have ei:rawInt ((i:Int)+1)=Value.int ((i+1:Nat):Int) 0:=rfl;rw[ei];refine ih (i+1) {s with heap:=h2,toks:=B+1} 0 (by lia) a1 ?_ ?_ ?_ a5 G fun h3 b3 q1 q2=>hR h3 b3 q1 fun b u a7 a8 e=>q2 b u a7 a8 (J b u a7 (kk b u (by simpa using a8) e))
  ·exact a2.1.at fun o e=>J it o (Ne.symm O) e
  ·exact a2.2.at fun o e=>J l o (Ne.symm b1) e
  ·refine⟨hP.1,fun j v a9=>?_⟩;obtain⟨b',o',n',b0,x',k',e1,e2,e3,e4,e5,e6⟩:=hP.2 j v a9;subst e1;have hbn':=G j b' a9;exact⟨b',o',n',b0,x',k',rfl,J b' o' hbn'.1 (kk b' o' (by simpa using hbn'.2) e2),e3,e4,e5,e6⟩
end
section
theorem oU {K:Type}[DecidableEq K]{knd:KeyKind prog w K}{l:Addr}{items:Array Value}{ps:List (K×Value)}{Q:EV9}(hh:A.handled=none)(hl:PlainL s.heap l items)(hP:GE knd s.heap items ps)(nd:(ps.map (·.1)).Nodup)(hsz:ps.length<=sizeLine)
  (h:∀h' tk,h'.DictOf knd s.heap.objs.size ps->(∀b u,s.heap.get? b=some u->h'.get? b=some u)->Q (.ref s.heap.objs.size) {s with heap:=h',toks:=tk}) :
  wpAny (model prog w) A (call (.type "dict") [.ref l]) Q E s:=by
 refine callType_codes (Q₁:=fun a0 s₁=>a0=.ref s.heap.objs.size/\s₁={s with heap:=s.heap.push {cls:=.type "dict",data:=.dict #[]} }) PySem.F.kt_called_dict (PySem.F.kt_typeCall_dict_1 _) PySem.F.entry_dict_init (kt_code_dict_new _ ⟨rfl,rfl⟩) ?_
 rintro a0 s₁ ⟨rfl,rfl⟩;have B:(s.heap.push {cls:=.type "dict",data:=.dict #[]}).DictOf knd s.heap.objs.size []:=Heap.DictOf.new s.heap
 obtain⟨o,n,ho,hc,a4,J⟩:=hl;have a1:l<s.heap.objs.size:=IK ho;have ho':(s.heap.push {cls:=.type "dict",data:=.dict #[]}).get? l=some o:=Ir _ ho
 refine⟨B.typeIs,PySem.F.args_dict_init_2 _ _,?_⟩;unfold Builtin.«dict.__init__»;refine Ip ?_;unfold Builtin.Dict.selfAndRest;refine Ip (wpAny_notOrdered_dict B.typeIs ?_);show wpAny _ _ (pure (s.heap.objs.size,[Value.ref l])) _ _ _;refine IB ?_;show wpAny _ _ (Builtin.Dict.updateFrom "dict.__init__" s.heap.objs.size (.ref l) [] .none) _ _ _
 unfold Builtin.Dict.updateFrom;refine Ip (wpAny_typeOf (T := "list") ⟨o,ho',hc⟩ ?_)
 rw[if_pos (by decide)];refine Ip (Ed ho' hc J a4 hh fun h1 a5 k1=>?_);dsimp only at k1 ⊢;rw[if_pos (show (none:OV9).isNone=true from rfl)];refine Ip (wpAny_rule ?_);have a2:h1.IsList l items:=⟨o,k1 l o ho',hc,n,J⟩;refine Ip (wpAny_pyIter_list a2 ?_);dsimp only;have a3:h1.DictOf knd s.heap.objs.size []:=by
  obtain⟨o,es,ep,ho,r⟩:=B;exact⟨o,es,ep,k1 _ o ho,r⟩
 have G:s.heap.objs.size<h1.objs.size:=by
  obtain⟨o,es,ep,ho,r⟩:=a3;exact IK ho
 refine IB ⟨plainId_quiet kn _,?_⟩;have e0:rawInt 0=Value.int ((0:Nat):Int) 0:=rfl;rw[e0];have kp:∀b u,s.heap.get? b=some u->h1.get? b=some u:=fun b u e=>k1 b u (Ir _ e);have a6:(h1.push {cls:=.type "list_iterator",data:=.fields #[.ref l,.int 0 0]}).IsListIter h1.objs.size l 0:=⟨_,IH _ rfl,rfl,rfl⟩
 refine Gp (A:=A.in1) (knd:=knd) (l:=l) (items:=items) (ps:=ps) (show A.in1.handled=none from hh) (Kk a1) (I0 G) (I0 (Ld a1 G)) nd hsz items.size 0 {s with heap:=h1.push {cls:=.type "list_iterator",data:=.fields #[.ref l,.int 0 0]},toks:=a5} 0 (by rfl) (IG _) a6 ?_ ?_ ?_ ?_ fun h2 a7 q1 q2=>?_
 ·obtain⟨o',Y,r⟩:=a2;exact⟨o',Ir _ Y,r⟩
 ·refine⟨hP.1,fun j v hv=>?_⟩;obtain⟨b',o',n',O,x',k',e1,e2,e3,e4,e5,e6⟩:=hP.2 j v hv;exact⟨b',o',n',O,x',k',e1,Ir _ (kp _ _ e2),e3,e4,e5,e6⟩
 ·obtain⟨o',es,ep,Y,r⟩:=a3;exact⟨o',es,ep,Ir _ Y,r⟩
 ·intro j b hv;obtain⟨b',o',n',O,x',k',e1,e2,_⟩:=hP.2 j _ hv;cases e1
  have:=IK e2
  exact⟨I0 this,I0 (Ld this G)⟩
 ·exact⟨rfl,h h2 a7 q1 fun b u e=>q2 b u (I0 (IK e)) (I0 (Ld (IK e) G)) (Ir _ (kp b u e))⟩
end
abbrev mY (H:Hp):List Addr->LK9->Prop:=Paired fun a kv=>H a=some (.tup [kV kv.1,kv.2])
section
theorem q8 (hc:X.calm=true):fO X (.type "dict") (fun xs H Q=>∃(a:Addr) (as:List Addr) (kvs:LK9),xs=[.ref a]/\SqL X.K H a (as.map V.ref)/\mY H as kvs/\(kvs.map (·.1)).Nodup/\Nw H (.dK kvs) fun p H=>Q (.ref p) H):=by
 intro pins s σ H xs us Q I r h;obtain⟨a,as,kvs,rfl,hS,hA,nd,q⟩:=h;obtain⟨u,rfl,ru⟩:=iD r;cases ru;obtain⟨its,rv,pl,sz⟩:=I.list hS;obtain rfl:=eV rv;have key:∀(as:List Addr) (kvs:LK9),mY H as kvs->∃ps:List (Key×Value),KV kvs ps/\GE (aw X.prog X.w) s.heap (as.map Value.ref).toArray ps:=by
  intro as
  induction as with
  |nil=>
   intro kvs h;cases h;exact⟨[],.nil,rfl,fun i v hv=>by simp at hv⟩
  |cons b as ih=>
   intro kvs h;cases h with
   | @cons _ kv _ kvs hb t=>
    obtain⟨ps,G,J,k3⟩:=ih kvs t;obtain⟨_,its,O,o,ho,a0,n,Y⟩:=I.hok b _ hb;cases O with
    |cons r1 O=>cases O with
     |cons r2 O=>
      cases O
      rename_i B x'
      refine⟨(kv.1,x')::ps,.cons ⟨rfl,r2⟩ G,?_,fun i v hv=>?_⟩
      ·rw[IV,Iq]at J ⊢;rw[Jb,Jb,J]
      ·cases i with
       |zero=>
        have e:Value.ref b=v:=by simpa using hv
        exact⟨b,o,n,B,x',kv.1,e.symm,ho,a0,by rw[Y],fM r1,rfl⟩
       |succ i=>
        obtain⟨b',o',n',B,x',k',e1,e2,e3,e4,e5,e6⟩:=k3 i v (by simpa using hv);exact⟨b',o',n',B,x',k',e1,e2,e3,e4,e5,by simpa using e6⟩
 obtain⟨ps,G,J⟩:=key as kvs hA;have lk:kvs.length=ps.length:=KV.length G;have a1:ps.length<=sizeLine:=by
  have:=J.1
  rw[IV,Iq]at this;rw[Iq]at sz
  lia
 have ek:ps.map (·.1)=kvs.map (·.1):=by
  have:∀{kvs:LK9} {ps:List (Key×Value)},KV kvs ps->ps.map (·.1)=kvs.map (·.1):=fun {kvs}=>by
   induction kvs with
   |nil=>intro ps h;cases h;rfl
   |cons a kvs ih=>
    intro ps h;cases h with
    |cons r t=>rw[IR,IR,ih t,r.1]
  exact this G
 refine oU (knd:=aw X.prog X.w) (ps:=ps) (I.ok.hd hc) pl J (by rw[ek];exact nd) a1 fun h' tk hd kp=>?_;refine⟨.ref s.heap.objs.size,upd H s.heap.objs.size (.dK kvs),I.laid (t':=tk) kp (Iw _) ⟨by lia,?_,ps,G,hd⟩,rfl,q _ (I.hok.fresh (Iw _))⟩
 have:=I.big
 cases e:(s.heap.objs.size==sysModules) with
 |false=>rfl
 |true=>
  have e':s.heap.objs.size=sysModules:=by simpa using e
  rw[e']at this;exact absurd this (Kb _)
end
section
theorem BZ (B:X.A.units+1<cLine):OpR X (compareOp .In) (fun x y H Q=>∃(a:Addr) (o:OW9),y=.ref a/\dC H a x o/\Q (.bl o.isSome) H):=by
 intro pins s σ H x y v u Q I G J h;obtain⟨a,o,rfl,g,q⟩:=h;cases J;exact Ii B I g G fun s' O=>⟨.bl _,H,O,rfl,q⟩
theorem cS (B:X.A.units+1<cLine):OpR X (compareOp .NotIn) (fun x y H Q=>∃(a:Addr) (o:OW9),y=.ref a/\dC H a x o/\Q (.bl (!o.isSome)) H):=by
 intro pins s σ H x y v u Q I G J h;obtain⟨a,o,rfl,g,q⟩:=h;cases J;exact EC B I g G fun s' O=>⟨.bl _,H,O,rfl,q⟩
end
end L2
namespace L2
open PySem PySem.Spec PySem.Calls PyProof.Rows
variable {X:Cx}
def Itk (d:Addr)(ob:Obj)(kvs:LK9):It :=
 ⟨fun i H=>H d=some (.frz ob (.dK kvs))/\i<kvs.length,fun i H x H'=>H'=H/\∃k v,kvs[i]? = some (k,v)/\x=kV k,fun i H=>H d=some (.frz ob (.dK kvs))/\kvs.length<=i⟩
theorem HM (h:mQ k v=true):aZ (kV k) v:=by
 rcases bA h with⟨i,t,rfl,rfl⟩|⟨x,t,rfl,rfl⟩
 ·exact⟨t,rfl⟩
 ·exact⟨t,rfl⟩
theorem He {κ:Type}{kvs:List (κ×V)}{vs:List (κ×Value)}(h:KV kvs vs):∀{i:Nat} {k:κ} {x:Value},vs[i]? = some (k,x)->∃v,kvs[i]? = some (k,v)/\aZ v x:=by
 have h':Paired _ kvs vs:=h
 clear h
 induction h' with
 |nil=>intro i k x e;cases e
 | @cons a b as bs h _ ih=>
  intro i k x e;cases i with
  |zero=>cases e;exact⟨a.2,I_ some (Prod.ext h.1 rfl),h.2⟩
  |succ i=>exact ih e
theorem Cp {κ:Type}{kvs:List (κ×V)}{vs:List (κ×Value)}(h:KV kvs vs){i:Nat}{k:κ}{x:Value}(e:vs[i]? = some (k,x)):∃v,kvs[i]? = some (k,v) :=
 (He h e).imp fun _ h=>h.1
theorem zF {P:Pg9}{w:Wd9}{K:Frag}{tg:Expr}{h0:Heap}{d it:Addr}{ob:Obj}{kvs:LK9}{vs:List (Key×Value)}{ep:Nat}(kv:KV kvs vs)(hD:h0.DictAt (aw P w) d vs ep)(G:h0.get? d=some ob)(a0:d≠it):
  wP P w K tg (Itk d ob kvs) [it] it (fun i h=>h.IsKeyIter it d i vs.length ep) where
 mem:=by simp
 obj:=fun i h st b B=>by
  have e:b=it:=by simpa using B
  subst e;obtain⟨o,e,c,dd⟩:=st;exact⟨o,e,fun v z=>by rw[dd]at z;cases z⟩
 keep:=fun i h h' st k=>st.at fun o e=>k it (by simp) o e
 item:=by
  intro X hP hw hK hc i pins s σ H E I Y st hg;subst hP hw hK;obtain⟨f0,f1,f2,f3,f4,f5⟩:=Y it (by simp);obtain⟨hd,hi⟩:=hg;have hl:kvs.length=vs.length:=Paired.length kv;have hD':s.heap.DictAt (aw X.prog X.w) d vs ep:=hD.at' fun o e=>by
   rw[G]at e;cases e;exact (I.hok d _ hd).1
  obtain⟨⟨k,x⟩,hx⟩:∃p,vs[i]? = some p:=⟨vs[i],by simp[<-hl,hi]⟩;refine wpAny_pyNext_dict_item st hD' hx fun key h' J O sb=>?_;have I1:Inv X pins σ H {s with heap:=h' }:=I.turned (t':=s.toks) (fun b o B e=>(sb.2 b B).trans e) f0 f1 f3 f4 f5;obtain⟨o,e,c,dd⟩:=id O;obtain⟨v,hv⟩:=Cp kv hx;exact⟨key,rfl,sJ (s:={s with heap:=h' }) e c dd (by decide) ⟨kV k,H,I1,HM J,⟨rfl,k,v,hv,rfl⟩,O,fun b B=>(Y b B).1⟩⟩
 done:=by
  intro X hP hw hK hc i pins s σ H E I Y st hg;subst hP hw hK;obtain⟨f0,f1,f2,f3,f4,f5⟩:=Y it (by simp);obtain⟨hd,hi⟩:=hg;have hl:kvs.length=vs.length:=Paired.length kv;have hD':s.heap.DictAt (aw X.prog X.w) d vs ep:=hD.at' fun o e=>by
   rw[G]at e;cases e;exact (I.hok d _ hd).1
  exact wpAny_pyNext_dict_end (I.ok.hd hc) st hD' (by rw[Kd];lia) fun h' eb=>⟨rfl,I.turned (t':=s.toks) (fun b o B e=>eb b o B e) f0 f1 f3 f4 f5⟩
 self:=fun _ _ _ _ _ st h=>wpAny_pyIter_keyiter st h
section
abbrev Hk (tl:TE):TI:=fun σ H R=>tl σ H fun x H1=>∃d kvs,x=.ref d/\H1 d=some (.dK kvs)/\∀ob,R (Itk d ob kvs) (upd H1 d (.frz ob (.dK kvs)))
theorem Inv.frozen (I:Inv X pins σ H s)(e:H d=some (.dK kvs))(G:s.heap.get? d=some ob):Inv X pins σ (upd H d (.frz ob (.dK kvs))) s:=by
 have B:∀b o,H b=some o->b≠d->upd H d (.frz ob (.dK kvs)) b=some o:=fun b o q n=>by rw[aA n];exact q
 refine I.un (t':=s.toks) ⟨fun b o q _ _ _=>q,fun b o q _ _ _=>⟨o.slots,q⟩,fun b o q n _=>?_,fun b o q _=>⟨o,q⟩,fun b xs q=>B b _ q fun z=>?_,fun b o u q=>B b _ q fun z=>?_,fun b ps q=>⟨#[],?_⟩⟩ fun b u q=>?_
 ·rw[aA fun z=>by rw[z,e]at n;cases n];exact n
 ·rw[z,e]at q;cases q
 ·rw[z,e]at q;cases q
 ·rw[B b _ q fun z=>by rw[z,e]at q;cases q];simp
 ·by_cases hb:b=d
  ·subst hb;rw[ag]at q;cases q;refine⟨G,?_⟩;exact (I.hok b _ e).stay (fun _ _ _ r=>r) (fun c r=>B c _ r fun z=>by rw[z,e]at r;cases r) fun c xs r=>B c _ r fun z=>by rw[z,e]at r;cases r
  ·rw[aA hb]at q;exact (I.hok b u q).stay (fun _ _ _ r=>r) (fun c r=>B c _ r fun z=>by rw[z,e]at r;cases r) fun c xs r=>B c _ r fun z=>by rw[z,e]at r;cases r
theorem DS (hl:PE X l tl):PI X tg l (Hk tl):=by
 intro pins s σ H R I h;refine thn (hl pins s σ H _ I h) fun v B ⟨x,H1,I1,r1,q1⟩=>?_;obtain⟨d,kvs,e,hd,q⟩:=q1;subst e;cases r1;obtain⟨_,hs,vs,kv,J⟩:=I1.hok d _ hd;obtain⟨o,es,ep,G,r⟩:=id J;have hD:B.heap.DictAt (aw X.prog X.w) d vs ep:=⟨o,es,G,r⟩;refine wpAny_pyIter_dict hs hD ?_;have O:=I1.frozen hd G;have Y:d<B.heap.objs.size:=IK G;refine⟨B.heap.objs.size,[B.heap.objs.size],_,_,_,rfl,O.kept (t':=B.toks) fun b o e=>Ir _ e,zF kv hD G (I0 Y),⟨_,IH _ rfl,rfl,rfl⟩,fun b hb=>?_,q o⟩;have e:b=B.heap.objs.size:=by simpa using hb
 subst e;exact O.fpOk (Iw _) (O.hok.fresh (Iw _))
end
theorem Cy {d:Addr}{B:Obj}{kvs:LK9}{g:TG}{tb:TS}{D:rC}{σ:St}{H:Hp}(Pv:NS9)(O:Pv 0 σ H)(Y:∀i σ H,i<=kvs.length->Pv i σ H->H d=some (.frz B (.dK kvs)))
  (hs:∀i k v σ H,kvs[i]? = some (k,v)->Pv i σ H->g (kV k) σ H fun G H2=>tb {D with nx:=Pv (i+1),ct:=Pv (i+1),bk:=D.nx} G H2) (hd:∀σ H,Pv kvs.length σ H->D.nx σ H) :
  ∃W:Nat->NS9,(∃m,W 0 m σ H)/\∀i m σ H,W i m σ H ->
   ((Itk d B kvs).stop i H/\D.nx σ H)\/((Itk d B kvs).go i H/\∃N:SP9,(∀J H',N J H'->∃m',m'<m/\W (i+1) m' J H')/\∀x H',(Itk d B kvs).yld i H x H'->g x σ H' fun G H2=>tb {D with nx:=N,ct:=N,bk:=D.nx} G H2):=by
 refine⟨fun i m σ H=>m=kvs.length-i/\i<=kvs.length/\Pv i σ H,⟨kvs.length,by simp,IG _,O⟩,?_⟩;rintro i m σ H ⟨rfl,hi,p⟩;have q:=Y i σ H hi p;by_cases hlt:i<kvs.length
 ·refine .inr ⟨⟨q,hlt⟩,Pv (i+1),fun J H' p'=>⟨kvs.length-(i+1),by omega,rfl,hlt,p'⟩,fun x H' y=>?_⟩;obtain⟨e,k,v,hk,rfl⟩:=y;subst e;exact hs i k v σ _ hk p
 ·have e:i=kvs.length:=by lia
  subst e;exact .inl ⟨⟨q,Iw _⟩,hd σ H p⟩
section
theorem GJ (r:aV [x,y,z] us):∃u v B,us=[u,v,B]/\aZ x u/\aZ y v/\aZ z B:=by
 cases r with
 |cons r1 r2=>
  obtain⟨v,B,rfl,h,h'⟩:=jB r2;exact⟨_,v,B,rfl,r1,h,h'⟩
end
open PySem.W
section
variable {prog:Pg9}{w:Wd9}{A:Around}{E:EV9}{s:Sh9}{α:Type}{lt:α->α->Bool}
theorem vE (L:Lin lt)(G:wpAny (model prog w) A.in1 (collect (.ref r)) (fun vs B=>vs.length<=sizeLine/\∃(kf:Value->α) (κ:SortKind),(∀h',(∀b o,B.heap.get? b=some o->h'.get? b=some o)->AJ A.in1.in1 prog w vs kf lt κ {B with heap:=h' }) /\
   ∀out:LV9,out.Perm vs->out.Pairwise (fun x y=>lt (kf y) (kf x)=false)->Q (.ref B.heap.objs.size) {B with heap:=sortedHeap (B.heap.push (seqObj "list" vs.toArray 0)) B.heap.objs.size vs out.toArray}) E s) :
  wpAny (model prog w) A (call (.builtin "sorted") [.ref r]) Q E s:=by
 refine Calls.call_function_entry kind_sorted plain_sorted entry_sorted (args_sorted1 _) ?_;unfold Builtin.«sorted»;refine Ip (m:=checkCount "sorted" 1 1 _) (IB ?_)
 refine Ip (Jy G (fun vs B ⟨sz,kf,κ,O,Y⟩=>?_) fun _ _ e=>e);refine Ip (wpAny_newList ?_ sz);have J:(B.heap.push (seqObj "list" vs.toArray 0)).get? B.heap.objs.size=some (seqObj "list" vs.toArray 0):=IH _ rfl
 show wpAny _ _ _ _ _ {B with heap:=B.heap.push (seqObj "list" vs.toArray 0)}
 refine Ip (wpAny_holding (wpAny_call_entry slot_list_sort ⟨_,J,rfl⟩ entry_list_sort (kL (kf:=kf) (κ:=κ) L J sz (fun h' kp=>O h' fun b o e=>?_) fun out o u=>⟨_,rfl,?_⟩) (args_list_sort _)))
 ·exact kp b o (I0 (IK e)) (Ir _ e)
 ·exact IB ⟨_,rfl,Y out o u⟩
end
abbrev NK:Type:=(Int×Int)×Int
def inn (p:Int×Int):List Key:=[.inl p.1,.inl p.2]
theorem pC (h:inn p=inn q):p=q:=by
 simp only[inn,List.cons.injEq,Sum.inl.injEq,and_true]at h;exact Prod.ext h.1 h.2
def n8 (P:Pg9)(w:Wd9)(h:Heap)(k:NK)(a:Addr):Prop:=∃(b:Addr) (t:Tok),IsTup h a #[.ref b,.int k.2 t]/\(tupleKind (aw P w)).is h (inn k.1) b
section
theorem yi (i:IsTup h a u)(j:IsTup h a v):u=v:=by
 obtain⟨o,e,_,n,q⟩:=i;obtain⟨o',G,_,J,B⟩:=j;cases e.symm.trans G;rw[q]at B;injection B
theorem n8.inj (B:n8 P w h x a)(G:n8 P w h y a):x=y:=by
 obtain⟨b,t,i,j⟩:=B;obtain⟨Y,t',J,O⟩:=G;have e:=I_ Lz (yi i J);injection e with e1 e2;injection e1 with e1;injection e2 with e2;injection e2 with e2 _;subst e1;exact Prod.ext (pC (IsTupleKey.inj j O)) e2
theorem n8.keeps {es ep}(i:n8 P w h k a)(G:h.get? d=some o)(J:o.data=.dict es ep)(O:Heap.SameBut d h h'):n8 P w h' k a:=by
 obtain⟨b,t,⟨o',Y,c',n',B⟩,j⟩:=i;refine⟨b,t,⟨o',(O.2 a fun z=>?_).trans Y,c',n',B⟩,IsTupleKey.keeps j G J O⟩;subst z;cases G.symm.trans Y;rw[J]at B;exact nomatch B
end
def uo (P:Pg9)(w:Wd9)(k:NK):Int:=reduceHash (Builtin.Tuple.tupleHashOf [tupleKeyHash (aw P w) (inn k.1),hashInt k.2])
section
theorem Ee (J:A.units+1<cLine)(i:n8 P w s.heap k a)(h:Q (uo P w k) {s with toks:=s.toks+5}):wpAny (model P w) A (PySem.pyHash (.ref a)) Q E s:=by
 obtain⟨b,t,⟨o,O,Y,n,hd⟩,j⟩:=i;have B:s.TypeIs (.ref a) "tuple" := ⟨o,O,Y⟩
 have G:A.units<cLine:=LH J;unfold pyHash pyHashByItsType;refine Ip (wpAny_cRoomFor_or (.inr G) (Ip (wpAny_specialOf B F.slot_tuple_hash.lookup ?_)));show wpAny _ _ (if (some (Value.builtin "tuple.__hash__")==some Value.none)=true then _ else _) Q E s
 rw[if_neg (by rw[beq_builtin_none];exact IL)];refine Ip (wpAny_specialOf B F.slot_tuple_hash.lookup (?_:wpAny _ _ (callSpecialIfBoundUnlessNone? (.ref a) "__hash__" _ >>= _) Q E s))
 refine Ip (wpAny_callSpecialIfBoundUnlessNone?_slot B F.slot_tuple_hash (wpAny_call_entry F.slot_tuple_hash B F.entry_tuple_hash (?_:wpAny _ _ (Builtin.Tuple.tupleItemsOf (.ref a) >>= _) _ _ s) (F.args_tuple_hash_1 _)));refine Ip (wpAny_tupleItemsOf O hd (Ip ?_));rw[<-K6];show wpAny _ _ (forIn [Value.ref b,Value.int k.2 t] _ _) _ _ s;rw[Kw];refine Ip (Ip (wpAny_pyHash_tuple (ks:=inn k.1) J j ?_));refine IB ?_;show wpAny _ _ (forIn [Value.int k.2 t] _ _) _ _ _;rw[Kw];refine Ip (Ip (wpAny_pyHash_int (IB ?_)));show wpAny _ _ (forIn ([]:LV9) _ _) _ _ _;rw[LA];refine IB (?_:wpAny _ _ (retInt (Builtin.Tuple.tupleHashOf [tupleKeyHash (aw P w) (inn k.1),hashInt k.2])) _ _ _);refine wpAny_ret_mkInt ?_;generalize hz:Builtin.Tuple.tupleHashOf [tupleKeyHash (aw P w) (inn k.1),hashInt k.2]=z;have hk:uo P w k=reduceHash z:=by unfold uo;rw[hz]
 rw[hk]at h;unfold reduceHash at h;show wpAny _ _ (if (decide (-(2:Int)^63<=z)&&decide (z<2^63))=true then _ else _) Q E _;by_cases hr:(decide (-(2:Int)^63<=z)&&decide (z<2^63))=true
 ·rw[if_pos hr]at h ⊢;exact IB h
 ·rw[if_neg hr]at h ⊢;exact Ip (wpAny_rule (IB h))
theorem uI (i:(tupleKind (aw P w)).is h (inn p) b):∃t u,IsTup h b #[.int p.1 t,.int p.2 u]:=by
 obtain⟨o,items,n,e,c,q,r⟩:=i;have r':ItemsAre (aw P w) [.inl p.1,.inl p.2] items.toList:=r;generalize J:items.toList=l at r';cases r' with
 |cons h1 r'=>
 cases r' with
 |cons h2 r'=>
 cases r';have h1':mQ (.inl p.1) _=true:=h1;have h2':mQ (.inl p.2) _=true:=h2;rcases bA h1' with⟨i1,O,B,Y⟩ | ⟨_,_,B,_⟩
 ·rcases bA h2' with⟨i2,t2,G,e4⟩|⟨_,_,G,_⟩
  ·injection B with B;injection G with G;subst B G Y e4;refine⟨O,t2,o,e,c,n,?_⟩;rw[q,<-Array.toArray_toList (xs:=items),J]
  ·cases G
 ·cases B
theorem eq_int (A:Around)(s:Sh9)(i j:Int)(t u:Tok):SeqAt.EqAt A s (.int i t) (.int j u) (decide (i=j)):=fun _ _ _ _ h=>wpAny_eqBool_int h
theorem rT (i:IsTup h a xs):h.IsTuple a xs:=i
theorem uL {a b:Addr}{x y u v:Value}{p q:Bool}(B:A.units<cLine)(G:IsTup s.heap a #[x,y])(J:IsTup s.heap b #[u,v])(O:SeqAt.EqAt A.in1 s x u p)(Y:SeqAt.EqAt A.in1 s y v q)(hs:a=b->p=true/\q=true):SeqAt.EqAt A s (.ref a) (.ref b) (p&&q):=by
 by_cases hab:a=b
 ·obtain⟨rfl,rfl⟩:=hs hab;subst hab;exact SeqAt.EqAt.same _
 ·refine SeqAt.EqAt.of_refs hab ?_
  have:=SeqAt.RcAt.tuples (A:=A) (s:=s) (e:=fun j=>if j=0 then p else q) (rT G) (rT J) B (fun j h1 h2=>?_)
  ·have e3:(List.range (min (#[x,y]:Array Value).size (#[u,v]:Array Value).size)).all (fun j=>if j=0 then p else q)=(p&&q):=by
    show ([0,1].all fun j=>if j=0 then p else q)=_;simp
   rw[e3]at this;simpa using this
  ·rcases j with _|_|j
   ·exact O
   ·exact Y
   ·exact absurd h1 (by simp)
theorem CC {p q:Int×Int}{b c:Addr}(B:A.units<cLine)(i:(tupleKind (aw P w)).is s.heap (inn p) b)(j:(tupleKind (aw P w)).is s.heap (inn q) c):SeqAt.EqAt A s (.ref b) (.ref c) (decide (p=q)):=by
 obtain⟨O,Y,G⟩:=uI i;obtain⟨t2,u2,J⟩:=uI j
 have:=uL B G J (eq_int _ _ _ _ _ _) (eq_int _ _ _ _ _ _) fun e=>by
  subst e
  have:=pC (IsTupleKey.inj i j)
  subst this;exact⟨IC rfl,IC rfl⟩
 have e:(decide (p.1=q.1)&&decide (p.2=q.2))=decide (p=q):=by
  rw[JH,JC,Jd,Jd,Jd];exact⟨fun h=>Prod.ext h.1 h.2,fun h=>by rw[h];exact⟨rfl,rfl⟩⟩
 rw[e]at this;exact this
theorem eq_nk {x y:NK}{a b:Addr}(G:A.units+1<cLine)(J:n8 P w s.heap x a)(O:n8 P w s.heap y b):SeqAt.EqAt A s (.ref a) (.ref b) (decide (x=y)):=by
 have B:=fun (e:a=b)=>J.inj (by rw[e];exact O);obtain⟨b1,t1,Y,j1⟩:=J;obtain⟨b2,t2,i2,j2⟩:=O
 have:=uL (LH G) Y i2 (CC (A:=A.in1) G j1 j2) (eq_int _ _ _ _ _ _) fun e=>by
  have:=B e
  subst this;exact⟨IC rfl,IC rfl⟩
 have e:(decide (x.1=y.1)&&decide (x.2=y.2))=decide (x=y):=by
  rw[JH,JC,Jd,Jd,Jd];exact⟨fun h=>Prod.ext h.1 h.2,fun h=>by rw[h];exact⟨rfl,rfl⟩⟩
 rw[e]at this;exact this
theorem G9 (B:A.units+1<cLine)(G:n8 P w s.heap x a)(J:n8 P w s.heap y b)(h:Q (decide (x=y)) s):wpAny (model P w) A (PySem.eqBool (.ref a) (.ref b)) Q E s:=by
 exact eq_nk B G J P w E Q h
theorem Ax (i:(tupleKind (aw P w)).is s.heap (inn p) b)(h:Q true s):wpAny (model P w) A (eqIsQuiet 7 (.ref b)) Q E s:=by
 obtain⟨t,u,⟨o,B,J,n,O⟩⟩:=uI i;have G:s.TypeIs (.ref b) "tuple" := ⟨o,B,J⟩
 unfold eqIsQuiet;refine Ip (wpAny_specialOf G F.slot_tuple_eq.lookup (?_:wpAny _ _ (isInstance (.ref b) (.type "tuple") >>= _) _ _ s))
 refine Ip (wpAny_isInstance G isSubtype_tuple_tuple ?_);simp only[Bool.not_true,IQ,if_false];refine Ip (wpAny_seqItems B O (Ip (?_:wpAny _ _ (forIn #[Value.int p.1 t,Value.int p.2 u] _ _) _ _ s)));rw[<-K6];show wpAny _ _ (forIn [Value.int p.1 t,Value.int p.2 u] _ _) _ _ s;rw[Kw];refine Ip ?_;rw[eqIsQuiet_byValue _ (show carriedByValue (.int p.1 t)=true from rfl)];refine Ip (IB (?_:wpAny _ _ (pure (ForInStep.yield (none,()))) _ _ _));refine IB (?_:wpAny _ _ (forIn [Value.int p.2 u] _ _) _ _ _);rw[Kw];refine Ip ?_;rw[eqIsQuiet_byValue _ (show carriedByValue (.int p.2 u)=true from rfl)];refine Ip (IB (?_:wpAny _ _ (pure (ForInStep.yield (none,()))) _ _ _));refine IB (?_:wpAny _ _ (forIn ([]:LV9) _ _) _ _ _);rw[LA];exact IB (IB h)
theorem Cb (i:n8 P w s.heap k a)(h:Q true s):wpAny (model P w) A (eqIsQuiet 8 (.ref a)) Q E s:=by
 obtain⟨b,t,⟨o,B,J,n,O⟩,j⟩:=i;have G:s.TypeIs (.ref a) "tuple" := ⟨o,B,J⟩
 unfold eqIsQuiet;refine Ip (wpAny_specialOf G F.slot_tuple_eq.lookup (?_:wpAny _ _ (isInstance (.ref a) (.type "tuple") >>= _) _ _ s))
 refine Ip (wpAny_isInstance G isSubtype_tuple_tuple ?_);simp only[Bool.not_true,IQ,if_false];refine Ip (wpAny_seqItems B O (Ip ?_));show wpAny _ _ (forIn #[Value.ref b,Value.int k.2 t] _ _) _ _ s;rw[<-K6];show wpAny _ _ (forIn [Value.ref b,Value.int k.2 t] _ _) _ _ s;rw[Kw];refine Ip ?_;refine Ip (Ax j (?_:wpAny _ _ (pure (ForInStep.yield (none,()))) _ _ _));refine IB (?_:wpAny _ _ (forIn [Value.int k.2 t] _ _) _ _ _);rw[Kw];refine Ip ?_;rw[eqIsQuiet_byValue _ (show carriedByValue (.int k.2 t)=true from rfl)];refine Ip (IB (?_:wpAny _ _ (pure (ForInStep.yield (none,()))) _ _ _));refine IB (?_:wpAny _ _ (forIn ([]:LV9) _ _) _ _ _);rw[LA];exact IB (IB h)
end
def fv (P:Pg9)(w:Wd9):HeapKind P w NK where
 is:=n8 P w
 hash:=uo P w
 draws:=fun _=>5
 room:=fun A=>A.units+1<cLine
 inj:=fun hx hy=>hx.inj hy
 keeps:=fun x ho hd hs=>x.keeps ho hd hs
 pyHash:=fun hu i h=>Ee hu i h
 eqBool:=fun hu hx hy h=>G9 hu hx hy h
 quiet:=fun i h=>Cb i h
def iC (H:Hp)(k:NK)(a:Addr):Prop:=∃b,H a=some (.tup [.ref b,.int k.2])/\H b=some (.tup [.int k.1.1,.int k.1.2])
theorem iC.up (h:iC H k a)(B:∀b xs,H b=some (.tup xs)->H' b=some (.tup xs)):iC H' k a:=by
 obtain⟨b,h1,h2⟩:=h;exact⟨b,B _ _ h1,B _ _ h2⟩
def vv:V->Value
 | .ref a=>.ref a
 | .bl b=>.bool b
 |_=>.none
def Pln (v:V):Prop:=aZ v (vv v)
abbrev NE:Type:=NK×Addr×V
def raw (e:NE):NK×Addr×Value:=(e.1,e.2.1,vv e.2.2)
def dN (P:Pg9)(w:Wd9)(a:Addr)(xs:List NE):HO:=.ext fun h=>xs.length<=sizeLine/\(a==sysModules)=false /\
 ∃o es ep,h.get? a=some o/\o.ExactDict/\o.data=.dict es ep/\es.toList=(xs.map raw).map (entryOfKey (fv P w))/\((xs.map raw).map (·.1)).Nodup
structure DN (P:Pg9)(w:Wd9)(H:Hp)(a:Addr)(xs:List NE):Prop where
 at_:H a=some (dN P w a xs)
 keys:∀e∈xs,iC H e.1 e.2.1/\Pln e.2.2
def nkV (xs:List NE)(k:NK):OW9:=(xs.find? fun e=>decide (e.1=k)).map (·.2.2)
def cY (xs:List NE)(k:NK)(a:Addr)(v:V):List NE:=if (nkV xs k).isSome then xs.map (fun e=>if e.1=k then (e.1,e.2.1,v) else e) else xs++[(k,a,v)]
section
theorem wm (ok:HOk P w H h)(i:iC H k a):(fv P w).is h k a:=by
 obtain⟨b,h1,h2⟩:=i;obtain⟨_,its,r,p⟩:=(show bv P w H h a (.tup _) from ok a _ h1);obtain⟨J,O,rfl,B,G⟩:=jB r;cases B;obtain⟨t,rfl⟩:=G;exact⟨b,t,p,ji (ks:=inn k.1) ok h2⟩
theorem C6 (xs:List NE)(k:NK):(atKey (xs.map raw) k).map (·.2)=(nkV xs k).map vv:=by
 induction xs with
 |nil=>rfl
 |cons e xs ih=>
  by_cases q:e.1=k
  ·simp[atKey,nkV,Kg,raw,q]
  ·simpa[atKey,nkV,Kg,raw,q] using ih
theorem u_ (xs:List NE)(k:NK):(atKey (xs.map raw) k).isSome=(nkV xs k).isSome:=by
 have:=I_ Option.isSome (C6 xs k)
 simpa using this
theorem DK (xs:List NE)(k:NK)(a:Addr)(v:V):storedH (xs.map raw) k a (vv v)=(cY xs k a v).map raw:=by
 unfold storedH cY;rw[u_]
 split
 ·rw[Jp,Jp];refine Jg fun e _=>?_;by_cases q:e.1=k<;>simp[putAt,raw,q]
 ·simp[raw]
theorem yG (xs:List NE)(k:NK)(a:Addr)(v:V):(cY xs k a v).length<=xs.length+1:=by
 unfold cY
 split<;>simp
theorem DN.up (D:DN P w H a xs)(B:ah H H'):DN P w H' a xs:=⟨B _ _ D.at_,fun e G=>⟨(D.keys e G).1.up fun b ys q=>B _ _ q,(D.keys e G).2⟩⟩
theorem DN.keep (D:DN P w H a xs)(h1:H' a=H a)(G:∀b ys,H b=some (.tup ys)->H' b=some (.tup ys)):DN P w H' a xs:=⟨h1.trans D.at_,fun e B=>⟨(D.keys e B).1.up G,(D.keys e B).2⟩⟩
theorem DN.rd (ok:HOk P w H h)(D:DN P w H a xs):xs.length<=sizeLine/\(a==sysModules)=false/\h.DictOfH (fv P w) a (xs.map raw):=by
 obtain⟨⟨z,y,o,es,ep,h1,h2,B,G,J⟩,_⟩:=(show bv P w H h a (dN P w a xs) from ok a _ D.at_);refine⟨z,y,o,es,ep,h1,h2,B,G,fun x O=>?_,J⟩;obtain⟨e,Y,rfl⟩:=Iv.mp O;exact wm ok (D.keys e Y).1
theorem CO (z:xs.length<=sizeLine)(y:(a==sysModules)=false)(J:h.DictOfH (fv P w) a (xs.map raw)):bv P w H h a (dN P w a xs):=by
 obtain⟨o,es,ep,h1,h2,O,Y,_,h5⟩:=J;refine⟨⟨z,y,o,es,ep,h1,h2,O,Y,h5⟩,⟨o,h1⟩,fun g1 g2 q st=>?_⟩;obtain⟨z',y',o',B,G,k1,k2,k3,k4,k5⟩:=q;exact⟨z',y',o',B,G,st _ k1,k2,k3,k4,k5⟩
theorem BE (J:∀e∈xs,iC H e.1 e.2.1/\Pln e.2.2)(i:iC H k b)(pv:Pln v):∀e∈cY xs k b v,iC H e.1 e.2.1/\Pln e.2.2:=by
 intro e B;unfold cY at B
 split at B
 ·obtain⟨O,G,rfl⟩:=Iv.mp B
  split
  ·exact⟨(J O G).1,pv⟩
  ·exact J O G
 ·rcases Iz.mp B with B|B
  ·exact J e B
  ·rw[Iu.mp B];exact⟨i,pv⟩
end
section
def Fp (P:Pg9)(w:Wd9):TE:=fun _ H Q=>∀p,H p=none->Q (.ref p) (upd H p (dN P w p []))
theorem vR:PE X (.Dict [] [] pos) (Fp X.prog X.w):=fun pins s σ H Q I h=>
 wpAny_Dict_empty ⟨.ref s.heap.objs.size,_,I.laid (a:=s.heap.objs.size) (o:=dN X.prog X.w s.heap.objs.size []) (t':=s.toks) (fun _ _ q=>Ir _ q) (Iw _)
  (CO (IG _) (beq_eq_false_iff_ne.mpr (Ne.symm (I0 I.big))) ⟨_,#[],0,IH _ rfl,⟨rfl,rfl,rfl⟩,rfl,rfl,fun x (B:x∈([]:List _))=>absurd B (by simp),Km⟩),rfl,h _ (I.hok.fresh (Iw _))⟩
theorem FQ (B:X.A.units+2<cLine):OpR X (compareOp .In) (fun x y H Q=>∃(a b:Addr) (k:NK) (xs:List NE),x=.ref b/\y=.ref a/\DN X.prog X.w H a xs/\iC H k b/\Q (.bl (nkV xs k).isSome) H):=by
 intro pins s σ H x y v u Q I G J h;obtain⟨a,b,k,xs,rfl,rfl,D,i,q⟩:=h;cases G;cases J;obtain⟨_,y,O⟩:=D.rd I.hok;refine wpAny_in_heap (knd:=fv X.prog X.w) B (wm I.hok i) y O ?_;rw[u_];exact⟨.bl _,H,I.tok _,rfl,q⟩
theorem Ab (B:X.A.units+2<cLine):OpR X (compareOp .NotIn) (fun x y H Q=>∃(a b:Addr) (k:NK) (xs:List NE),x=.ref b/\y=.ref a/\DN X.prog X.w H a xs/\iC H k b/\Q (.bl (!(nkV xs k).isSome)) H):=by
 intro pins s σ H x y v u Q I G J h;obtain⟨a,b,k,xs,rfl,rfl,D,i,q⟩:=h;cases G;cases J;obtain⟨_,y,O⟩:=D.rd I.hok;refine wpAny_notIn_heap (knd:=fv X.prog X.w) B (wm I.hok i) y O ?_;rw[u_];exact⟨.bl _,H,I.tok _,rfl,q⟩
abbrev Fs (P:Pg9)(w:Wd9)(td ty:TE):TE:=fun σ H Q=>td σ H fun x H1=>ty σ H1 fun y H2=>∃(a b:Addr) (k:NK) (xs:List NE) (v:V),x=.ref a/\y=.ref b/\DN P w H2 a xs/\iC H2 k b/\nkV xs k=some v/\Q v H2
theorem mJ (h:nkV xs k=some v):∃a,(k,a,v)∈xs:=by
 obtain⟨e,h1,rfl⟩:=IX.mp h;have h2:=L6 h1;have B:e.1=k:=by simpa using h2
 exact⟨e.2.1,by rw[<-B];exact KR h1⟩
theorem BR (Y:X.A.units+2<cLine)(ho:PE X o td)(hi:PE X i ty)(hs:EO i):PE X (.Subscript o i pos) (Fs X.prog X.w td ty):=by
 intro pins s σ H Q I h;refine tD PySem.F.slot_dict_getitem.lookup hs (thn (ho pins s σ H _ I h) fun u s1 ⟨x,H1,I1,rx,q1⟩=>thn (hi pins s1 σ H1 _ I1 q1) fun iv s2 ⟨y,H2,B,ry,a,b,k,xs,v,ex,ey,D,j,g,q2⟩=>?_);subst ex ey;cases rx;cases ry;obtain⟨_,_,J⟩:=D.rd B.hok;have O:=C6 xs k;rw[g]at O;obtain⟨p,hp,G⟩:=IX.mp O;obtain⟨c,hc⟩:=mJ g;refine⟨J.typeIs,wpAny_getItem_heap (knd:=fv X.prog X.w) Y (wm B.hok j) J hp ?_⟩;rw[G];exact⟨v,H2,B.tok _,(D.keys _ hc).2,q2⟩
abbrev Fu (P:Pg9)(w:Wd9)(td ty tv:TE):TS:=fun D σ H=>tv σ H fun v H1=>td σ H1 fun x H2=>ty σ H2 fun y H3=>∃(a b:Addr) (k:NK) (xs:List NE),x=.ref a/\y=.ref b/\DN P w H3 a xs/\iC H3 k b/\Pln v/\xs.length<sizeLine /\
 (DN P w (upd H3 a (dN P w a (cY xs k b v))) a (cY xs k b v)->D.nx σ (upd H3 a (dN P w a (cY xs k b v))))
theorem vP (hu:X.A.units+2<cLine)(ho:PE X o td)(hi:PE X i ty)(hv:PE X value tv)(G:swapsWith value (some (.Subscript o i pos')) pos.line X.env=pure false):
  PS X (.Assign [.Subscript o i pos'] value pos) (Fu X.prog X.w td ty tv):=by
 intro pins s σ H D I h;refine wpAny_Assign_Subscript (thn (hv pins s σ H _ I h) fun r s1 ⟨v,H1,I1,J,q1⟩=>thn (ho pins s1 σ H1 _ I1 q1) fun u s2 ⟨x,H2,I2,rx,q2⟩=>thn (hi pins s2 σ H2 _ I2 q2) fun iv s3 ⟨y,H3,O,ry,a,b,k,xs,ex,ey,Dn,j,pv,hl,q3⟩=>?_) G;subst ex ey;cases rx;cases ry;have er:r=vv v:=by
  unfold Pln at pv;cases v with
  |ref a=>rw[show r=_ from J];rfl
  |bl b=>rw[show r=_ from J];rfl
  |non=>rw[show r=_ from J];rfl
  |int i=>exact nomatch pv
  |str x=>exact nomatch pv
  |byt b=>exact nomatch pv
  |flt b=>exact nomatch pv
  |ty n=>cases pv
 subst er;obtain⟨z,y,dd⟩:=Dn.rd O.hok;have hz:(xs.map raw).length<=sizeLine:=by rw[Iq];exact z
 refine wpAny_setItem_heap (knd:=fv X.prog X.w) (hsz:=hz) hu (wm O.hok j) dd fun h' B G=>?_;rw[DK]at B;have Y:(cY xs k b v).length<=sizeLine:=IU (yG xs k b v) hl;have nt:∀c ys,H3 c=some (.tup ys)->upd H3 a (dN X.prog X.w a (cY xs k b v)) c=some (.tup ys):=fun c ys ec=>by
  rw[aA fun q=>by rw[q,Dn.at_]at ec;exact nomatch ec];exact ec
 refine⟨σ,_,kB O (by rw[Dn.at_];exact True.intro) G (let ⟨q,_,_,hq,_⟩:=B;⟨q,hq⟩) (CO Y y B),q3 ⟨ag,fun e he=>?_⟩⟩;obtain⟨k1,k2⟩:=BE Dn.keys j pv e he;exact⟨k1.up nt,k2⟩
theorem cV.nest (r:cV k A):A.units+2<PySem.cLine:=by have:=r.units;lia
end
def lU (h:Heap)(d:Addr)(es:Array DictEntry)(ep:Nat):Prop:=∃o,h.get? d=some o/\o.ExactDict/\o.data=.dict es ep
theorem lU.type {s:Sh9}{d:Addr}{es:Array DictEntry}{ep:Nat}(r:lU s.heap d es ep):s.TypeIs (.ref d) "dict" := let ⟨o,h,c,_⟩:=r;⟨o,h,c.1⟩
theorem lU.keep (r:lU h d es ep)(k:∀o,h.get? d=some o->h'.get? d=some o):lU h' d es ep:=let ⟨o,e,x⟩:=r;⟨o,k o e,x⟩
section
theorem sj {Q:EV9}(O:(d==sysModules)=false)(r:lU s.heap d es ep)
  (Y:Q (.ref s.heap.objs.size) {s with heap:=s.heap.push {cls:=.type "dict_keyiterator",data:=.fields #[.ref d,.int 0 0,.int es.size 0,.int ep 0]} }):wpAny (model prog w) A (pyIter (.ref d)) Q E s:=by
 have G:=r.type;obtain⟨o,J,hc,B⟩:=r;refine wpAny_pyIter_slot G F.slot_dict_iter (wpAny_call_entry F.slot_dict_iter G F.entry_dict_iter ?_ (F.args_dict_iter_1 _));unfold Builtin.«dict.__iter__» Builtin.Dict.dictSlotNone;refine Ip (Ip (wpAny_notOrdered_dict G (IB (?_:wpAny _ _ (Builtin.Dict.showsAll d >>= _) _ _ s))));unfold Builtin.Dict.showsAll;rw[if_neg (by rw[O];exact IL)];refine Ip (IB (Ip (wpAny_dictEntries J B (Ip (wpAny_dictEpoch J B (Ip (wpAny_newObj_type (IB ⟨_,rfl,"dict_keyiterator",_,⟨_,IH _ rfl,rfl⟩,F.slot_dict_keyiterator_next.lookup,?_⟩))))))))
 simpa[rawInt] using Y
theorem sk (it:s.heap.IsKeyIter I d i es.size ep)(r:lU s.heap d es ep)(hi:i<es.size)
  (hQ:∀h',h'.IsKeyIter I d (i+1) es.size ep->Heap.SameBut I s.heap h'->Q (some es[i].key) {s with heap:=h' }):wpAny (model prog w) A (pyNext (.ref I)) Q E s:=by
 have B:=it.typeIs;obtain⟨o,Y,hc,O⟩:=it;obtain⟨od,G,a0,J⟩:=r;unfold pyNext;refine Ip (wpAny_attempt (wpAny_callSpecial?_slot (name:=Str.ofString "__next__") B F.slot_dict_keyiterator_next (wpAny_call_entry F.slot_dict_keyiterator_next B F.entry_dict_keyiterator_next (Ip (IB (Ip (Ip ?_)))) (F.args_dict_keyiterator_next_1 _))))
 refine Ip (wpAny_typeNameOfWhole_keyiter B (IB (Ip (wpAny_fieldsOf Y O ?_))));simp only[show Builtin.Dict_items.ownsTuple "dict_keyiterator" = false by decide,IQ,if_false]
 show wpAny _ _ (if (Value.ref d==Value.none)=true then _ else _) _ _ s;rw[if_neg (show ¬ ((Value.ref d==Value.none)=true) from IL)];refine Ip (IB (Ip (wpAny_dictEntries G J ?_)));rw[if_neg (by simp)];refine Ip (IB (Ip (wpAny_dictEpoch G J ?_)));rw[if_neg (by simp)];refine IB ?_;simp only[show ¬ ((i:Int)<0) from by simp,if_false,Jn,IY hi];refine Ip (Ip (wpAny_typeNameOfWhole_keyiter B (IB (Ip (wpAny_isOneOf_keyiter B (?_:wpAny _ _ (setField (.ref I) 1 (rawInt ((i:Int)+1)) >>= _) _ _ s))))));refine Ip (wpAny_setField Y O (by simp) ?_);have it':(s.heap.update I (Obj.mapFields (·.setIfInBounds 1 (rawInt ((i:Int)+1))))).IsKeyIter I d (i+1) es.size ep :=
  ⟨_,Li _ Y (Obj.isFreed_of_fields (Obj.data_mapFields O _)),(Obj.cls_mapFields ..).trans hc,by rw[Obj.data_mapFields O];simp[rawInt]⟩
 refine Ip (wpAny_holding (Ip (wpAny_isOneOf_keyiter (s:={s with heap:=s.heap.update I (Obj.mapFields (·.setIfInBounds 1 (rawInt ((i:Int)+1))))}) it'.typeIs (?_:wpAny _ _ (pure es[i].key) _ _ _))));exact IB (IB ⟨_,rfl,IB (hQ _ it' (Heap.SameBut.update ..))⟩)
theorem vN (hh:A.handled=none)(it:s.heap.IsKeyIter I d es.size es.size ep)(r:lU s.heap d es ep)(hQ:∀h',Heap.ExtBut I s.heap h'->Q none {s with heap:=h' }):wpAny (model prog w) A (pyNext (.ref I)) Q E s:=by
 have B:=it.typeIs;obtain⟨o,O,hc,Y⟩:=it;obtain⟨od,G,a0,J⟩:=r;unfold pyNext;refine Ip (wpAny_attempt (wpAny_callSpecial?_slot (name:=Str.ofString "__next__") B F.slot_dict_keyiterator_next (wpAny_call_entry F.slot_dict_keyiterator_next B F.entry_dict_keyiterator_next (Ip (IB (Ip (Ip ?_)))) (F.args_dict_keyiterator_next_1 _))))
 refine Ip (wpAny_typeNameOfWhole_keyiter B (IB (Ip (wpAny_fieldsOf O Y ?_))));simp only[show Builtin.Dict_items.ownsTuple "dict_keyiterator" = false by decide,IQ,if_false]
 show wpAny _ _ (if (Value.ref d==Value.none)=true then _ else _) _ _ s;rw[if_neg (show ¬ ((Value.ref d==Value.none)=true) from IL)];refine Ip (IB (Ip (wpAny_dictEntries G J ?_)));rw[if_neg (by simp)];refine Ip (IB (Ip (wpAny_dictEpoch G J ?_)));rw[if_neg (by simp)];refine IB ?_;simp only[show ¬ ((es.size:Int)<0) from by simp,if_false,Jn,K7 (Iw es.size)];refine Ip (Ip (wpAny_typeNameOfWhole_keyiter B (IB (?_:wpAny _ _ (setField (.ref I) 0 .none >>= _) _ _ s))));refine Ip (wpAny_setField O Y (by simp) (?_:wpAny _ _ (newExc (.type "StopIteration") [] >>= _) _ _ _))
 refine Ip ?_;simp only[newExc,newTuple];refine Ip (wpAny_newObj_type (Ip (m:=firstArgMember _ _) (wpAny_of_eq (a:=Value.none) (by first | rfl | (simp only[firstArgMember];rfl)) (wpAny_newObj_type ?_ (by size_fits)))) (by size_fits));simp only[raiseNew];refine Ip (wpAny_handled ?_);rw[show A.in1.handled=none from hh];refine Ip (IB (wpAny_throw ?_));exact Ip (wpAny_isInstance (T := "StopIteration") (b:=true) ⟨_,IH _ rfl,rfl⟩ isSubtype_stop (IB (hQ _ (((Heap.SameBut.update ..).extBut.push _).push _))))
theorem qh (hh:A.handled=none)(O:d≠I):Walks prog w A I [I,d] [I] es.size (fun i v=>∃e,es[i]? = some e/\v=e.key) (fun i h=>h.IsKeyIter I d i es.size ep/\lU h d es ep) where
 sub:=fun b B=>by simp at B;simp[B]
 frame:=fun _ _ _ st hk=>⟨st.1.at fun o e=>hk I (by simp) o e,st.2.keep fun o e=>hk d (by simp) o e⟩
 item:=fun i s Q E hi st G=>sk st.1 st.2 hi fun h' Y J=>G _ h' s.toks ⟨es[i],by simp[hi],rfl⟩ ⟨Y,st.2.keep fun o e=>J.extBut d o O e⟩ fun b o B e=>J.extBut b o (fun h=>B (by simp[h])) e
 done:=fun s Q E st G=>vN hh st.1 st.2 fun h' a0=>G h' s.toks fun b o B e=>a0 b o (fun h=>B (by simp[h])) e
 self:=fun _ _ _ _ st G=>wpAny_pyIter_keyiter st.1 G
theorem Bv (lo:(d==sysModules)=false):KdlSrc prog w "dict" d d es.size (fun i v=>∃e,es[i]? = some e/\v=e.key) (fun h=>lU h d es ep) where
 type:=fun _ B=>B.type
 there:=fun _ B=>let ⟨o,ho,_⟩:=B;⟨IK ho,IK ho⟩
 keep:=fun _ _ B J=>B.keep fun o e=>J d (.inl rfl) o e
 notList:=by decide
 notTuple:=by decide
 hint:=fun _ _ _ _ B G=>kdl_hint_dict B.type G
 iter:=fun _ s O B=>⟨_,_,(fun _ _ G=>sj lo B G),qh O (let ⟨o,ho,_⟩:=B;I0 (IK ho)),⟨⟨_,IH _ rfl,rfl,rfl⟩,B.keep fun o e=>Ir _ e⟩⟩
end
def kF (h:Heap)(k:Int×Int)(u:Value):Prop:=∃(a:Addr) (t t':Tok),u=.ref a/\IsTup h a #[.int k.1 t,.int k.2 t']
def ltI:Int×Int->Int×Int->Bool:=mM (fun a b=>decide (a<b)) (fun a b=>decide (a<b))
theorem mL:Lin ltI:=uw uz uz
theorem yY (i:kF h k u)(B:∀b o,o.cls=.type "tuple" -> h.get? b=some o->h'.get? b=some o):kF h' k u:=by
 obtain⟨a,t,t',e,o,g,c,r⟩:=i;exact⟨a,t,t',e,o,B a o c g,c,r⟩
section
theorem yZ (i:kF s.heap k u)(j:kF s.heap l v)(h:C (ltI k l) s):wpAny (model prog w) A (keyLt' (tuples' true) u v) C E s:=by
 obtain⟨a,t,t',rfl,oa,J,_,na,O⟩:=i;obtain⟨b,q,q',rfl,ob,Y,_,nb,db⟩:=j;refine kat_lt J O Y db (kat_cons (wpAny_eqBool_int (kat_go (fun e=>kat_yes (kat_cons (wpAny_eqBool_int (kat_go (fun G=>kat_yes (kat_nil ?_)) fun G=>kat_no (kat_one _ _ (PySem.P.lt_int ?_)))))) fun e=>kat_no ?_)))
 ·have B:k.1=l.1:=by simpa using e
  have e3:k.2=l.2:=by simpa using G
  have:ltI k l=false:=by rw[Prod.ext B e3];exact mL.irr l
  rw[this]at h;exact h
 ·have B:k.1=l.1:=by simpa using e
  have:ltI k l=decide (k.2<l.2):=by unfold ltI mM;rw[if_pos B]
  rw[this]at h;exact h
 ·have B:¬ k.1=l.1:=by simpa using e
  have:ltI k l=decide (k.1<l.1):=by unfold ltI mM;rw[if_neg B]
  rw[this]at h;exact oneLt_int h
theorem y6 (hp:Paired (fun k u=>kF s.heap k u) ks B)(h2:0<B.length)(q:Q (tuples' true) s):wpAny (model prog w) A (keyKind' B.toArray) Q E s:=by
 have kt:∃fs:LV9,KatTups s.heap B fs/\fs.length=B.length/\∀v∈fs,∃(k:Int) (t:Tok),v=.int k t:=by
  induction hp with
  |nil=>exact⟨[],KatTups.nil,rfl,fun v G=>nomatch G⟩
  | @cons k u ks B h t ih=>
   obtain⟨a,t1,t2,rfl,o,ho,hc,n,hd⟩:=h;obtain⟨fs,J,Y,O⟩:∃fs:LV9,KatTups s.heap B fs/\fs.length=B.length/\∀v∈fs,∃(k:Int) (t:Tok),v=.int k t:=by
    cases B with
    |nil=>exact⟨[],KatTups.nil,rfl,fun v G=>nomatch G⟩
    |cons u B=>exact ih (Lb _)
   refine⟨.int k.1 t1::fs,KatTups.cons ho hc hd (by simp) J,by simp[Y],fun v G=>?_⟩;rcases IP.mp G with rfl | G
   ·exact⟨_,_,rfl⟩
   ·exact O v G
 obtain⟨fs,J,Y,O⟩:=kt;refine kat_kind (T:=.type "int") J (by lia) (fun v G=>?_) (by decide) q
 obtain⟨k,t,rfl⟩:=O v G;exact Looks.now
theorem Dk {h:Heap}{S:Addr}{f:Array Value->Array Value}{vs:Array Value}{n:Nat}(B:h.get? S=some (seqObj "list" vs n)):∀b o,o.cls=.type "tuple" -> h.get? b=some o->(h.update S (Obj.mapSeq f)).get? b=some o:=fun b o c e=>by
 refine (Jk _ _ fun z=>?_).trans e;subst z;cases B.symm.trans e;exact absurd (show Value.type "list" = Value.type "tuple" from c) (by decide)
theorem qv:∀{l:List α} {m:List β},Paired R l m->∀p∈m.zip l,R p.2 p.1
 |_,_,.nil,p,h=>by simp at h
 |_,_,.cons r t,p,h=>by
  rcases IP.mp h with rfl|h
  ·exact r
  ·exact qv t p h
theorem rN {a q:Addr}{vs:LV9}{n:Nat}{kf:Value->Int×Int}{P:PySem.Fin->Sh9->Prop}(ho:s.heap.get? a=some (seqObj "list" vs.toArray n))(sz:vs.length<=sizeLine)
  (turn:∀(v:Value) (h:Heap) (tk:Nat),v∈vs->(∀b o,b≠a->s.heap.get? b=some o->h.get? b=some o)->wpAny (model prog w) A (call (.ref q) [v]) (fun u s'=>∃h' tk',s'={s with heap:=h',toks:=tk' }/\(∀b o,h.get? b=some o->h'.get? b=some o)/\kF h' (kf v) u) (fun _ _=>False) {s with heap:=h,toks:=tk})
  (fin:∀(h':Heap) (tk:Nat) (out:LV9) (c:Nat),(∀b o,b≠a->s.heap.get? b=some o->h'.get? b=some o)->h'.get? a=some (seqObj "list" out.toArray c)->out.Perm vs->out.Pairwise (fun x y=>ltI (kf y) (kf x)=false)->P (.done (.ret .none)) {s with heap:=h',toks:=tk}) :
  wpAny (model prog w) A (Builtin.«list.sort» ⟨[.ref a],[(Str.ofString "key",.ref q)]⟩) P E s:=by
 have ha:a<s.heap.objs.size:=IK ho;rw[ksk_t1];unfold ksk_tree;obtain⟨e1,a4⟩:∃e1,(s.heap.update a (Obj.mapSeq fun _=>(#[]:Array Value))).get? a=some (seqObj "list" #[] e1):=⟨_,get?_update_seq ho fun _=> #[]⟩
 refine Ip (listItems_at ho rfl (Ip (listUpdate_at ho rfl (Ip (seqEpoch_at a4 rfl (Ip (wpAny_newTuple (Ip (wpAny_newList (wpAny_holding ?_) (IG _))) (by show vs.length<=_;exact sz))))) (by rw[IV];exact sz) (IG _))));obtain⟨h0,O⟩:∃h0,h0=((s.heap.update a (Obj.mapSeq fun _=>(#[]:Array Value))).push (seqObj "tuple" vs.toArray 0)).push (seqObj "list" #[] 0):=⟨_,rfl⟩
 obtain⟨Y,a0⟩:∃Y,Y=((s.heap.update a (Obj.mapSeq fun _=>(#[]:Array Value))).push (seqObj "tuple" vs.toArray 0)).objs.size:=⟨_,rfl⟩
 show wpAny (model prog w) A (ksk_rest a (.ref q) false vs.toArray _ (.ref ((s.heap.update a (Obj.mapSeq fun _=>(#[]:Array Value))).push (seqObj "tuple" vs.toArray 0)).objs.size)) P E {s with heap:=((s.heap.update a (Obj.mapSeq fun _=>(#[]:Array Value))).push (seqObj "tuple" vs.toArray 0)).push (seqObj "list" #[] 0)}
 rw[<-O,<-a0];have a5:s.heap.objs.size<Y:=by rw[a0,size_push',Heap.size_update];simp
 have ka:Y≠a:=Kk (Ld ha a5);have g0:h0.get? a=some (seqObj "list" #[] e1):=by rw[O];exact Ir _ (Ir _ a4)
 have gk:h0.get? Y=some (seqObj "list" #[] 0):=by rw[O,a0];exact IH _ rfl
 have a7:∀b o,b≠a->s.heap.get? b=some o->h0.get? b=some o:=fun b o hb e=>by
  rw[O];exact Ir _ (Ir _ ((Jk _ _ (Ne.symm hb)).trans e))
 have nk:∀b o,s.heap.get? b=some o->b≠Y:=fun b o e=>I0 (Ld (IK e) a5)
 clear O a0
 unfold ksk_rest;refine Ip (wpAny_rule ?_);rw[List.forIn_toArray];refine Ip (ksk_fold (fun i s'=>∃h tk G e,s'={s with heap:=h,toks:=tk}/\(∀b o,b≠a->s.heap.get? b=some o->h.get? b=some o)/\h.get? a=some (seqObj "list" #[] e1)/\h.get? Y=some (seqObj "list" G e)/\Paired (fun k u=>kF h k u) ((vs.take i).map kf) G.toList) vs 0 _
  ⟨h0,s.toks,#[],0,rfl,a7,g0,gk,.nil⟩ ?step ?done)
 case step=>
  rintro j x s' hx ⟨h,tk,G,e,rfl,kp,ga,gk,hP⟩;simp only[KG]at hP ⊢;have hj:j<vs.length:=(Ix.mp hx).1;have hz:G.size<=vs.length:=by
   have h1:=Paired.length hP;have h2:G.toList.length=G.size:=IN;rw[Iq,Jl]at h1
   lia
  refine Ip (wpAny_attempt (Jy (turn x h tk (ID hx) kp) (fun u s2 he=>?_) fun _ _ hF=>hF.elim));obtain⟨h2,b0,rfl,a1,ky⟩:=he;have a2:=a1 _ _ gk;obtain⟨c2,a8⟩:∃c2,(h2.update Y (Obj.mapSeq (·.push u))).get? Y=some (seqObj "list" (G.push u) c2):=⟨_,get?_update_seq a2 (·.push u)⟩
  have ut:=Dk (f:=(·.push u)) a2;refine Ip (listUpdate_at a2 rfl ?_ (by lia) (IU (Le (Array.size_push ..)) (by lia)));refine IB ⟨rfl,_,_,G.push u,c2,rfl,fun b o hb e=>(Jk _ _ (Ne.symm (nk b o e))).trans (a1 _ _ (kp b o hb e)),(Jk _ _ ka).trans (a1 _ _ ga),a8,?_⟩;rw[La,Jf,hx,IT];exact Paired.snoc (Paired.mapP hP fun _ _ i=>yY (yY i fun b o _ e=>a1 b o e) ut) (yY ky ut)
 case done=>
  rintro s' ⟨h,tk,G,e,rfl,kp,ga,gk,hP⟩;rw[KG,Jw]at hP;have hl:=Paired.length hP;have b1:G.toList.length=G.size:=IN;rw[Iq]at hl;have zl:(G.zip vs.toArray).toList=G.toList.zip vs:=ksk_zip G vs;have zs:(G.zip vs.toArray).toList.map (·.2)=vs:=by rw[zl];exact List.map_snd_zip (by lia)
  refine Ip (listItems_at gk rfl ?_);unfold ksk_end;simp only[IQ,if_false];have tail:∀(st:SortSt),(arrOf st).Perm (G.zip vs.toArray)->failedOf st=none->((arrOf st).toList.map (·.2)).Pairwise (fun x y=>ltI (kf y) (kf x)=false)->wpAny (model prog w) A (ksk_tail a false e1 (.ref Y) st) P E {s with heap:=h,toks:=tk}:=fun st hp hf hw=>by
   have hp':((arrOf st).toList.map (·.2)).Perm vs:=by
    have:=(JY.mp hp).map (·.2)
    rw[zs]at this;exact this
   have a6:(arrOf st).map (·.2)=((arrOf st).toList.map (·.2)).toArray:=by
    apply KU.mp
    rw[LZ]
   unfold ksk_tail;dsimp only;have a3:(h.update Y (Obj.mapSeq fun _=>(#[]:Array Value))).get? a=some (seqObj "list" #[] e1):=(Jk _ _ ka).trans ga
   refine Ip (listUpdate_at gk rfl (Ip (wpAny_letGo (Ip (seqEpoch_at a3 rfl ?_)))) (by lia) (IG _));rw[a6,hf];simp only[IQ,if_false];refine Ip (listUpdate_at a3 rfl ?_ (IG _) (by rw[IV,hp'.length_eq];lia));simp only[bne_self_eq_false,IQ,if_false];refine IB (fin _ tk _ _ (fun b o hb e=>(Jk _ _ (Ne.symm hb)).trans ((Jk _ _ (Ne.symm (nk b o e))).trans (kp b o hb e))) (get?_update_seq a3 fun _=>((arrOf st).toList.map (·.2)).toArray) hp' hw)
  by_cases h2:vs.toArray.size<2
  ·rw[if_pos h2,if_pos h2];refine Ip (IB ?_);rw[StateT.run_pure];refine Ip (IB (tail _ (Array.Perm.refl _) rfl ?_));show ((G.zip vs.toArray).toList.map (·.2)).Pairwise _;rw[zs];rw[IV]at h2
   match vs,h2 with
   | [],_=>exact List.Pairwise.nil
   | [x],_=>exact KA _ _
   |_::_::_,h2=>exact absurd h2 (by simp)
  ·rw[if_neg h2,if_neg h2];rw[IV]at h2;have ek:G=G.toList.toArray:=by rw[Array.toArray_toList]
   refine Ip (?_:wpAny (model prog w) A (keyKind' G) _ E _);rw[ek];refine y6 (s:={s with heap:=h,toks:=tk}) hP (by lia) ?_;rw[<-ek];have LO:Tim.eE prog w A E {s with heap:=h,toks:=tk} (G.zip vs.toArray) (tuples' true) (fun p=>rnk ltI (vs.map kf) (kf p.2)):=fun x y C hx hy hC=>by
    rw[zl]at hx hy;have pz:=qv (R:=fun v u=>kF h (kf v) u) (l:=vs) (m:=G.toList) (by
     have:∀{l:LV9} {m:LV9},Paired (fun k u=>kF h k u) (l.map kf) m->Paired (fun v u=>kF h (kf v) u) l m:=fun {l}=>by
      induction l with
      |nil=>intro m r;cases r;exact .nil
      |cons v l ih=>intro m r;cases r with | cons r1 r2=>exact .cons r1 (ih r2)
     exact this hP)
    refine yZ (pz x hx) (pz y hy) ?_;rw[<-tP mL (Jr (K3 (a:=x.1) (b:=x.2) hx).2) (Jr (K3 (a:=y.1) (b:=y.2) hy).2)];exact hC
   refine Ip (Jy (Tim.yB LO (st:=SortSt.mk' (tuples' true) (G.zip vs.toArray) #[] 7 none) (Q:=fun _ J=>Tim.SB (G.zip vs.toArray) (tuples' true) J/\Tim.Seg (fun p=>rnk ltI (vs.map kf) (kf p.2)) (arrOf J) 0 (G.zip vs.toArray).size) ⟨Array.Perm.refl _,rfl,rfl⟩ rfl fun J B S'=>⟨B,S'⟩) ?_ fun _ _ e=>e);rintro⟨⟨⟩,J⟩ s' ⟨rfl,B,S'⟩;dsimp only at B S' ⊢;refine tail J B.perm B.ok ?_;have hp:((arrOf J).toList.map (·.2)).Perm vs:=by
    have:=(JY.mp B.perm).map (·.2)
    rw[zs]at this;exact this
   rw[Jc,JA];intro i j hi hj a9;rw[IN]at hi hj;have q:=S' i j (IG _) (JW a9) (by rw[<-B.size];exact hj);rw[Tim.aU (IY hi),Tim.aU (IY hj)]at q;have m1:(arrOf J)[i].2∈vs:=hp.mem_iff.mp (Jr (by simp));have m2:(arrOf J)[j].2∈vs:=hp.mem_iff.mp (Jr (by simp))
   have:=tP mL (ks:=vs.map kf) (Jr m2) (Jr m1)
   show ltI (kf (arrOf J)[j].2) (kf (arrOf J)[i].2)=false;rw[<-this];exact Jh (by lia)
end
theorem nH:∀{l m:List β},l.Perm m->∀{xs:List α},m=xs.map f->∃ys:List α,ys.Perm xs/\l=ys.map f:=by
 intro l m h
 induction h with
 |nil=>intro xs e;exact⟨[],by rw[List.map_eq_nil_iff.mp e.symm],rfl⟩
 |cons x _ ih=>
  intro xs e;cases xs with
  |nil=>cases e
  |cons z xs=>
   rw[IR]at e;injection e with e1 e2;obtain⟨ys,h1,h2⟩:=ih e2;exact⟨z::ys,h1.cons z,by rw[IR,h2,e1]⟩
 |swap x y l=>
  intro xs e;cases xs with
  |nil=>cases e
  |cons z xs=>
   cases xs with
   |nil=>cases e
   |cons z' xs=>
    rw[IR,IR]at e;injection e with e1 e2;injection e2 with e2 e3;exact⟨z'::z::xs,List.Perm.swap _ _ _,by rw[IR,IR,e1,e2,e3]⟩
 |trans _ _ ih1 ih2=>
  intro xs e;obtain⟨ys,h1,h2⟩:=ih2 e;obtain⟨zs,B,G⟩:=ih1 h2;exact⟨zs,B.trans h1,G⟩
section
theorem xh {d q:Addr}{es:Array DictEntry}{ep:Nat}{kf:Value->Int×Int}{Q:EV9}(hh:A.handled=none)(lo:(d==sysModules)=false)(r:lU s.heap d es ep)(sz:es.size<=sizeLine)
  (turn:∀(v:Value) (h:Heap) (tk:Nat),(∃e∈es.toList,v=e.key)->(∀b o,s.heap.get? b=some o->h.get? b=some o)->wpAny (model prog w) A.in1.in1 (call (.ref q) [v]) (fun u s'=>∃h' tk',s'={s with heap:=h',toks:=tk' }/\(∀b o,h.get? b=some o->h'.get? b=some o)/\kF h' (kf v) u) (fun _ _=>False) {s with heap:=h,toks:=tk})
  (fin:∀(h1 h':Heap) (tk:Nat) (out:LV9) (c:Nat),(∀b o,s.heap.get? b=some o->h1.get? b=some o)->(∀b o,h1.get? b=some o->h'.get? b=some o)->h'.get? h1.objs.size=some (seqObj "list" out.toArray c)->out.Perm (es.toList.map (·.key))->out.Pairwise (fun x y=>ltI (kf y) (kf x)=false)->Q (.ref h1.objs.size) {s with heap:=h',toks:=tk}) :
  wpAny (model prog w) A (call (.builtin "sorted") [.ref d] [(Str.ofString "key",.ref q)]) Q E s:=by
 refine call_function_entry_kw kind_sorted plain_sorted entry_sorted (ksk_s1 _ _) ?_;unfold Builtin.«sorted»;refine Ip (m:=checkCount "sorted" 1 1 _) (IB (Ip (kdu_collect (A:=A.in1) (Bv (es:=es) (ep:=ep) lo) hh r sz fun h1 J B G hi=>?_)))
 have ea:B.toList=es.toList.map (·.key):=by
  refine Kx fun j=>?_;rw[IM,JJ,JJ];by_cases hj:j<es.size
  ·have O:j<B.size:=by rw[hi.1];exact hj
   obtain⟨e,e1,e2⟩:=hi.2 j B[j] (IY O);rw[e1,IY O,e2];rfl
  ·rw[K7 (by rw[hi.1];lia),K7 (by lia)];rfl
 rw[ea];have Y:(es.toList.map (·.key)).length<=sizeLine:=by simpa using sz
 refine Ip (wpAny_newList ?_ Y);have a0:(h1.push (seqObj "list" (es.toList.map (·.key)).toArray 0)).get? h1.objs.size=some (seqObj "list" (es.toList.map (·.key)).toArray 0):=IH _ rfl
 have a1:∀b o,s.heap.get? b=some o->(h1.push (seqObj "list" (es.toList.map (·.key)).toArray 0)).get? b=some o:=fun b o e=>Ir _ (G b o e)
 have ne:∀b o,s.heap.get? b=some o->b≠h1.objs.size:=fun b o e=>I0 (IK (G b o e));show wpAny _ _ _ _ _ {s with heap:=h1.push (seqObj "list" (es.toList.map (·.key)).toArray 0),toks:=J}
 refine Ip (wpAny_holding (wpAny_call_entry_kw slot_list_sort ⟨_,a0,rfl⟩ entry_list_sort (rN (kf:=kf) (s:={s with heap:=h1.push (seqObj "list" (es.toList.map (·.key)).toArray 0),toks:=J}) a0 Y (fun v h tk hv kp=>?_) fun h' tk out c kp gS hp hw=>⟨_,rfl,IB ⟨_,rfl,fin h1 h' tk out c G (fun b o e=>kp b o (I0 (IK e)) (Ir _ e)) gS hp hw⟩⟩) (ksk_l1 _ _)))
 obtain⟨e,he,rfl⟩:=Iv.mp hv;exact turn e.key h tk ⟨e,he,rfl⟩ fun b o e=>kp b o (ne b o e) (a1 b o e)
end
abbrev q9 (x:Str)(p1 p2 p3 p4 p5 p6 p7 p8 p9 p10 p11:Pos)(j1 j2 j3 j4 x1:Nat):Expr:=.Tuple [.Subscript (.Subscript (.Name x p1) (.Constant (.int 0) j1 p2) p3) (.Constant (.int 1) j2 p4) p5,.Subscript (.Subscript (.Name x p6) (.Constant (.int 0) j3 p7) p8) (.Constant (.int 0) j4 p9) p10] x1 p11
section
theorem pB (G:-(2^63)<=k/\k<2^63/\seqIndex? k 2=some i)(O : #[u,v][i]? = some r)(h:wpAny (model prog w) A (eval e env) (fun o B=>o=.ref a/\IsTup B.heap a #[u,v]/\Q r {B with toks:=B.toks+1}) E s)
  (Y:∀o z,subscripted (.Constant (.int k) j p) false o z=operate [o,z] (getItem o z)):wpAny (model prog w) A (eval (.Subscript e (.Constant (.int k) j p) p') env) Q E s:=by
 refine Subscript_ (Jy h (fun o B ⟨e1,J,q⟩=>?_) fun _ _ x=>x);subst e1;refine wpAny_Constant_int ?_;exact subscriptTail_builtinR (x:=r) (s:={B with toks:=B.toks+1}) (show Shared.TypeIs {B with toks:=B.toks+1} (.ref a) "tuple" from J.typeIs (s:=B)) slot_tuple_getitem.lookup (getItem_tuple (x:=r) (Q:=fun r' s'=>r'=r/\_) J G.1 G.2.1 G.2.2 O ⟨rfl,q⟩) (Y _ _)
theorem zP (S:wR [x] [] scope)(hd:A.depth<recursionLimit)
  (ho:s.heap.get? fa=some (kla_obj name qual params (q9 x p1 p2 p3 p4 p5 p6 p7 p8 p9 p10 p11 j1 j2 j3 j4 x1) scope cl pm c' ctv)) (cr:s.heap.CodeRec (.ref c') qual) (O:s.heap.NoLimit)
  (hb:bindArgs (kla_fn name qual params (q9 x p1 p2 p3 p4 p5 p6 p7 p8 p9 p10 p11 j1 j2 j3 j4 x1) scope cl pm (.ref c') ctv) ⟨[.ref a],[]⟩=pure [(x,.ref a)]) (ha:IsTup s.heap a #[.ref b,z]) (hi:IsTup s.heap b #[.int i t,.int k t']) (hx:(x==("__debug__" : Str))=false)
  (B:∀(j:Nat) (p:Pos) o i,subscripted (.Constant (.int 0) j p) false o i=operate [o,i] (getItem o i)) (Y:∀(j:Nat) (p:Pos) o i,subscripted (.Constant (.int 1) j p) false o i=operate [o,i] (getItem o i))
  (a0:∀env,starEach [Expr.Subscript (.Subscript (.Name x p1) (.Constant (.int 0) j1 p2) p3) (.Constant (.int 1) j2 p4) p5,.Subscript (.Subscript (.Name x p6) (.Constant (.int 0) j3 p7) p8) (.Constant (.int 0) j4 p9) p10] env=(false,eval (Expr.Subscript (.Subscript (.Name x p1) (.Constant (.int 0) j1 p2) p3) (.Constant (.int 1) j2 p4) p5) env)::starEach [.Subscript (.Subscript (.Name x p6) (.Constant (.int 0) j3 p7) p8) (.Constant (.int 0) j4 p9) p10] env)
  (a1:∀env,starEach [Expr.Subscript (.Subscript (.Name x p6) (.Constant (.int 0) j3 p7) p8) (.Constant (.int 0) j4 p9) p10] env=(false,eval (Expr.Subscript (.Subscript (.Name x p6) (.Constant (.int 0) j3 p7) p8) (.Constant (.int 0) j4 p9) p10) env)::starEach [] env) :
  wpAny (model prog w) A (call (.ref fa) [.ref a]) (fun u s'=>∃h' tk',s'={s with heap:=h',toks:=tk' }/\(∀b o,s.heap.get? b=some o->h'.get? b=some o)/\kF h' (k,i) u) E s:=by
 refine wpAny_call (kla_callFunE hd ho rfl S.co S.gen rfl cr ((BindsTo.of_eq hb) _ _ _ _ ?_));refine wpAny_newFunctionEnv S.nocell (fun y hy=>?_) (fun h' G J=>⟨O.fresh _ J,?_⟩) S.kind
 ·have e:y.1=x:=by rw[Iu.mp hy]
  rw[e];exact S.loc x IF
 have hk:∀b o,s.heap.get? b=some o->h'.get? b=some o:=fun b o e=>J.extBut b o (I0 (IK e)) (Ir _ e);have ha':IsTup h' a #[.ref b,z]:=let ⟨o,e,r⟩:=ha;⟨o,hk _ _ e,r⟩
 have hi':IsTup h' b #[.int i t,.int k t']:=let ⟨o,e,r⟩:=hi;⟨o,hk _ _ e,r⟩
 have lk:List.lookup x [(x,Value.ref a)]=some (.ref a):=by simp
 refine kla_codeExpr ?_;refine wpAny_Tuple (wpAny_items_cons ?_ (a0 _));refine pB (a:=b) (r:=.int k t') (i:=1) ⟨by decide,by decide,rfl⟩ rfl (pB (a:=a) (r:=.ref b) (i:=0) ⟨by decide,by decide,rfl⟩ rfl (wpAny_Name (wpAny_loadName_local S.kind (S.loc x IF) G (v:=.ref a) lk ⟨rfl,ha',rfl,hi',?_⟩) hx) (B _ _)) (Y _ _);refine wpAny_items_cons ?_ (a1 _);refine pB (a:=b) (r:=.int i t) (i:=0) ⟨by decide,by decide,rfl⟩ rfl (pB (a:=a) (r:=.ref b) (i:=0) ⟨by decide,by decide,rfl⟩ rfl (wpAny_Name (wpAny_loadName_local S.kind (S.loc x IF) G (v:=.ref a) lk ⟨rfl,ha',rfl,hi',?_⟩) hx) (B _ _)) (B _ _);refine wpAny_items_nil ⟨by show 2<=sizeLine;decide,_,_,rfl,fun b o e=>Ir _ (hk b o e),?_⟩;exact⟨_,t',t,rfl,_,IH _ rfl,rfl,_,rfl⟩
end
def kfH (H:Hp):Value->Int×Int
 | .ref a=>match H a with
  |some (.tup [.ref b,_])=>match H b with
   |some (.tup [.int x,.int y])=>(y,x)
   |_=>(0,0)
  |_=>(0,0)
 |_=>(0,0)
theorem E7 (i:iC H k a):kfH H (.ref a)=(k.1.2,k.1.1):=by
 obtain⟨b,h1,h2⟩:=i;unfold kfH;simp only[h1,h2]
abbrev Fm (P:Pg9)(w:Wd9)(T:AS9)(t:TA):TE:=fun σ H Q=>t σ H fun vs H1=>∃(d:Addr) (xs:List NE),vs=[.ref d]/\DN P w H1 d xs/\fV T H1 /\
 ∀(S:Addr) (ys:List NE) (H':Hp),cD T H1 H'->fV T H'->H1 S=none->H' S=some (.lst (ys.map fun e=>V.ref e.2.1))->ys.Perm xs->ys.Pairwise (fun e f=>ltI (f.1.1.2,f.1.1.1) (e.1.1.2,e.1.1.1)=false)->Q (.ref S) H'
section
theorem BN (hr:cV (k+3) X.A)(hM:X.mg "sorted" = none)(hB:ng X.mg X.base)(hC:CodeHd X.base c Pt)(a0:X.env.code=.ref c)(hT:(Pt,qual)∈T)(a5:(T.map (·.1)).Nodup)(hq:X.env.qual ++ "<lambda>" = qual)
  (S:wR [x] [] scope) (he:PA X [e] te) (hc:X.calm=true:=by rfl) (hx:(x==("__debug__" : Str))=false:=by decide) (hg:Gl X "sorted" := by rfl) (a1:closureFor scope X.env=pure (clo X.env []):=by rfl) (a4:defaultsOf params X.env=([],[]):=by rfl)
  (hb:∀(cl:List (Str×Addr)) (pm B:Value) (G a:Addr),bindArgs (kla_fn "<lambda>" qual params (q9 x p1 p2 p3 p4 p5 p6 p7 p8 p9 p10 p11 j1 j2 j3 j4 x1) scope cl pm (.ref G) B) ⟨[.ref a],[]⟩=pure [(x,.ref a)]:=by intros;rfl)
  (a6:∀(j:Nat) (p:Pos) o i,subscripted (.Constant (.int 0) j p) false o i=operate [o,i] (getItem o i):=by intros;rfl) (a7:∀(j:Nat) (p:Pos) o i,subscripted (.Constant (.int 1) j p) false o i=operate [o,i] (getItem o i):=by intros;rfl)
  (a8:∀env,starEach [Expr.Subscript (.Subscript (.Name x p1) (.Constant (.int 0) j1 p2) p3) (.Constant (.int 1) j2 p4) p5,.Subscript (.Subscript (.Name x p6) (.Constant (.int 0) j3 p7) p8) (.Constant (.int 0) j4 p9) p10] env=(false,eval (Expr.Subscript (.Subscript (.Name x p1) (.Constant (.int 0) j1 p2) p3) (.Constant (.int 1) j2 p4) p5) env)::starEach [.Subscript (.Subscript (.Name x p6) (.Constant (.int 0) j3 p7) p8) (.Constant (.int 0) j4 p9) p10] env:=by intros;rfl)
  (a9:∀env,starEach [Expr.Subscript (.Subscript (.Name x p6) (.Constant (.int 0) j3 p7) p8) (.Constant (.int 0) j4 p9) p10] env=(false,eval (Expr.Subscript (.Subscript (.Name x p6) (.Constant (.int 0) j3 p7) p8) (.Constant (.int 0) j4 p9) p10) env)::starEach [] env:=by intros;rfl)
  (b0:backTo pos (starEach [e] X.env)=(false,eval e X.env)::backTo pos (starEach [] X.env):=by rfl) (b1:(backTo pos (starEach [e] X.env)).any (·.1)=false:=by rfl) :
  PE X (.Call (.Name "sorted" p) [e] [⟨some "key",.Lambda params (q9 x p1 p2 p3 p4 p5 p6 p7 p8 p9 p10 p11 j1 j2 j3 j4 x1) scope lpos,kp⟩] pos) (Fm X.prog X.w T te):=by
 intro pins s σ H Q I h;refine wpAny_Call_Name_kw (jh I hg hM kC ?_);refine callWith_kw (thn (he pos pins s σ H _ I h) fun us s1 ⟨vs,H1,I1,r,d,xs,e1,D,a2,q⟩=>?_) b0 b1;subst e1;obtain⟨u,rfl,ru⟩:=iD r;cases ru;refine kws_cons (thn (FI (pos:=lpos) [] hB hC a0 hT a5 hq a1 a4 pins s1 σ H1 (fun v H2=>∃J G B,v=.ref J/\H2 J=some (isE J (kla_obj "<lambda>" qual params (q9 x p1 p2 p3 p4 p5 p6 p7 p8 p9 p10 p11 j1 j2 j3 j4 x1) scope (clo X.env []) ((X.mg "__name__").getD .none) G B))/\H2 G=some (oz G qual)/\fV T H2/\cD T H1 H2) I1 ⟨a2,fun J G B H' _ h1 h2 h3 h4=>⟨J,G,B,rfl,h1,h2,h3,h4⟩⟩) fun u2 s2 ⟨v2,H2,O,r2,J,G,B,e2,b2,b3,Y,sT⟩=>kws_nil ?_)
 subst e2;cases r2;show wpAny _ _ (call (.builtin "sorted") [.ref d] [(Str.ofString "key",.ref J)]) _ _ _
 have tp:∀b xs,H1 b=some (.tup xs)->H2 b=some (.tup xs):=fun b xs e=>sT.keep a2 e (by intro ps z;cases z);have D2:DN X.prog X.w H2 d xs:=D.keep (by rw[D.at_];exact sT.keep a2 D.at_ (by intro ps z;cases z)) tp;obtain⟨z,lo,o,es,ep,g1,g2,g3,g4,_,g5⟩:=D2.rd O.hok;have ek:es.toList.map (·.key)=xs.map fun e=>Value.ref e.2.1:=by
  rw[g4,Jp,Jp];rfl
 have a3:es.size<=sizeLine:=by
  have h1:=I_ List.length ek;rw[Iq,Iq,IN]at h1
  lia
 refine xh (kf:=kfH H2) (O.ok.hd hc) lo ⟨o,g1,g2,g3⟩ a3 (fun v h tk hv kp=>?_) fun h1 h' tk out cc b4 b5 gS hp hw=>?_
 ·obtain⟨en,b6,rfl⟩:=hv;obtain⟨ne,b7,e3⟩:∃ne∈xs,en.key=Value.ref ne.2.1:=by
   have m1:en.key∈es.toList.map (·.key):=Iv.mpr ⟨en,b6,rfl⟩;rw[ek]at m1;obtain⟨ne,h1,h2⟩:=Iv.mp m1;exact⟨ne,h1,h2.symm⟩
  rw[e3];have nk:=(D2.keys ne b7).1;rw[E7 nk];obtain⟨b,k1,k2⟩:=nk;obtain⟨_,its,r1,i1⟩:=(show bv X.prog X.w H2 s2.heap _ (.tup _) from O.hok _ _ k1);obtain⟨_,b9,r2,i2⟩:=(show bv X.prog X.w H2 s2.heap _ (.tup _) from O.hok _ _ k2);obtain⟨u1,u2,rfl,q1,q2⟩:=jB r1;obtain⟨w1,w2,rfl,⟨t1,rfl⟩,⟨t2,rfl⟩⟩:=jB r2;cases q1;have I3:Inv X pins σ H2 {s2 with heap:=h,toks:=tk}:=O.kept (t':=tk) kp;have cr:h.CodeRec (.ref G) qual:=by
   obtain⟨c₂,o₂,b8,t₂,z₂,y₂,r₂⟩:=(O.hok G _ b3).1;cases z₂;exact⟨G,o₂,b8,t₂,rfl,kp _ _ y₂,r₂⟩
  have up:∀{a:Addr} {xs:Array Value},IsTup s2.heap a xs->IsTup h a xs:=fun i=>let ⟨o,e,r⟩:=i;⟨o,kp _ _ e,r⟩
  exact zP (s:={s2 with heap:=h,toks:=tk}) S (hr.in1.in1.depth) (kp _ _ (O.hok J _ b2).1) cr I3.nolimit (hb _ _ _ _ _) (up i1) (up i2) hx a6 a7 a8 a9
 ·rw[ek]at hp;obtain⟨ys,pm,rfl⟩:=nH hp rfl;have I3:Inv X pins σ H2 {s2 with heap:=h1,toks:=tk}:=O.kept (t':=tk) b4;have nS:H2 h1.objs.size=none:=I3.hok.fresh (Iw _);have hv:aV (ys.map fun e=>V.ref e.2.1) (ys.map fun e=>Value.ref e.2.1):=by
   clear pm hw hp gS
   induction ys with
   |nil=>exact .nil
   |cons e ys ih=>exact .cons rfl ih
  have lz:(ys.map fun e=>V.ref e.2.1).length<=sizeLine:=by rw[Iq,pm.length_eq];exact z
  have I4:Inv X pins σ (upd H2 h1.objs.size (.lst (ys.map fun e=>V.ref e.2.1))) {s2 with heap:=h',toks:=tk}:=I3.laid (t':=tk) b5 (Iw _) ⟨lz,_,cc,hv,gS⟩;have s4:=ah.new nS (.lst (ys.map fun e=>V.ref e.2.1));refine⟨.ref h1.objs.size,_,I4,rfl,q _ ys _ (sT.trans s4.toT) (s4.tabs Y) ?_ ag pm ?_⟩
  ·cases e5:H1 h1.objs.size with
   |none=>rfl
   |some o5=>
    by_cases hm:h1.objs.size∈T.map (·.1)
    ·obtain⟨p5,m5,e6⟩:=Iv.mp hm;obtain⟨ps,h5,_⟩:=Y p5 m5;rw[e6,nS]at h5;cases h5
    ·have:=sT _ _ e5 hm
     rw[nS]at this;cases this
  ·rw[Jc]at hw;have al:∀e∈ys,kfH H2 (.ref e.2.1)=(e.1.1.2,e.1.1.1):=fun e he=>E7 (D2.keys e (pm.mem_iff.mp he)).1;refine hw.imp_of_mem fun {a b} ha hb h=>?_;rw[al a ha,al b hb]at h;exact h
end
section
theorem uW {lo:Int}(Pv:Addr->Nat->List V->Hp->Prop)(hn:n<=sizeLine)(hl:∀D i ys H,Pv D i ys H->H D=some (.lst ys)/\ys.length<=i)(h0:∀D,H1 D=none->Pv D 0 [] (upd H1 D (.lst [])))
  (hs:∀D i ys H,i<n->H1 D=none->Pv D i ys H->g (.int (lo+i)) σ0 H fun O H3=>O.drop k=cs/\tt O H3 fun b Y=>if b=true then te O Y fun y H5=>H5 D=some (.lst ys)/\Pv D (i+1) (ys++[y]) (upd H5 D (.lst (ys++[y]))) else Pv D (i+1) ys Y)
  (hd:∀D ys H,H1 D=none->Pv D n ys H->Q (.ref D) H) (mono:∀x σ H (R B:SP9),(∀σ' H',R σ' H'->B σ' H')->g x σ H R->g x σ H B)
  (G:∀σ H (R B:VK),(∀v H',R v H'->B v H')->te σ H R->te σ H B) (J:∀σ H (R B:Bool->Hp->Prop),(∀v H',R v H'->B v H')->tt σ H R->tt σ H B):pJ σ0 k cs g tt te Q (Itr lo n) H1 :=
 AD n (fun i x=>x=.int (lo+i)) Pv hn (fun D i ys H hi p=>hi) (fun D ys H p=>Iw _) (fun D i ys H x H' hi p y=>y) hl h0 (fun D i x ys H hi hx hD p=>hx▸hs D i ys H hi hD p) hd mono G J
end
def pvI (p:(Int×Tok)×(Int×Tok)):Value×Value:=(.int p.1.1 p.1.2,.int p.2.1 p.2.2)
def ltQ:List ((Int×Tok)×(Int×Tok))->Bool
 | []=>false
 |p::r=>if p.1.1=p.2.1 then ltQ r else decide (p.1.1<p.2.1)
section
open PySem.SeqAt
open PySem.AutoSeq1 (wpAny_loadPart')
open PySem.MeetsSeq PySem.MeetsSeq2 PySem.MeetsSeq3
theorem rE (l b:Addr)(i1 i2:Array Value)(n n2:Nat)(dd a0:Option Addr)(sl a1:Array (OV9))(ps:List ((Int×Tok)×(Int×Tok)))(e1:i1.toList.zip i2.toList=ps.map pvI)(e2:i1.size=i2.size):
  Meets (Builtin.«tuple.__lt__» ⟨[.ref l,.ref b],[]⟩)
   (fun _ R s=>s.heap.get? l=some {cls:=.type "tuple",dict:=dd,data:=.seq i1 n,slots:=sl}/\s.heap.get? b=some {cls:=.type "tuple",dict:=a0,data:=.seq i2 n2,slots:=a1} /\
    R (.ok (.ret (.bool (ltQ ps)))) s) :=
 .of_wp fun prog w A R s h=>by
  obtain⟨O,g,d,tk,os⟩:=s;obtain⟨hl,hb,h⟩:=h;have f2:=AutoSeq1.sub_tuple_tuple
  wp_walk using wpAny_loadPart' hl,wpAny_loadPart' hb,wpAny_forIn_list _ (fun rest b s'=>b.1=none/\s'=⟨O,g,d,tk,os⟩/\∃B:List ((Int×Tok)×(Int×Tok)),rest=B.map pvI/\R (.ok (.ret (.bool (ltQ B)))) ⟨O,g,d,tk,os⟩) _
  case turn=>
   rintro⟨y,x⟩ rest b s' ⟨Y,rfl,B,hz,hR⟩;cases B with
   |nil=>cases hz
   |cons p B=>
    obtain⟨⟨G,t1⟩,⟨J,t2⟩⟩:=p;rw[IR]at hz;injection hz with hyx hrest;have hy:y=.int G t1:=I_ Prod.fst hyx;have hx:x=.int J t2:=I_ Prod.snd hyx;subst hy hx;refine Ip (eq_int A.in1 _ G J t1 t2 prog w _ _ ?_);have hR':R (.ok (.ret (.bool (if G=J then ltQ B else decide (G<J))))) ⟨O,g,d,tk,os⟩:=hR;by_cases e:G=J
    ·rw[if_pos e]at hR';rw[IC e]
     wp_walk
     exact⟨rfl,rfl,B,hrest,hR'⟩
    ·rw[if_neg e]at hR';rw[Jh e];have a2:∀(E:EV9) (Q:EV9),Q (.bool (decide (G<J))) ⟨O,g,d,tk,os⟩->wpAny (model prog w) A.in1 (richCompare .Lt (.int G t1) (.int J t2)) Q E ⟨O,g,d,tk,os⟩:=fun E Q hq=>(PySem.P.lt_int hq:wpAny (model prog w) A.in1 (compareOp .Lt (.int G t1) (.int J t2)) Q E ⟨O,g,d,tk,os⟩)
     wp_walk using a2
     exact⟨_,rfl,by simpa using hR'⟩
  case fin=>
   rintro⟨b1,b2⟩ s' ⟨Y,rfl,B,hz,hR⟩;simp only at Y;subst Y;have e0:B=[]:=by
    cases B with
    |nil=>rfl
    |cons p B=>cases hz
   subst e0
   wp_walk
   refine⟨_,rfl,?_⟩;have hR':R (.ok (.ret (.bool false))) ⟨O,g,d,tk,os⟩:=hR;simpa[Builtin.Tuple.tupleCompareSizes,e2] using hR'
  case h=>exact⟨rfl,rfl,ps,e1,h⟩
theorem yS (hu:A.units<cLine)(t1:IsTup s.heap p1 #[.int a1 ta,.int a2 tb])(t2:IsTup s.heap p2 #[.int b1 tc,.int b2 td])
  (q:Q (.bool (if a1=b1 then (if a2=b2 then false else decide (a2<b2)) else decide (a1<b1))) s):wpAny (model prog w) A (richCompare .Lt (.ref p1) (.ref p2)) Q E s:=by
 obtain⟨⟨cls,dd,data,sl⟩,ho,hc,n,hd⟩:=id t1;obtain⟨⟨a0,O,data2,Y⟩,B,G,n2,J⟩:=id t2;simp only at hc hd G J;subst hc hd G J;exact richCompare_meets_room (op:=.Lt) ⟨_,ho,rfl⟩ ⟨_,B,rfl⟩ PySem.F.slot_tuple_lt PySem.F.entry_tuple_lt (PySem.F.args_tuple_lt_2 _ _) (rE p1 p2 #[.int a1 ta,.int a2 tb] #[.int b1 tc,.int b2 td] n n2 dd O sl Y [((a1,ta),(b1,tc)),((a2,tb),(b2,td))] rfl rfl)
  ⟨ho,B,(fun x=>nomatch x),q⟩ hu
end
end L2
namespace L2
open PySem PySem.Spec PyProof.Rows
variable {X:Cx}
section
theorem au (S:aE X.N P sc)(B:PE X e te)(hi:X.N[i]? = some x:=by exact rfl)(G:Loc X.env.scope x:=by exact Or.inl rfl)(J:swapsWith e (some (.Name x pos')) pos.line X.env=pure false:=by rfl)(O:X.fn x=true\/X.env.scope.names.lookup x=some .local:=by first | exact .inl rfl | exact .inr rfl | assumption):
  PS X (.Assign [.Name x pos'] e pos) (Bf te (qO i)):=jR S.nd hi G B J O
theorem aP (S:aE X.N P sc)(hi:X.N[i]? = some x:=by exact rfl)(B:Loc X.env.scope x:=by exact Or.inl rfl)(G:X.fn x=true\/X.env.scope.names.lookup x=some .local:=by first | exact .inl rfl | exact .inr rfl | assumption):PG X (.Name x pos) (qO i):=tU S.nd hi B G
theorem oi (B:X.N.Nodup:=by show List.Nodup (_::_);decide +kernel)(hi:X.N[i]? = some x:=by exact rfl)(G:Loc X.env.scope x:=by exact Or.inl rfl)(J:X.fn x=true\/X.env.scope.names.lookup x=some .local:=by exact Or.inr rfl):PG X (.Name x pos) (qO i):=tU B hi G J
theorem bH (Y:PE X o to)(ha:PA X (e::es) t)
  (G:attributeBase o "append" X.env (eval o X.env)=eval o X.env:=by rfl)
  (O:((backTo cpos (starEach (e::es) X.env)).all (fun x=> !x.1)&&(backToKw cpos (keywordEach [] X.env)).all (fun x=>x.1.isSome)&&decide ((e::es).length+([]:List Keyword).length+(if ([]:List Keyword).isEmpty then 0 else 1)<30))=true:=by rfl)
  (J:(apos.endLine==cpos.line)=true:=by rfl) (hs:starEach (e::es) X.env=(false,eval e X.env)::starEach es X.env:=by rfl) (B:(backTo cpos (starEach es X.env)).any (·.1)=false:=by rfl) :
  PE X (.Call (.Attribute o "append" apos) (e::es) [] cpos) (tBM X.K "list" yE to t):=vT PySem.F.plainAttrs_list PySem.F.slot_list_append PySem.F.type_list_append sF Y ha G O J hs B
end
theorem nw (h:∀p H',H p=none->ah H H'->H' p=some o->R p H'):Nw H o R:=fun p B=>h p _ B (ah.new B o) ag
theorem aM:∀{l:List α} {r:List β} {i:Nat} {x:α},Paired F l r->l[i]? = some x->∃y,r[i]? = some y/\F x y
 |_::_,_::_,0,_,.cons h _,e=>⟨_,rfl,by cases e;exact h⟩
 |_::_,_::_,i+1,_,.cons _ h,e=>aM (i:=i) h e
 | [],[],i,_,.nil,e=>by simp at e
theorem aR (h:Paired F l1 r1)(k:Paired F l2 r2):Paired F (l1++l2) (r1++r2):=by
 induction h with
 |nil=>exact k
 |cons p _ ih=>exact .cons p ih
theorem rJ (n:Nat):(0:Int)<((n+1:Nat):Int):=Int.natCast_pos.mpr (Lb n)
theorem leZ (h:Nat.ble n sizeLine=true):n<=sizeLine:=Nat.le_of_ble_eq_true h
open PySem.Calls PySem.W
section
theorem Inv.frozenT (I:Inv X pins σ H s)(e:H d=some (.dT kvs))(G:s.heap.get? d=some ob):Inv X pins σ (upd H d (.frz ob (.dT kvs))) s:=by
 have B:∀b o,H b=some o->b≠d->upd H d (.frz ob (.dT kvs)) b=some o:=fun b o q n=>by rw[aA n];exact q
 refine I.un (t':=s.toks) ⟨fun b o q _ _ _=>q,fun b o q _ _ _=>⟨o.slots,q⟩,fun b o q n _=>?_,fun b o q _=>⟨o,q⟩,fun b xs q=>B b _ q fun z=>?_,fun b o u q=>B b _ q fun z=>?_,fun b ps q=>⟨#[],?_⟩⟩ fun b u q=>?_
 ·rw[aA fun z=>by rw[z,e]at n;cases n];exact n
 ·rw[z,e]at q;cases q
 ·rw[z,e]at q;cases q
 ·rw[B b _ q fun z=>by rw[z,e]at q;cases q];simp
 ·by_cases hb:b=d
  ·subst hb;rw[ag]at q;cases q;refine⟨G,?_⟩;exact (I.hok b _ e).stay (fun _ _ _ r=>r) (fun c r=>B c _ r fun z=>by rw[z,e]at r;cases r) fun c xs r=>B c _ r fun z=>by rw[z,e]at r;cases r
  ·rw[aA hb]at q;exact (I.hok b u q).stay (fun _ _ _ r=>r) (fun c r=>B c _ r fun z=>by rw[z,e]at r;cases r) fun c xs r=>B c _ r fun z=>by rw[z,e]at r;cases r
def HH (te:TE):TE:=fun σ H Q=>te σ H fun x H1=>∃d kvs,x=.ref d/\H1 d=some (.dT kvs)/\∀ob,Q (.ref d) (upd H1 d (.frz ob (.dT kvs)))
theorem BO (J:PE X e te):PE X e (HH te):=by
 intro pins s σ H Q I h;refine thn (J pins s σ H _ I h) fun v O ⟨x,H1,B,Y,d,kvs,ex,G,q⟩=>?_;subst ex;obtain⟨_,_,xs,_,o,es,ep,ho,_⟩:=(show bv X.prog X.w H1 O.heap d (.dT kvs) from B.hok d _ G);exact⟨.ref d,_,B.frozenT G ho,Y,q o⟩
def Dc (d:Addr)(ob:Obj)(kvs:List (List Key×V)):It :=
 ⟨fun i H=>H d=some (.frz ob (.dT kvs))/\i<kvs.length,fun i H x H'=>H'=H/\∃k v b,kvs[i]? = some (k,v)/\x=.ref b/\H b=some (.tup (k.map kV)),fun i H=>H d=some (.frz ob (.dT kvs))/\i=kvs.length⟩
theorem Gm (ok:HOk P w H h)(e:H d=some (.frz ob (.dT kvs))):h.get? d=some ob/\(d==sysModules)=false/\kvs.length<=sizeLine/\∃es ep xs,ob.ExactDict/\ob.data=.dict es ep/\es.toList=xs.map (entryOfKey (tupleKind (aw P w)))/\KT H kvs xs/\(xs.map (·.1)).Nodup:=by
 obtain⟨B,q⟩:=ok d _ e;obtain⟨z,y,xs,r,o,es,ep,h1,h2,G,J,O⟩:=(show bv P w H h d (.dT kvs) from q);cases B.symm.trans h1;exact⟨B,y,z,es,ep,xs,h2,G,J,r,O⟩
theorem Cr (h:KT H kvs xs):∀{i:Nat} {x:List Key×Addr×Value},xs[i]? = some x->∃v,kvs[i]? = some (x.1,v)/\H x.2.1=some (.tup (x.1.map kV))/\aZ v x.2.2:=by
 have h':Paired _ kvs xs:=h
 clear h
 induction h' with
 |nil=>intro i x e;cases e
 | @cons a b as bs h _ ih=>
  intro i x e;cases i with
  |zero=>
   cases e;exact⟨a.2,I_ some (Prod.ext h.1 rfl),by rw[<-h.1];exact h.2.1,h.2.2⟩
  |succ i=>exact ih e
theorem wX {K:Frag}(hx:ob.ExactDict)(B:ob.data=.dict es ep)(hl:es.size=kvs.length)(a0:d≠it):
  wP P w K tg (Dc d ob kvs) [it] it (fun i h=>h.IsKeyIter it d i es.size ep) where
 mem:=by simp
 obj:=fun i h st b G=>by
  have e:b=it:=by simpa using G
  subst e;obtain⟨o,e,c,dd⟩:=st;exact⟨o,e,fun v z=>by rw[dd]at z;cases z⟩
 keep:=fun i h h' st k=>st.at fun o e=>k it (by simp) o e
 item:=by
  intro X hP hw hK hc i pins s σ H E I Y st hg;subst hP hw hK;obtain⟨f0,f1,f2,f3,f4,f5⟩:=Y it (by simp);obtain⟨hd,hi⟩:=hg;obtain⟨ho,_,_,a1,a2,xs,_,e2,e3,kt,_⟩:=Gm I.hok hd;rw[B]at e2;cases e2;refine sk st ⟨ob,ho,hx,B⟩ (by lia) fun h' J sb=>?_;have I1:Inv X pins σ H {s with heap:=h' }:=I.turned (t':=s.toks) (fun b o G e=>(sb.2 b G).trans e) f0 f1 f3 f4 f5;obtain⟨o,e,c,dd⟩:=id J;have O:i<xs.length:=by
   have:=I_ List.length e3
   rw[Iq,IN]at this
   lia
  obtain⟨v,hv,G,_⟩:=Cr kt (IE O);have ek:es[i].key=Value.ref (xs[i]).2.1:=by
   have h1:es.toList[i]? = some es[i]:=by simp[show i<es.size by lia]
   rw[e3,IM,IE O]at h1;have h2:=Option.some.inj h1;rw[<-h2];rfl
  exact⟨_,rfl,sJ (s:={s with heap:=h' }) e c dd (by decide) ⟨.ref (xs[i]).2.1,H,I1,ek,⟨rfl,_,v,_,hv,rfl,G⟩,J,fun b G=>(Y b G).1⟩⟩
 done:=by
  intro X hP hw hK hc i pins s σ H E I Y st hg;subst hP hw hK;obtain⟨f0,f1,f2,f3,f4,f5⟩:=Y it (by simp);obtain⟨hd,hi⟩:=hg;obtain⟨ho,_⟩:=Gm I.hok hd;obtain rfl:i=es.size:=by lia
  exact vN (I.ok.hd hc) st ⟨ob,ho,hx,B⟩ fun h' eb=>⟨rfl,I.turned (t':=s.toks) (fun b o G e=>eb b o G e) f0 f1 f3 f4 f5⟩
 self:=fun _ _ _ _ _ st h=>wpAny_pyIter_keyiter st h
def Gg (tl:TE):TI:=fun σ H R=>tl σ H fun x H1=>∃d ob kvs,x=.ref d/\H1 d=some (.frz ob (.dT kvs))/\R (Dc d ob kvs) H1
theorem qp (J:PE X l tl):PI X tg l (Gg tl):=by
 intro pins s σ H R I h;refine thn (J pins s σ H _ I h) fun v B ⟨x,H1,G,r1,q1⟩=>?_;obtain⟨d,ob,kvs,e,hd,q⟩:=q1;subst e;cases r1;obtain⟨Y,hs,_,es,ep,xs,hx,e2,e3,kt,_⟩:=Gm G.hok hd;refine sj hs ⟨ob,Y,hx,e2⟩ ?_;have O:d<B.heap.objs.size:=IK Y;have J:es.size=kvs.length:=by
  have:=I_ List.length e3
  rw[Iq,IN]at this;rw[this];exact (Paired.length kt).symm
 refine⟨B.heap.objs.size,[B.heap.objs.size],_,_,_,rfl,G.kept (t':=B.toks) fun b o e=>Ir _ e,wX hx e2 J (I0 O),⟨_,IH _ rfl,rfl,rfl⟩,fun b hb=>?_,q⟩;have e:b=B.heap.objs.size:=by simpa using hb
 subst e;exact G.fpOk (Iw _) (G.hok.fresh (Iw _))
end
theorem nT {d:Addr}{B:Obj}{kvs:List (List Key×V)}{g:TG}{tb:TS}{D:rC}{σ:St}{H:Hp}(Pv:NS9)(O:Pv 0 σ H)(Y:∀i σ H,i<=kvs.length->Pv i σ H->H d=some (.frz B (.dT kvs)))
  (hs:∀i k v b σ H,kvs[i]? = some (k,v)->H b=some (.tup (k.map kV))->Pv i σ H->g (.ref b) σ H fun G H2=>tb {D with nx:=Pv (i+1),ct:=Pv (i+1),bk:=D.nx} G H2) (hd:∀σ H,Pv kvs.length σ H->D.nx σ H) :
  ∃W:Nat->NS9,(∃m,W 0 m σ H)/\∀i m σ H,W i m σ H ->
   ((Dc d B kvs).stop i H/\D.nx σ H)\/((Dc d B kvs).go i H/\∃N:SP9,(∀J H',N J H'->∃m',m'<m/\W (i+1) m' J H')/\∀x H',(Dc d B kvs).yld i H x H'->g x σ H' fun G H2=>tb {D with nx:=N,ct:=N,bk:=D.nx} G H2):=by
 refine⟨fun i m σ H=>m=kvs.length-i/\i<=kvs.length/\Pv i σ H,⟨kvs.length,by simp,IG _,O⟩,?_⟩;rintro i m σ H ⟨rfl,hi,p⟩;have q:=Y i σ H hi p;by_cases hlt:i<kvs.length
 ·refine .inr ⟨⟨q,hlt⟩,Pv (i+1),fun J H' p'=>⟨kvs.length-(i+1),by lia,rfl,hlt,p'⟩,fun x H' y=>?_⟩;obtain⟨e,k,v,b,hk,rfl,hb⟩:=y;subst e;exact hs i k v b σ _ hk hb p
 ·have e:i=kvs.length:=by lia
  subst e;exact .inl ⟨⟨q,rfl⟩,hd σ H p⟩
section
theorem n5:fO X (.builtin "len") (fun xs H Q=>∃(a:Addr) (kvs:List (List Key×V)),xs=[.ref a]/\Rd H a (.dT kvs)/\Q (.int kvs.length) H):=by
 intro pins s σ H xs us Q I r h;obtain⟨a,kvs,rfl,e,q⟩:=h;obtain⟨u,rfl,G⟩:=iD r;cases G;obtain⟨z,J,ys,O,o,es,ep,h1,h2,Y,h4,_⟩:=mV I.hok e;have hl:(es.size:Int)=kvs.length:=by
  have:=I_ List.length h4
  rw[Iq,IN]at this;rw[this,Paired.length O]
 refine Calls.call_function_entry kind_len plain_len entry_len (args_len1 _) ?_;have B:s.TypeIs (.ref a) "dict" := ⟨o,h1,h2.1⟩
 unfold Builtin.«len»;refine Ip (m:=oneArg "len" _) (IB ?_)
 refine Ip (m:=callSpecial? (.ref a) (Str.ofString "__len__")) (wpAny_callSpecial?_slot (name:=Str.ofString "__len__") B F.slot_dict_len (wpAny_call_entry F.slot_dict_len B F.entry_dict_len ?_ (F.args_dict_len_1 _)))
 show wpAny _ _ (dictSize a >>= _) _ _ s;unfold dictSize;refine Ip (Ip (wpAny_dictEntries h1 Y (IB ?_)));show wpAny _ _ (Builtin.Dict.pendingCount a >>= _) _ _ s;refine Ip (wpAny_pendingCount_other J ?_);refine wpAny_ret_mkInt ?_;rw[hl,show ((kvs.length:Nat):Int)+((0:Nat):Int)=kvs.length from Int.add_zero _];show wpAny _ _ _ _ _ {s with toks:=s.toks+1};refine Ip (wpAny_holding (IB ?_));refine Ip (wpAny_letGo ?_);show wpAny _ _ (if ((kvs.length:Nat):Int)<0 then _ else _) _ _ _;rw[if_neg (by lia)];show wpAny _ _ (if ((kvs.length:Nat):Int)≥2^63 then _ else _) _ _ _;rw[if_neg (by rw[sizeLine_eq]at z;lia)];exact Ip (wpAny_mkInt (IB ⟨_,rfl,.int _,H,I.tok _,⟨_,rfl⟩,q⟩))
def Dp (tk tv:TE):TE:=fun σ H Q=>∀p,H p=none->tk σ (upd H p (.dT [])) fun x H1=>tv σ H1 fun v H2=>∃b k,x=.ref b/\H2 p=some (.dT [])/\H2 b=some (.tup (k.map kV))/\Q (.ref p) (upd H2 p (.dT [(k,v)]))
theorem zX (hu:X.A.units<cLine)(hk:PE X k tk)(hv:PE X v tv):PE X (.Dict [some k] [v] pos) (Dp tk tv):=by
 intro pins s σ H Q I q;have hn:=I.hok.fresh (Iw s.heap.objs.size);have I1:=I.laid (a:=s.heap.objs.size) (o:=.dT []) (h':=s.heap.push {cls:=.type "dict",data:=.dict #[]}) (t':=s.toks) (fun _ _ q=>Ir _ q) (Iw _) (wy s.heap I.big)
 refine wpAny_Dict_any rfl rfl (by simp) (by show 1<=15;decide) ?_;refine pairTrees_cons_walk (thn (hk pins _ σ _ _ I1 (q _ hn)) fun u s1 ⟨x,H1,I2,rx,q1⟩=>thn (hv pins s1 σ H1 _ I2 q1) fun w2 s2 ⟨y,H2,B,ry,b,kk,ex,G,J,q2⟩=>pairTrees_nil_walk ?_);subst ex;cases rx;obtain⟨z,hd,xs,O,dd⟩:=CG B.hok G;cases O;show wpAny _ _ (storeAll s.heap.objs.size [(Value.ref b,w2)]) _ _ _;unfold storeAll;rw[Kw];refine Ip (Ip (wpAny_dictSet_heap (knd:=tupleKind (aw X.prog X.w)) (hsz:=IG _) hu (ji B.hok J) dd fun h' Y hs=>IB ?_));show wpAny _ _ (forIn ([]:List (Value×Value)) _ _) _ _ _;rw[LA];refine IB ⟨.ref s.heap.objs.size,_,?_,rfl,q2⟩;obtain⟨o,es,ep,hq,h2,h3,h4,_,h5⟩:=Y;refine kB B (by rw[G];exact True.intro) hs ⟨o,hq⟩ ⟨by show 1<=sizeLine;decide,hd,_,(.cons ⟨rfl,?_,ry⟩ .nil:KT _ [(kk,y)] [(kk,b,w2)]),o,es,ep,hq,h2,h3,h4,h5⟩;rw[aA (yR J G (fun z=>nomatch z))];exact J
end
section
theorem rG (hu:A.units<cLine)(B:(tupleKind (aw prog w)).is s.heap k a)(hm:s.heap.DictOfH (tupleKind (aw prog w)) d xs)(O:k∉xs.map (·.1))(hsz:xs.length<=sizeLine)
  (hQ:∀h',h'.DictOfH (tupleKind (aw prog w)) d (xs++[(k,a,v)])->Heap.SameBut d s.heap h'->Q () {s with heap:=h' }):wpAny (model prog w) A (dictSetHashed d (.ref a) ((tupleKind (aw prog w)).hash k) v) Q E s:=by
 obtain⟨o,es,ep,Y,hc,J,he,a0,hn⟩:=hm;unfold dictSetHashed
 try with_reducible refine wpAny_holding ?_
 refine Ip (wpAny_dictFind_heap (knd:=tupleKind (aw prog w)) hu B Y J he a0 hn (fun _=>?_) fun j p hj=>absurd (Iv.mpr ⟨_,ID hj,rfl⟩) O);refine Ip (wpAny_rule (wpAny_updateDictKeys (hz:=by have e:=size_of_entries he;lia) Y J (hQ _ ⟨_,_,ep+1,Li _ Y (Obj.isFreed_of_dict (Obj.data_mapDictKeys J _)),hc.mapDictKeys _,Obj.data_mapDictKeys J _,?_,?_,?_⟩ (Heap.SameBut.update ..))))
 ·simp[he,entryOfKey]
 ·intro x G;rcases Iz.mp G with G | G
  ·exact (tupleKind (aw prog w)).keeps (a0 x G) Y J (Heap.SameBut.update ..)
  ·rw[Iu.mp G];exact (tupleKind (aw prog w)).keeps B Y J (Heap.SameBut.update ..)
 ·rw[IT,JF];exact⟨hn,by simp,fun x G y hy e=>O (by rw[<-show y=k from Iu.mp hy,<-e];exact G)⟩
theorem Am (hu:A.units<cLine)(a8:d≠o)(b2:(o==sysModules)=false)(hd:s.heap.DictOfH (tupleKind (aw prog w)) d xs)
  (ho:s.heap.DictOfH (tupleKind (aw prog w)) o ys) (c1:∀x∈xs,∀y∈ys,x.1≠y.1) (c2:(ys.map fun x=>(tupleKind (aw prog w)).hash x.1).Nodup) (hsz:xs.length+ys.length<=sizeLine)
  (hQ:∀h' o' O J,h'.get? d=some o'->o'.ExactDict->o'.data=.dict O J->O.toList=(xs++ys).map (entryOfKey (tupleKind (aw prog w)))->((xs++ys).map (·.1)).Nodup->Heap.SameBut d s.heap h'->Q () {s with heap:=h' }) :
  wpAny (model prog w) A (Builtin.Dict.mergeDict nm d o) Q E s:=by
 by_cases x0:xs=[]
 ·subst x0;obtain⟨_,_,_,_,_,_,_,_,a9⟩:=id ho;exact xM a8 b2 hd ho c2 (by simpa using hsz) fun h' o' O J a b c e f=>hQ h' o' O J a b c e a9 f
 obtain⟨od,a2,c6,b3,c7,b4,c3,_,_⟩:=id hd;obtain⟨oo,B,c8,a3,c9,G,b5,b6,a9⟩:=id ho;have c5:B.size=ys.length:=size_of_entries b5;have Y:a2.size=xs.length:=size_of_entries c3;have a6:wpAny (model prog w) A (do
   let epoch <-dictEpoch o
   let l <-dictEntries o
   forIn [:l.size] PUnit.unit fun i (_:PUnit)=>(do
     let l' <-dictEntries o
     match l'[i]? with
      |some e=>do
       holding [e.key,e.val] (dictSetHashed d e.key e.hash e.val)
       let J <-dictEpoch o
       if (J != epoch)=true then do
         (unsupported (toString nm++toString ":source-changed-during-callback"):Sem PUnit)
         pure (ForInStep.yield PUnit.unit)
        else pure (ForInStep.yield PUnit.unit)
      |_=>do
       (unsupported "internal:dict-merge" : Sem PUnit)
       pure (ForInStep.yield PUnit.unit):Sem (ForInStep PUnit))
   pure ()) Q E s:=by
  refine Ip (wpAny_dictEpoch a3 G ?_);refine Ip (wpAny_dictEntries a3 G ?_);refine Ip ?_;rw[Std.Legacy.Range.forIn_eq_forIn_range'];simp only[Std.Legacy.Range.size,Lc,Lw,Nat.div_one];refine wpAny_forIn_list _
   (fun rest _ s'=>∃h' i,s'={s with heap:=h' }/\rest=List.range' i (B.size-i)/\i<=B.size/\h'.DictOfH (tupleKind (aw prog w)) d (xs++ys.take i)/\h'.get? o=some oo/\Heap.SameBut d s.heap h')
   _ ?_ ?_ _ _ ⟨s.heap,0,rfl,by simp,IG _,by simpa using hd,a3,Heap.SameBut.refl _ _⟩
  ·rintro x rest b s' ⟨h',i,rfl,hr,hi,a4,a0,a5⟩;have b0:i<B.size:=by
    rcases JV i B.size with h|h
    ·exact h
    ·rw[Nat.sub_eq_zero_of_le h]at hr;simp at hr
   obtain⟨rfl,b1⟩:x=i/\rest=List.range' (i+1) (B.size-(i+1)):=by
    have e:B.size-i=(B.size-(i+1))+1:=by lia
    rw[e,List.range'_succ]at hr;injection hr with h1 h2;exact⟨h1,h2⟩
   refine Ip (wpAny_dictEntries a0 G ?_);rw[IY b0];have a1:x<ys.length:=by lia
   have ee:B[x]=entryOfKey (tupleKind (aw prog w)) ys[x]:=by
    have h1:B.toList[x]? = some B[x]:=by simp[b0]
    rw[b5,IM,IE a1]at h1;exact (Option.some.inj h1).symm
   show wpAny _ _ (holding [B[x].key,B[x].val] (dictSetHashed d B[x].key B[x].hash B[x].val) >>= _) _ _ _;rw[ee];have b7:(tupleKind (aw prog w)).is h' (ys[x]).1 (ys[x]).2.1:=(tupleKind (aw prog w)).keeps (b6 _ (LR a1)) b3 b4 a5;have b8:(ys[x]).1∉(xs++ys.take x).map (·.1):=fun hm=>by
    obtain⟨z,hz,e⟩:=Iv.mp hm;rcases Iz.mp hz with hz|hz
    ·exact c1 z hz _ (LR a1) e
    ·obtain⟨j,hj⟩:=Je hz;rw[K4]at hj
     split at hj
     ·rename_i c
      have h1:(ys.map (·.1))[j]? = some z.1:=by rw[IM,hj];rfl
      have h2:(ys.map (·.1))[x]? = some z.1:=by rw[IM,IE a1,e];rfl
      have:=(K8 (Ix.mp h1).1 a9).mp (h1.trans h2.symm)
      lia
     ·cases hj
   refine Ip (wpAny_holding (rG (s:={s with heap:=h' }) hu b7 a4 b8 (by rw[Iy,Jl];lia) fun b9 c0 a7=>?_));have hoo'':b9.get? o=some oo:=(a7.2 o (Ne.symm a8)).trans a0;refine Ip (wpAny_dictEpoch hoo'' G ?_);rw[if_neg (by simp)];exact IB ⟨b9,x+1,rfl,b1,b0,by rw[Kl,IE a1,<-Jv];exact c0,hoo'',a5.trans a7⟩
  ·rintro b s' ⟨h',i,rfl,hr,hi,a4,a0,a5⟩;have c4:i=ys.length:=by
    rcases JV i B.size with h|h
    ·have e:B.size-i=(B.size-(i+1))+1:=by lia
     rw[e,List.range'_succ]at hr;exact nomatch hr
    ·lia
   rw[c4,Jw]at a4;obtain⟨o',O,J,k1,k2,k3,k4,_,k5⟩:=a4;exact IB (hQ h' o' O J k1 k2 k3 k4 k5 a5)
 unfold Builtin.Dict.mergeDict;rw[if_neg (by simpa using a8)];unfold Builtin.Dict.showsAll;rw[if_neg (by rw[b2];exact IL)];refine Ip (IB ?_);refine Ip (wpAny_dictEntries a3 G ?_);have ne:a2.isEmpty=false:=by
  cases q:a2.isEmpty with
  |false=>rfl
  |true=>
   have:a2 = #[]:=Array.isEmpty_iff.mp q
   rw[this]at Y;exact absurd (KB.mp Y.symm) x0
 dsimp only
 split
 ·refine Ip (wpAny_dictEntries b3 b4 ?_);rw[if_neg (by rw[ne];exact IL)];exact a6
 ·exact a6
end
section
def GU (td ty:TE):TE:=fun σ H Q=>td σ H fun x H1=>∃a,x=.ref a/\IsD H1 a/\ty σ H1 fun y H2=>∃(e:Addr) (ks ls:List (List Key×V)),y=.ref e/\H2 a=some (.dT ks)/\Rd H2 e (.dT ls)/\a≠e/\(∀k∈ks,∀l∈ls,k.1≠l.1)/\(∀w,(ls.map fun l=>om l.1 w).Nodup)/\ks.length+ls.length<=sizeLine/\Q .non (upd H2 a (.dT (ks++ls)))
theorem Cq (h:KT H kvs xs)(B:x∈xs):∃p∈kvs,p.1=x.1:=by
 obtain⟨i,hi⟩:=Je B;obtain⟨v,G,_⟩:=Cr h hi;exact⟨_,ID G,rfl⟩
theorem BP (hu:X.A.units+1<cLine)(ho:PE X o td)(he:PE X e ty)(m:M1 X o "update" apos e cpos):PE X (.Call (.Attribute o "update" apos) [e] [] cpos) (GU td ty):=by
 intro pins s σ H Q I h;refine wpAny_Call_method m.base m.few m.line PySem.F.plainAttrs_dict PySem.F.slot_dict_update PySem.F.type_dict_update (thn (ho pins s σ H _ I h) fun u s1 ⟨x,H1,I1,rx,a,ex,d,q1⟩=>?_);subst ex;obtain rfl:u=Value.ref a:=rx;obtain⟨t1,t2,_⟩:=Gc I1 d;refine⟨t1,t2,?_⟩;rw[m.trees];refine Calls.callWith_builtin rfl (Calls.evalArgs_plain (Calls.spliced_cons (thn (he pins s1 σ H1 _ I1 q1) fun iv Y ⟨y,H2,I2,ry,e',ks,ls,ey,ea,ee,a0,a1,hh,hsz,q⟩=>Calls.spliced_nil ?_)));subst ey;cases (show iv=Value.ref e' from ry);obtain⟨zl,hd,xs,G,dd⟩:=CG I2.hok ea;obtain⟨a6,a2,ys,B,O⟩:=mV I2.hok ee;have l1:=Paired.length G;have l2:=Paired.length B;have hT:Y.TypeIs (.ref a) "dict" := dd.typeIs
 have J:Y.TypeIs (.ref e') "dict" := O.typeIs
 refine wpAny_call_entry PySem.F.slot_dict_update hT PySem.F.entry_dict_update ?_ (PySem.F.args_dict_update_2 _ _);unfold Builtin.«dict.update»;refine Ip ?_;unfold Builtin.Dict.selfAndRest;refine Ip (wpAny_notOrdered_dict hT ?_);show wpAny _ _ (pure (a,[Value.ref e'])) _ _ Y;refine IB ?_;show wpAny _ _ (Builtin.Dict.updateFrom "dict.update" a (.ref e') [] .none) _ _ Y
 unfold Builtin.Dict.updateFrom;refine Ip (wpAny_typeOf J ?_);rw[if_neg (by decide)];refine Ip ?_;unfold Builtin.Dict.merge;refine Ip ?_;unfold Builtin.Dict.readDirectly;refine Ip (wpAny_isInstance J isSubtype_dict_dict ?_);simp only[Bool.not_true,IQ,if_false];refine Ip (wpAny_specialOf J F.slot_dict_iter.lookup (IB ?_));simp only[beq_self_eq_true,if_true];refine Ip (IB ?_);refine Am (A:=X.A.in1) hu a0 a2 dd O (fun x hx y hy e=>?_) ?_ (by lia) fun h' o' a3 a4 k1 k2 k3 k4 k5 sb=>?_
 ·obtain⟨p,hp,e1⟩:=Cq G hx;obtain⟨p',a5,e2⟩:=Cq B hy;exact a1 p hp p' a5 (e1.trans (e.trans e2.symm))
 ·rw[KT.hashes B];exact hh _
 ·show wpAny _ _ (Builtin.Dict.addKeywords a [] >>= _) _ _ _;refine Ip (IB (IB ⟨.none,rfl,.non,_,?_,rfl,q⟩));refine kB I2 (by rw[ea];exact True.intro) sb ⟨o',k1⟩ ⟨by rw[Iy];exact hsz,hd,_,KT.keeps (aR G B) fun c zs ec=>?_,o',a3,a4,k1,k2,k3,k4,k5⟩;rw[aA (yR ec ea (fun z=>nomatch z))];exact ec
end
section
theorem xq (G:KdlKeysView s.heap v d)(r:lU s.heap d es ep)
  (hQ:Q (.ref s.heap.objs.size) {s with heap:=s.heap.push {cls:=.type "dict_keyiterator",data:=.fields #[.ref d,.int 0 0,.int es.size 0,.int ep 0]} }):wpAny (model prog w) A (pyIter (.ref v)) Q E s:=by
 obtain⟨ov,J,a0,O⟩:=id G;obtain⟨o,Y,hc,B⟩:=r;refine wpAny_pyIter_slot G.typeIs kdl_slot_keys_iter (wpAny_call_entry kdl_slot_keys_iter G.typeIs kdl_entry_keys_iter ?_ (kdl_args_keys_iter _));unfold Builtin.«dict_keys.__iter__»;refine Ip (IB ?_);refine Ip ?_;unfold Builtin.Dict_items.dictOf;refine Ip (wpAny_field J O (x:=.ref d) rfl (IB ?_));refine Ip ?_;unfold Builtin.Dict_items.newIterator;refine Ip (wpAny_dictEntries Y B ?_);refine Ip (wpAny_dictEpoch Y B ?_);simp only[show Builtin.Dict_items.ownsTuple "dict_keyiterator" = false by decide,IQ,if_false]
 refine wpAny_newObj_type (IB ⟨_,rfl,"dict_keyiterator",_,⟨_,IH _ rfl,rfl⟩,F.slot_dict_keyiterator_next.lookup,?_⟩)
 simpa[rawInt] using hQ
theorem vM:KdlSrc prog w "dict_keys" v d es.size (fun i x=>∃e,es[i]? = some e/\x=e.key) (fun h=>KdlKeysView h v d/\lU h d es ep) where
 type:=fun _ B=>B.1.typeIs
 there:=fun _ B=>⟨let ⟨_,ho,_⟩:=B.1;IK ho,let ⟨o,ho,_⟩:=B.2;IK ho⟩
 keep:=fun _ _ B J=>⟨let ⟨o,ho,x⟩:=B.1;⟨o,J v (.inl rfl) o ho,x⟩,B.2.keep fun o e=>J d (.inr rfl) o e⟩
 notList:=by decide
 notTuple:=by decide
 hint:=fun _ _ _ _ B G=>kdl_hint_keys B.1.typeIs G
 iter:=fun _ s O B=>⟨_,_,(fun _ _ G=>xq B.1 B.2 G),qh O (let ⟨o,ho,_⟩:=B.2;I0 (IK ho)),⟨⟨_,IH _ rfl,rfl,rfl⟩,B.2.keep fun o e=>Ir _ e⟩⟩
end
section
variable {α:Type}{lt:α->α->Bool}
def Ba (r:V->HV9)(td:TE):TE:=fun σ H Q=>td σ H fun x H1=>r x H1 Q
theorem sy (L:Lin lt)(hc:X.calm=true)(hg:Gl X "sorted")(hm:X.mg "sorted" = none)(ho:PE X o td)
  (hR:∀(s:Sh9) (H:Hp) (x:V) (v:Value) (Q:VK),HOk X.prog X.w H s.heap->aZ x v->r x H Q->∃(a:Addr) (es:Array DictEntry) (ep:Nat) (kf:Value->α) (κ:SortKind),v=.ref a/\(a==sysModules)=false/\lU s.heap a es ep/\es.size<=sizeLine /\
   (∀h',(∀b o,s.heap.get? b=some o->h'.get? b=some o)->∀tk,AJ X.A.in1.in1 X.prog X.w (es.toList.map (·.key)) kf lt κ {s with heap:=h',toks:=tk}) /\
   ∀out:LV9,out.Perm (es.toList.map (·.key))->out.Pairwise (fun x y=>lt (kf y) (kf x)=false)->∃us,aV us out/\∀S,H S=none->Q (.ref S) (upd H S (.lst us)))
  (J:attributeBase o "keys" X.env (eval o X.env)=eval o X.env:=by rfl) (O:(apos.endLine==pos2.line)=true:=by rfl)
  (a0:starEach [Expr.Call (.Attribute o "keys" apos) [] [] pos2] X.env=[(false,eval (Expr.Call (.Attribute o "keys" apos) [] [] pos2) X.env)]:=by rfl) :
  PE X (.Call (.Name "sorted" p) [.Call (.Attribute o "keys" apos) [] [] pos2] [] pos) (Ba r td):=by
 intro pins s σ H Q I h;refine wpAny_Call_Name_kw (jh I hg hm kC ?_);refine PyProof.Rows.callWith_builtin1 ?_ a0 rfl;rw[a0];show wpAny _ _ (spliced [(false,eval (Expr.Call (.Attribute o "keys" apos) [] [] pos2) X.env)]) _ _ s
 refine Calls.spliced_cons ?_;refine wpAny_Call_method0_late J O (thn (ho pins s σ H _ I h) fun u B ⟨x,H1,I1,rx,q0⟩=>?_);obtain⟨a,es,ep,kf,κ,rfl,hd,Y,sz,hS,q⟩:=hR B H1 x u Q I1.hok rx q0;have hT:=Y.type;refine⟨"dict",_,PySem.F.plainAttrs_dict,PySem.F.slot_dict_keys,PySem.F.type_dict_keys,hT,?_,Calls.callWith_builtin rfl (PySem.evalArgs_none ?_)⟩
 ·intro b eb;cases eb;obtain⟨ob,ho,hx,_⟩:=Y;exact⟨ob,ho,hx.2.1⟩
 refine wpAny_call_entry PySem.F.slot_dict_keys hT PySem.F.entry_dict_keys ?_ (PySem.F.args_dict_keys_1 _);refine Ip ?_;unfold Builtin.Dict.noArgs;refine Ip (wpAny_notOrdered_dict hT ?_);show wpAny _ _ (pure a) _ _ B;refine IB ?_;show wpAny _ _ (Builtin.Dict.showsAll a >>= _) _ _ B;unfold Builtin.Dict.showsAll;rw[if_neg (by rw[hd];exact IL)];refine Ip (IB ?_);refine Ip (wpAny_newObj_type (IB ⟨_,rfl,?_⟩));refine Calls.spliced_nil ?_;refine vE L ?_;have I2:Inv X pins σ H1 {B with heap:=B.heap.push {cls:=.type "dict_keys",data:=.fields #[.ref a]} }:=I1.kept (t':=B.toks) fun b o e=>Ir _ e
 have a1:lU (B.heap.push {cls:=.type "dict_keys",data:=.fields #[.ref a]}) a es ep:=Y.keep fun o e=>Ir _ e
 have vw:KdlKeysView (B.heap.push {cls:=.type "dict_keys",data:=.fields #[.ref a]}) B.heap.objs.size a:=⟨_,IH _ rfl,rfl,rfl⟩
 have a2:∀b o,B.heap.get? b=some o->(B.heap.push {cls:=.type "dict_keys",data:=.fields #[.ref a]}).get? b=some o:=fun b o e=>Ir _ e
 generalize eg:B.heap.push {cls:=.type "dict_keys",data:=.fields #[.ref a]}=g at *
 have hh:X.A.handled=none:=I1.ok.hd hc;refine kdu_collect (s:={B with heap:=g}) vM (show X.A.in1.handled=none from hh) ⟨vw,a1⟩ sz fun h' tk G kp it=>?_;dsimp only at kp ⊢;have ea:G.toList=es.toList.map (·.key):=by
  refine Kx fun i=>?_;by_cases hi:i<es.size
  ·obtain⟨e,he,hx⟩:=it.2 i (G[i]'(by rw[it.1];exact hi)) (by simp[it.1,hi]);rw[IM];have h1:es.toList[i]? = some e:=by simpa using he
   have h2:G.toList[i]? = some (G[i]'(by rw[it.1];exact hi)):=by simp[it.1,hi]
   rw[h1,h2,hx];rfl
  ·rw[Ke (by rw[IN,it.1];lia),Ke (by rw[Iq,IN];lia)]
 rw[ea];refine⟨by rw[Iq,IN];exact sz,kf,κ,fun h2 a3=>hS h2 (fun b o e=>a3 b o (kp b o (a2 b o e))) tk,fun out hp hw=>?_⟩;obtain⟨us,hv,q⟩:=q out hp hw;have I3:Inv X pins σ H1 {B with heap:=h',toks:=tk}:=I2.kept (t':=tk) kp;obtain⟨n2,a4⟩:=kJ (h:=h') (vs:=es.toList.map (·.key)) (out:=out.toArray);have nS:H1 h'.objs.size=none:=I3.hok.fresh (Iw _);refine⟨.ref h'.objs.size,_,I3.laid (t':=tk) (fun b o e=>jt e) (Iw _) (show bv X.prog X.w _ _ _ (.lst us) from⟨?_,out,n2,hv,a4⟩),rfl,q _ nS⟩;rw[hv.length,hp.length_eq,Iq,IN];exact sz
def FA:V->HV9:=fun x H Q=>∃(a:Addr) (kvs:LK9) (ss:List Str),x=.ref a/\H a=some (.dK kvs)/\kvs.map (·.1)=ss.map Sum.inr/\∀(S:Addr) (ss':List Str),H S=none->ss'.Perm ss->ss'.Pairwise (fun x y=>¬ y.cps.toList<x.cps.toList)->Q (.ref S) (upd H S (.lst (ss'.map V.str)))
theorem yf:∀{out:LV9},(∀v∈out,∃x t,v=Value.str x t)->aV ((out.map yh).map V.str) out
 | [],_=>.nil
 |v::out,h=>by
  obtain⟨x,t,rfl⟩:=h v IF;exact .cons ⟨t,rfl⟩ (yf fun w B=>h w (IA _ B))
theorem zW (hc:X.calm=true)(hg:Gl X "sorted")(hm:X.mg "sorted" = none)(ho:PE X o td)
  (B:attributeBase o "keys" X.env (eval o X.env)=eval o X.env:=by rfl) (G:(apos.endLine==pos2.line)=true:=by rfl)
  (a1:starEach [Expr.Call (.Attribute o "keys" apos) [] [] pos2] X.env=[(false,eval (Expr.Call (.Attribute o "keys" apos) [] [] pos2) X.env)]:=by rfl) :
  PE X (.Call (.Name "sorted" p) [.Call (.Attribute o "keys" apos) [] [] pos2] [] pos) (Ba FA td):=by
 refine sy uv hc hg hm ho (fun s H x v Q ok rx h=>?_) B G a1;obtain⟨a,kvs,ss,rfl,ha,ek,q⟩:=h;cases rx;obtain⟨z,hd,vs,O,ob,es,ep,g1,g2,g3,hk,hp,hn⟩:=CI ok ha;have lv:kvs.length=vs.length:=KV.length O;have le:es.toList.length=vs.length:=hp.length;have al:∀(i:Nat) (v:Value),(es.toList.map (·.key))[i]? = some v->∃x t,ss[i]? = some x/\v=.str x t:=fun i v J=>by
  rw[IM]at J;obtain⟨e,he,rfl⟩:=IX.mp J;have hi:i<vs.length:=by have:=(Ix.mp he).1;lia
  obtain⟨Y,_⟩:=hp.get? he (IE hi);obtain⟨y,hy⟩:=Cp O (i:=i) (k:=(vs[i]).1) (x:=(vs[i]).2) (IE hi);have e1:(kvs.map (·.1))[i]? = some (vs[i]).1:=by rw[IM,hy];rfl
  rw[ek,IM]at e1;obtain⟨x,hx,ex⟩:=IX.mp e1;rcases bA (k:=(vs[i]).1) Y with⟨j,t,f1,f2⟩ | ⟨y',t,f1,f2⟩
  ·rw[<-ex]at f1;cases f1
  ·rw[<-ex]at f1;cases f1;exact⟨x,t,hx,f2⟩
 have l3:ss.length=vs.length:=by
  have:=I_ List.length ek
  rw[Iq,Iq]at this
  lia
 have J:aV (ss.map V.str) (es.toList.map (·.key)):=yd _ _ (by rw[Iq,Iq];lia) fun i x u hx hu=>by
  obtain⟨y,t,h1,h2⟩:=al i u hu;rw[IM,h1]at hx;rw[<-Option.some.inj hx,h2];exact⟨t,rfl⟩
 refine⟨a,es,ep,_,oneType',rfl,hd,⟨ob,g1,g2,g3⟩,by rw[IN]at le;lia,fun h' kp tk=>Bi J,fun out a0 hw=>?_⟩;have ao:∀v∈out,∃x t,v=Value.str x t:=fun v J=>by
  obtain⟨i,hi⟩:=Je (a0.mem_iff.mp J);obtain⟨x,t,_,e⟩:=al i v hi;exact⟨x,t,e⟩
 refine⟨_,yf ao,fun S hS=>q S _ hS ?_ ?_⟩
 ·have e1:(es.toList.map (·.key)).map yh=ss:=by
   refine Kx fun i=>?_;rw[IM];cases e:(es.toList.map (·.key))[i]? with
   |none=>
    have:=Kd.mp e
    rw[Iq]at this;rw[Ke (by lia)];rfl
   |some v=>
    obtain⟨x,t,h1,rfl⟩:=al i v e;rw[h1];rfl
  rw[<-e1];exact a0.map yh
 ·rw[Jc];exact hw.imp fun h=>Ls h
def piH (H:Hp):Value->Int×Int
 | .ref a=>match H a with
  |some (.tup [.int x,.int y])=>(x,y)
  |_=>(0,0)
 |_=>(0,0)
theorem Hd (ok:HOk X.prog X.w H h)(e:H b=some (.tup [.int i,.int j])):kF h (i,j) (.ref b):=by
 obtain⟨_,J,B,G⟩:=(show bv X.prog X.w H h b (.tup _) from ok _ _ e);obtain⟨O,Y,rfl,⟨ta,rfl⟩,⟨tb,rfl⟩⟩:=jB B;exact⟨b,ta,tb,rfl,G⟩
def Fz:V->HV9:=fun x H Q=>∃(a:Addr) (kvs:List (List Key×V)),x=.ref a/\Rd H a (.dT kvs)/\(∀kv∈kvs,∃i j,kv.1=[Sum.inl i,Sum.inl j])/\∀(S:Addr) (us:List V) (ks:List (List Key)),H S=none->ks.Perm (kvs.map (·.1))->Paired (fun u k=>∃b,u=V.ref b/\H b=some (.tup (k.map kV))) us ks->Q (.ref S) (upd H S (.lst us))
theorem zV (hc:X.calm=true)(hg:Gl X "sorted")(hm:X.mg "sorted" = none)(ho:PE X o td)
  (G:attributeBase o "keys" X.env (eval o X.env)=eval o X.env:=by rfl) (J:(apos.endLine==pos2.line)=true:=by rfl)
  (a1:starEach [Expr.Call (.Attribute o "keys" apos) [] [] pos2] X.env=[(false,eval (Expr.Call (.Attribute o "keys" apos) [] [] pos2) X.env)]:=by rfl) :
  PE X (.Call (.Name "sorted" p) [.Call (.Attribute o "keys" apos) [] [] pos2] [] pos) (Ba Fz td):=by
 refine sy mL hc hg hm ho (fun s H x v Q ok rx h=>?_) G J a1;obtain⟨a,kvs,rfl,ha,hk,q⟩:=h;cases rx;obtain⟨z,hd,xs,O,ob,es,ep,g1,g2,g3,g4,_,_⟩:=mV ok ha;have l1:=Paired.length O;have ek:es.toList.map (·.key)=xs.map fun e=>Value.ref e.2.1:=by
  rw[g4,Jp];rfl
 have le:es.size=xs.length:=by
  have:=I_ List.length ek
  rwa [Iq,Iq,IN]at this
 have at_:∀e∈xs,∃i j,e.1=[Sum.inl i,Sum.inl j]/\H e.2.1=some (.tup [.int i,.int j]):=fun e B=>by
  obtain⟨n,hn⟩:=Je B;obtain⟨v,hv,Y,_⟩:=Cr O hn;obtain⟨i,j,e1⟩:=hk _ (ID hv);have e1':e.1=[Sum.inl i,Sum.inl j]:=e1;rw[e1']at Y;exact⟨i,j,e1',Y⟩
 have kd:∀e∈xs,kF s.heap (piH H (.ref e.2.1)) (.ref e.2.1):=fun e B=>by
  obtain⟨i,j,_,Y⟩:=at_ e B
  have:piH H (.ref e.2.1)=(i,j):=by unfold piH;simp only[Y]
  rw[this];exact Hd ok Y
 refine⟨a,es,ep,piH H,tuples' true,rfl,hd,⟨ob,g1,g2,g3⟩,by lia,fun h' kp tk=>?_,fun out a0 hw=>?_⟩<;>rw[ek]at *
 ·have kd':∀e∈xs,kF h' (piH H (.ref e.2.1)) (.ref e.2.1):=fun e B=>yY (kd e B) fun b o _ e=>kp b o e;refine⟨fun h2 Q' q'=>?_,fun x y C hx hy q'=>?_⟩
  ·refine y6 (s:={s with heap:=h',toks:=tk}) (ks:=xs.map fun e=>piH H (.ref e.2.1)) ?_ (by lia) q'
   have:∀l:List (List Key×Addr×Value),(∀e∈l,e∈xs)->Paired (fun k u=>kF h' k u) (l.map fun e=>piH H (.ref e.2.1)) (l.map fun e=>Value.ref e.2.1):=fun l=>by
    induction l with
    |nil=>exact fun _=>.nil
    |cons e l ih=>exact fun hl=>.cons (kd' e (hl e IF)) (ih fun f hf=>hl f (IA _ hf))
   exact this xs fun _ h=>h
  ·obtain⟨e,B,rfl⟩:=Iv.mp hx;obtain⟨f,hf,rfl⟩:=Iv.mp hy;exact yZ (s:={s with heap:=h',toks:=tk}) (kd' e B) (kd' f hf) q'
 ·obtain⟨ys,pm,rfl⟩:=nH a0 rfl;refine⟨ys.map fun e=>V.ref e.2.1,?_,fun S hS=>q S _ (ys.map (·.1)) hS ?_ ?_⟩
  ·clear a0 hw pm
   induction ys with
   |nil=>exact .nil
   |cons e ys ih=>exact .cons rfl ih
  ·have e1:kvs.map (·.1)=xs.map (·.1):=by
    have:∀{kvs:List (List Key×V)} {xs:List (List Key×Addr×Value)},KT H kvs xs->kvs.map (·.1)=xs.map (·.1):=fun {kvs xs} h=>by
     have h':Paired _ kvs xs:=h
     induction h' with
     |nil=>rfl
     |cons a b ih=>rw[IR,IR,a.1,ih b]
    exact this O
   rw[e1];exact pm.map (·.1)
  ·have:∀l:List (List Key×Addr×Value),(∀e∈l,e∈xs)->Paired (fun u k=>∃b,u=V.ref b/\H b=some (.tup (List.map kV k))) (l.map fun e=>V.ref e.2.1) (l.map (·.1)):=fun l=>by
    induction l with
    |nil=>exact fun _=>.nil
    |cons e l ih=>
     refine fun hl=>.cons ⟨_,rfl,?_⟩ (ih fun f hf=>hl f (IA _ hf));obtain⟨i,j,e1,Y⟩:=at_ e (hl e IF)
     show H e.2.1=some (.tup (e.1.map kV));rw[e1];exact Y
   exact this ys fun e B=>pm.mem_iff.mp B
end
section
theorem DB (F:bB X.prog X.w X.K X.mg X.base CX k f fd ps sp)(J:cV k X.A.in1)(O:eU X.K fd ps [])(q:bS CX)
  (I:Inv X pins σ H s) (r:aV vs us) (h:sp vs H Q E0):wpAny (model X.prog X.w) X.A.in1 (call (.ref f) us) (EP X pins σ Q) (fun _ _=>False) s:=by
 have Y:us.length=ps.length:=by rw[<-r.length];exact F.len _ _ _ _ h
 have B:=I.env0;have hb':=O s us I.kIn (by rw[Jt];exact Y);rw[Jt]at hb';refine wpAny_call (codeAny_mono (F.run X.A.in1 X.stack s H ⟨us,[]⟩ us vs Q E0 J ⟨B.frames,B.mod,B.bs,B.bsz,B.funs,B.frf,B.hok,B.bare⟩ hb' r h) fun r s' G=>?_);cases r with
 |error e=>exact (q _ _ _ _ _ G).elim
 |ok fl=>
  cases fl with
  |ret u=>exact I.after G
  |next=>exact False.elim G
  |brk=>exact False.elim G
  |cont=>exact False.elim G
theorem Inv.drop2 (I:Inv X (pins++[p,q]) σ H s):Inv X pins σ H s:=I.unpinned
theorem Cj:(if p.1=q.1 then (if p.2=q.2 then false else decide (p.2<q.2)) else decide (p.1<q.1))=ltI p q:=by
 unfold ltI mM;by_cases c1:p.1=q.1
 ·rw[if_pos c1,if_pos c1];by_cases c2:p.2=q.2
  ·rw[if_pos c2,c2];simp
  ·rw[if_neg c2]
 ·rw[if_neg c1,if_neg c1]
theorem Al {pins:Pn9}{σ:St}{H1:Hp}{l It S:Addr}{as:List Addr}{kf:Nat->Int×Int}{R:Result->Sh9->Prop}(hc:X.calm=true)(hu:X.A.in1.units<cLine)(hl:H1 l=some (.lst (as.map V.ref)))(c7:0<as.length)
  (b2:l≠It) (a6:S≠It) (fI:∀H',n_ X pins H' It↔H' It=none) (fS:∀H',n_ X pins H' S↔H' S=none)
  (turn:∀(i:Nat) (a:Addr) (G:Pn9) (H':Hp) (s':Sh9),Inv X G σ H' s'->ah H1 H'->as[i]? = some a->wpAny (model X.prog X.w) X.A.in1 (call (.ref f) [.ref a]) (EP X G σ fun x H2=>ah H' H2/\∃kb,x=.ref kb/\H2 kb=some (.tup [.int (kf i).1,.int (kf i).2])) (fun _ _=>False) s')
  (hR:∀i a H' s',as[i]? = some a->(∀j,j<as.length->ltI (kf j) (kf i)=false)->Inv X pins σ H' s'->ah H1 H'->R (.ok (.ret (.ref a))) s') :
  ∀(r n:Nat) (s':Sh9) (H':Hp) (xs:Array Value) (c:Nat) (oI:Obj),as.length-n=r->n<=as.length->Inv X (pins++[(S,seqObj "list" xs c),(It,oI)]) σ H' s'->ah H1 H'->s'.heap.IsListIter It l n ->
   ((xs = #[]/\n=0)\/∃i a kb,xs = #[.ref a,.ref kb]/\H' kb=some (.tup [.int (kf i).1,.int (kf i).2])/\as[i]? = some a/\∀j',j'<n->ltI (kf j') (kf i)=false)->codeAny (model X.prog X.w) X.A (.builtin "min.loop" ⟨[.ref It,.ref f,.ref S],[]⟩) R s':=by
 have a0:(toString "min" ++ toString ".loop" : String) = "min.loop" := by decide
 have a2:∀{G:Pn9} {H':Hp} {s':Sh9},Inv X G σ H' s'->ah H1 H'->s'.heap.IsList l (as.map Value.ref).toArray:=fun I sm=>by
  obtain⟨its,rv,pl,_⟩:=I.list (SqL.of (K:=X.K) (sm _ _ hl));rw[eV rv]at pl;exact pl.isList
 have hsz:(as.map Value.ref).toArray.size=as.length:=by simp
 intro r
 induction r with
 |zero=>
  intro n s' H' xs c oI hr hj I sm a7 hb;rcases hb with⟨_,hb⟩ | ⟨i,a,kb,rfl,b3,a8,J⟩
  ·lia
  obtain rfl:n=as.length:=by lia
  obtain⟨gS,nS,_⟩:=I.pin (S,seqObj "list" #[.ref a,.ref kb] c) (by simp)
  obtain⟨gI,nI,_⟩:=I.pin (It,oI) (by simp);have W:=Walks.list (prog:=X.prog) (w:=X.w) (A:=X.A.in1) (I.ok.hd hc) It l b2 (as.map Value.ref).toArray;refine codeAny_builtin PySem.F.entry_min_loop ?_;rw[Around.under_plainId PySem.F.plain_min_loop _];show wpAny _ X.A.in1 (seqItems? (.ref S) >>= _) _ _ _;refine Ip (wpAny_seqItems gS rfl ?_);show wpAny _ X.A.in1 (tryCatch (pyNext (.ref It)) _ >>= _) _ _ _;refine Ip (wpAny_tryCatch (W.done _ _ _ ⟨by rw[hsz];exact a7,a2 I sm⟩ fun h' a1 a3=>?_));show wpAny _ X.A.in1 (updateSeq S (fun _=> #[]) >>= _) _ _ _;refine Ip (wpAny_updateSeq (a3 S _ (by simpa using a6) gS) rfl (Ip (wpAny_letGo (IB ?_))));obtain⟨i0,i1,i2,i3,i4,i5⟩:=(fI H').mpr nI;obtain⟨s0,s1,s2,s3,s4,s5⟩:=(fS H').mpr nS;have I1:Inv X pins σ H' {s' with heap:=h',toks:=a1}:=I.drop2.turned (t':=a1) (fun b o hb e=>a3 b o (by simpa using hb) e) i0 i1 i3 i4 i5;exact hR i a H' _ a8 J (I1.turned (t':=a1) (h':=h'.update S (Obj.mapSeq fun _=>(#[]:Array Value))) (fun b o hb e=>(Jk _ _ (Ne.symm hb)).trans e) s0 s1 s3 s4 s5) sm
 |succ r ih=>
  intro n s' H' xs c oI hr hj I sm a7 hb;have a9:n<as.length:=by lia
  obtain⟨gS,nS,_⟩:=I.pin (S,seqObj "list" xs c) (by simp)
  obtain⟨gI,nI,_⟩:=I.pin (It,oI) (by simp);have W:=Walks.list (prog:=X.prog) (w:=X.w) (A:=X.A.in1) (I.ok.hd hc) It l b2 (as.map Value.ref).toArray;refine codeAny_builtin PySem.F.entry_min_loop ?_;rw[Around.under_plainId PySem.F.plain_min_loop _];show wpAny _ X.A.in1 (seqItems? (.ref S) >>= _) _ _ _;refine Ip (wpAny_seqItems gS rfl ?_);show wpAny _ X.A.in1 (tryCatch (pyNext (.ref It)) _ >>= _) _ _ _;refine Ip (wpAny_tryCatch (W.item n _ _ _ (by rw[hsz];exact a9) ⟨a7,a2 I sm⟩ fun v h' a1 hP b4 a3=>?_));obtain⟨b,b5,rfl⟩:∃b,as[n]? = some b/\.ref b=v:=by simpa using hP
  obtain⟨Y,b6,b7,b0⟩:=id b4.1;obtain⟨i0,i1,i2,i3,i4,i5⟩:=(fI H').mpr nI;obtain⟨s0,s1,s2,s3,s4,s5⟩:=(fS H').mpr nS;have a4:∀{xs:Array Value} {c:Nat} {H2:Hp} {B:Sh9},Inv X pins σ H2 B->B.heap.get? S=some (seqObj "list" xs c)->H2 S=none->B.heap.get? It=some Y->H2 It=none->Inv X (pins++[(S,seqObj "list" xs c),(It,Y)]) σ H2 B:=fun I gS nS gI nI=>I.pins_of fun p hp=>by
   rcases Iz.mp hp with hp|hp
   ·exact I.pin p (IW _ hp)
   ·rcases IP.mp hp with rfl|hp
    ·exact⟨gS,nS,s1,s2,fun v z=>by cases z⟩
    ·rw[Iu.mp hp];exact⟨gI,nI,i1,i2,fun v z=>by rw[b0]at z;cases z⟩
  have I1:Inv X pins σ H' {s' with heap:=h',toks:=a1}:=I.drop2.turned (t':=a1) (fun b o hb e=>a3 b o (by simpa using hb) e) i0 i1 i3 i4 i5;show wpAny _ X.A.in1 (tryCatch (holding [.ref b] (call (.ref f) [.ref b])) _ >>= _) _ _ _;refine Ip (wpAny_tryCatch (wpAny_holding (Jy (turn n b _ H' _ (a4 I1 (a3 S _ (by simpa using a6) gS) nS b6 nI) sm b5) (fun x B he=>?_) fun _ _ hF=>hF.elim)));obtain⟨x',H2,I3,rx,b8,O,rfl,a5⟩:=he;cases rx;have b9:=sm.trans b8;obtain⟨b1,c0,_⟩:=I3.pin (S,seqObj "list" xs c) (by simp)
  obtain⟨c1,c5,_⟩:=I3.pin (It,Y) (by simp);have new:(∀j',j'<n+1->ltI (kf j') (kf n)=false)->codeAny (model X.prog X.w) X.A (.builtin "min.loop" ⟨[.ref It,.ref f,.ref S],[]⟩) R {B with heap:=B.heap.update S (Obj.mapSeq fun _=> #[.ref b,.ref O])}:=fun hb=>by
   obtain⟨c2,c6⟩:∃c2,(B.heap.update S (Obj.mapSeq fun _=> #[.ref b,.ref O])).get? S=some (seqObj "list" #[.ref b,.ref O] c2):=⟨_,get?_update_seq b1 fun _=> #[.ref b,.ref O]⟩
   obtain⟨z0,z1,z2,z3,z4,z5⟩:=(fS H2).mpr c0;have c3:(B.heap.update S (Obj.mapSeq fun _=> #[.ref b,.ref O])).get? It=some Y:=(Jk _ _ a6).trans c1;exact ih (n+1) _ H2 _ c2 Y (by lia) a9 (a4 (I3.drop2.turned (t':=B.toks) (fun b o hb e=>(Jk _ _ (Ne.symm hb)).trans e) z0 z1 z3 z4 z5) c6 c0 c3 c5) b9 ⟨Y,c3,b7,b0⟩ (.inr ⟨n,b,O,rfl,a5,b5,hb⟩)
  rcases hb with⟨rfl,rfl⟩|⟨i,a,kb,rfl,b3,a8,J⟩
  ·show wpAny _ X.A.in1 (updateSeq S (fun _=> #[.ref b,.ref O]) >>= _) _ _ _;refine Ip (wpAny_updateSeq b1 rfl ?_);rw[a0];exact IB ⟨plainId_quiet PySem.F.plain_min_loop _,new fun j' c4=>by rw[show j'=0 by lia];exact mL.irr _⟩
  have hkb':=b8 _ _ b3;have tup:∀{kb:Addr} {p:Int×Int},H2 kb=some (.tup [.int p.1,.int p.2])->∃ta tb,IsTup B.heap kb #[.int p.1 ta,.int p.2 tb]:=fun h=>by
   obtain⟨_,us,r1,t1⟩:=(show bv X.prog X.w H2 B.heap _ (.tup _) from I3.hok _ _ h);obtain⟨u1,u2,rfl,⟨ta,rfl⟩,⟨tb,rfl⟩⟩:=jB r1;exact⟨ta,tb,t1⟩
  obtain⟨ta,tb,t1⟩:=tup a5;obtain⟨tc,td,t2⟩:=tup hkb';show wpAny _ X.A.in1 (tryCatch (holding [.ref b,.ref O] (richCompare .Lt (.ref O) (.ref kb) >>= _)) _ >>= _) _ _ _;refine Ip (wpAny_tryCatch (wpAny_holding (Ip (yS hu t1 t2 ?_))));rw[Cj];refine Ip (wpAny_holding (wpAny_truthy_bool ?_));refine Ip (wpAny_letGo (IB ?_));cases hb':ltI (kf n) (kf i) with
  |true=>
   simp only[if_true];refine Ip (wpAny_updateSeq b1 rfl (Ip (wpAny_letGo ?_)));rw[a0];refine IB ⟨plainId_quiet PySem.F.plain_min_loop _,new fun j' c4=>?_⟩;by_cases e:j'=n
   ·rw[e];exact mL.irr _
   ·cases h2:ltI (kf j') (kf n) with
    |false=>rfl
    |true=>
     have:=mL.tr _ _ _ h2 hb'
     rw[J j' (by lia)]at this;cases this
  |false=>
   simp only[IQ,if_false];refine Ip (wpAny_letGo ?_);rw[a0];refine IB ⟨plainId_quiet PySem.F.plain_min_loop _,ih (n+1) _ H2 _ c Y (by lia) a9 I3 b9 ⟨Y,c1,b7,b0⟩ (.inr ⟨i,a,kb,rfl,hkb',a8,fun j' c4=>?_⟩)⟩;by_cases e:j'=n
   ·rw[e];exact hb'
   ·exact J j' (by lia)
def GQ (te:TA):TE:=fun σ H Q=>te σ H fun vs H1=>∃(l:Addr) (as:List Addr) (ps:List (Int×Int)),vs=[.ref l]/\H1 l=some (.lst (as.map V.ref))/\Paired (fun a p=>H1 a=some (.tup [.int p.1,.int p.2])) as ps/\0<as.length /\
 ∀(i:Nat) (a:Addr) (p:Int×Int) (H':Hp),ah H1 H'->as[i]? = some a->ps[i]? = some p->(∀p'∈ps,ltI (p'.2,p'.1) (p.2,p.1)=false)->Q (.ref a) H'
inductive wS  (vs:List V)(H:Hp)(Q:VK):Prop
 |mk (a:Addr) (x y:Int) (h_0:vs=[.ref a]) (h_1:H a=some (.tup [.int x,.int y])) (h_2:∀p H',ah H H'->H' p=some (.tup [.int y,.int x])->Q (.ref p) H'):wS  vs H Q
def o0:Sp:=fun vs H Q _=>wS  vs H Q
theorem DX {j:Nat}{x:Str}{xs:List Str}{e:Expr}{te:TA}{p kp np pos:Pos}(F:Fok X.prog X.w X.K X.mg X.base CX j x xs [] o0)(q:bS CX)(hr:cV (k+2) X.A)(he:PA X [e] te)(hj:j<=k+1:=by decide)(hM:X.mg "min" = none)(hc:X.calm=true:=by rfl)(hg:Gl X "min" := by rfl)(a6:Gl X x:=by rfl)
  (a7:(x==("__debug__" : Str))=false:=by decide) (a8:backTo pos (starEach [e] X.env)=(false,eval e X.env)::backTo pos (starEach [] X.env):=by rfl) (a9:(backTo pos (starEach [e] X.env)).any (·.1)=false:=by rfl) :
  PE X (.Call (.Name "min" p) [e] [⟨some "key",.Name x np,kp⟩] pos) (GQ te):=by
 intro pins s σ H Q I h;obtain⟨f,fd,ds,G,b,hv,b7,mf⟩:=F.ex;cases hv;refine wpAny_Call_Name_kw (jh I hg hM rf ?_);refine callWith_kw (thn (he pos pins s σ H _ I h) fun us O ⟨vs,H1,I1,r,l,as,ps,e1,hl,hP,b0,q2⟩=>?_) a8 a9;subst e1;obtain⟨u,rfl,ru⟩:=iD r;cases ru;refine kws_cons (uA I1 a6 mf (kws_nil ?_) a7);show wpAny _ _ (call (.builtin "min") [.ref l] [(Str.ofString "key",.ref f)]) _ _ _
 have a1:(toString "min" ++ toString ".loop" : String) = "min.loop" := by decide
 have lp:=Paired.length hP;obtain⟨its,rv,pl,_⟩:=I1.list (SqL.of (K:=X.K) hl);obtain rfl:=eV rv;have a2:=pl.isList;obtain⟨ol,b1,_⟩:=id a2;have b2:l<O.heap.objs.size:=IK b1;obtain⟨kf,b3⟩:∃kf:Nat->Int×Int,kf=fun i=>(((ps[i]?).getD (0,0)).2,((ps[i]?).getD (0,0)).1):=⟨_,rfl⟩;have a0:∀{i:Nat} {p:Int×Int},ps[i]? = some p->kf i=(p.2,p.1):=fun {i p} e=>by rw[b3];show (((ps[i]?).getD (0,0)).2,((ps[i]?).getD (0,0)).1)=_;rw[e];rfl
 have turn:∀(i:Nat) (a:Addr) (J:Pn9) (H':Hp) (s':Sh9),Inv X J σ H' s'->ah H1 H'->as[i]? = some a->wpAny (model X.prog X.w) X.A.in1 (call (.ref f) [.ref a]) (EP X J σ fun x H2=>ah H' H2/\∃kb,x=.ref kb/\H2 kb=some (.tup [.int (kf i).1,.int (kf i).2])) (fun _ _=>False) s':=fun i a J H' s' I' sm ha=>by
  obtain⟨p,Y,e⟩:=aM hP ha;rw[a0 Y];exact DB G (hr.in1.mono hj) b q I' (.cons (show aZ (.ref a) (.ref a) from rfl) .nil) ⟨a,p.1,p.2,rfl,sm _ _ e,fun kb H2 s2 h2=>⟨s2,kb,rfl,h2⟩⟩
 refine kmk_tree PySem.F.kind_min PySem.F.plain_min PySem.F.entry_min (kmk_min_key _ _) ?_;show wpAny _ X.A.in1 (Builtin.Builtins.bindParams "min" ["key","default"] 0 ⟨[],[(Str.ofString "key",.ref f)]⟩ >>= _) _ _ O
 refine Ip (wpAny_of_eq (show Builtin.Builtins.bindParams "min" ["key","default"] 0 ⟨[],[(Str.ofString "key",.ref f)]⟩=pure [some (.ref f),none] from rfl) ?_)
 refine Ip (IB ?_);refine Ip (wpAny_pyIter_list a2 ?_);refine Ip (wpAny_newList ?_ (IG _));rw[a1];obtain⟨It,B⟩:∃It,It=O.heap.objs.size:=⟨_,rfl⟩;obtain⟨S,eS⟩:∃S,S=(O.heap.push {cls:=.type "list_iterator",data:=.fields #[.ref l,.int 0 0]}).objs.size:=⟨_,rfl⟩
 have hS:S=It+1:=by rw[eS,B];exact size_push' ..
 have b4:l≠It:=by rw[B];exact I0 b2
 have b5:S≠It:=by rw[hS];exact Kk (Ki _)
 have I2:Inv X pins σ H1 {O with heap:=(O.heap.push {cls:=.type "list_iterator",data:=.fields #[.ref l,.int 0 0]}).push (seqObj "list" #[] 0)}:=I1.kept (t':=O.toks) fun b o e=>Ir _ (Ir _ e)
 have a3:H1 It=none:=I1.hok.fresh (Le B.symm);have nS:H1 S=none:=I1.hok.fresh (by rw[hS,B];exact KI _);obtain⟨_,i1,i2,i3,i4,i5⟩:=I1.fpOk (Le B.symm) a3;obtain⟨_,a4,s2,s3,s4,s5⟩:=I1.fpOk (by rw[hS,B];exact KI _) nS;have fI:∀H',n_ X pins H' It↔H' It=none:=fun H'=>⟨fun h=>h.1,fun h=>⟨h,i1,i2,i3,i4,i5⟩⟩;have fS:∀H',n_ X pins H' S↔H' S=none:=fun H'=>⟨fun h=>h.1,fun h=>⟨h,a4,s2,s3,s4,s5⟩⟩;have gI:((O.heap.push {cls:=.type "list_iterator",data:=.fields #[.ref l,.int 0 0]}).push (seqObj "list" #[] 0)).get? It=some {cls:=.type "list_iterator",data:=.fields #[.ref l,.int 0 0]}:=by rw[B];exact Ir _ (IH _ rfl)
 have gS:((O.heap.push {cls:=.type "list_iterator",data:=.fields #[.ref l,.int 0 0]}).push (seqObj "list" #[] 0)).get? S=some (seqObj "list" #[] 0):=by rw[eS];exact IH _ rfl
 show wpAny _ X.A.in1 (pure (PySem.Fin.again (Code.builtin "min.loop" ⟨[.ref O.heap.objs.size,.ref f,.ref (O.heap.push {cls:=.type "list_iterator",data:=.fields #[.ref l,.int 0 0]}).objs.size],[]⟩))) _ _ _
 rw[<-eS,<-B];have fin:∀i a H' s',as[i]? = some a->(∀j,j<as.length->ltI (kf j) (kf i)=false)->Inv X pins σ H' s'->ah H1 H'->EP X pins σ Q (.ref a) s':=fun i a H' s' ha hb I' sm=>by
  obtain⟨p,Y,_⟩:=aM hP ha;refine⟨.ref a,H',I',rfl,q2 i a p H' sm ha Y fun p' b6=>?_⟩;obtain⟨j',a5⟩:=Je b6
  have:=hb j' (by have:=(Ix.mp a5).1;lia)
  rw[a0 a5,a0 Y]at this;exact this
 clear B eS
 generalize (O.heap.push {cls:=.type "list_iterator",data:=.fields #[.ref l,.int 0 0]}).push (seqObj "list" #[] 0)=h0 at *
 refine IB ⟨plainId_quiet PySem.F.plain_min_loop _,?_⟩;refine Al hc hr.in1.units0 hl b0 b4 b5 fI fS turn fin _ 0 _ H1 #[] 0 {cls:=.type "list_iterator",data:=.fields #[.ref l,.int 0 0]} rfl (IG _) (I2.pins_of fun p Y=>?_) (ah.refl _) ⟨_,gI,rfl,rfl⟩ (.inl ⟨rfl,rfl⟩)
 rcases Iz.mp Y with Y|Y
 ·exact I2.pin p (IW _ Y)
 ·rcases IP.mp Y with rfl|Y
  ·exact⟨gS,nS,a4,s2,fun v z=>by cases z⟩
  ·rw[Iu.mp Y];exact⟨gI,a3,i1,i2,fun v z=>by cases z⟩
def Hy (H:Hp)(e:Addr×(Int×Int)):Prop:=∃(kb vb:Addr),H e.1=some (.tup [.ref kb,.ref vb])/\H kb=some (.tup [.int e.2.1,.int e.2.2])
def fdH (H:Hp):Value->Int×Int
 | .ref a=>match H a with
  |some (.tup [.ref k,_])=>piH H (.ref k)
  |_=>(0,0)
 |_=>(0,0)
theorem ze (h:Hy H e):fdH H (.ref e.1)=e.2:=by
 obtain⟨B,G,h1,h2⟩:=h;unfold fdH piH;simp only[h1,h2]
theorem x8 (hc:X.calm=true)(hr:cV (j+3) X.A):fO X (.builtin "sorted") (fun xs H Q=>∃(a:Addr) (es:List (Addr×(Int×Int))),xs=[.ref a]/\H a=some (.lst (es.map fun e=>V.ref e.1))/\(∀e∈es,Hy H e)/\(∀e∈es,∀f∈es,e.2=f.2->e=f) /\
  ∀(S:Addr) (es':List (Addr×(Int×Int))),H S=none->es'.Perm es->es'.Pairwise (fun e f=>ltI f.2 e.2=false)->Q (.ref S) (upd H S (.lst (es'.map fun e=>V.ref e.1)))):=by
 intro pins s σ H xs us Q I r h;obtain⟨a,es,rfl,ha,hF,a3,q⟩:=h;obtain⟨u,rfl,ru⟩:=iD r;cases ru;obtain⟨its,rv,pl,sz⟩:=I.list (SqL.of (K:=X.K) ha);have sz':its.length<=sizeLine:=by rw[<-rv.length];exact sz
 have ei:its=es.map fun e=>Value.ref e.1:=by
  have h1:(es.map fun e=>V.ref e.1)=(es.map (·.1)).map V.ref:=by rw[Jp];rfl
  rw[h1]at rv;rw[eV rv,Jp];rfl
 subst ei;refine pW (kf:=fdH H) mL (collect_list pl.isList ?_ sz');have a4:∀b o,s.heap.get? b=some o->((s.heap.push (seqObj "list" #[] 0)).update s.heap.objs.size (Obj.mapSeq (· ++ (es.map fun e=>Value.ref e.1).toArray))).get? b=some o:=fun b o e=>
  (Jk _ _ (Ne.symm (I0 (IK e)))).trans (Ir _ e)
 have hu:X.A.in1.in1.units<cLine:=hr.in1.in1.units0;refine⟨sz',tuples' false,fun h' kp=>?_,fun out hp hw=>?_⟩
 ·have kp':∀b o,s.heap.get? b=some o->h'.get? b=some o:=fun b o e=>kp b o (a4 b o e);have tp:∀e∈es,∃B vb,IsTup h' e.1 #[.ref B,.ref vb]/\∃ta tb,IsTup h' B #[.int e.2.1 ta,.int e.2.2 tb]:=fun e Y=>by
   obtain⟨B,vb,h1,h2⟩:=hF e Y;obtain⟨_,us,r1,t1⟩:=(show bv X.prog X.w H s.heap _ (.tup _) from I.hok _ _ h1);obtain⟨_,vs,r2,t2⟩:=(show bv X.prog X.w H s.heap _ (.tup _) from I.hok _ _ h2);obtain⟨u1,u2,rfl,e1,e2⟩:=jB r1;obtain⟨w1,w2,rfl,⟨ta,rfl⟩,⟨tb,rfl⟩⟩:=jB r2;cases e1;cases e2;exact⟨B,vb,t1.keeps kp',ta,tb,t2.keeps kp'⟩
  refine⟨fun h2 Q' q'=>?_,fun x y C hx hy q'=>?_⟩
  ·have kt:∀l:List (Addr×(Int×Int)),(∀e∈l,e∈es)->∃fs:LV9,KatTups h' (l.map fun e=>Value.ref e.1) fs/\fs.length=l.length/\∀v∈fs,∃B its,v=.ref B/\IsTup h' B its:=fun l=>by
    induction l with
    |nil=>exact fun _=>⟨[],KatTups.nil,rfl,fun v hv=>nomatch hv⟩
    |cons e l ih=>
     intro hl;obtain⟨fs,f1,f2,f3⟩:=ih fun f hf=>hl f (IA _ hf);obtain⟨B,vb,⟨o,O,J,n,hd⟩,ta,tb,t2⟩:=tp e (hl e IF);refine⟨.ref B::fs,KatTups.cons O J hd (by simp) f1,by simp[f2],fun v hv=>?_⟩;rcases IP.mp hv with rfl | hv
     ·exact⟨B,_,rfl,t2⟩
     ·exact f3 v hv
   obtain⟨fs,f1,f2,f3⟩:=kt es fun _ h=>h;rw[Iq]at h2;refine kat_kind (T:=.type "tuple") f1 (by lia) (fun v hv=>?_) (by decide) q'
   obtain⟨B,its,rfl,o,O,J,_⟩:=f3 v hv;exact fun A Q E s2 k q=>wpAny_typeOf ⟨o,k _ _ O,J⟩ q
  ·obtain⟨e,Y,rfl⟩:=Iv.mp hx;obtain⟨f,hf,rfl⟩:=Iv.mp hy;rw[ze (hF e Y),ze (hF f hf)]at q';obtain⟨B,vb,⟨o,O,J,n,hd⟩,ta,tb,t2⟩:=tp e Y;obtain⟨a5,a7,⟨o',a0,a6,n',G⟩,tc,td,a1⟩:=tp f hf;by_cases c:e.2=f.2
   ·have:=a3 e Y f hf c
    subst this;rw[O]at a0;cases a0;rw[hd]at G;injection G with G
    have:=I_ Lz G
    injection this with z1 z2;injection z2 with z2 _;cases z1;cases z2;refine kat_lt (s:={s with heap:=h' }) O hd O hd (kat_cons (SeqAt.EqAt.same _ _ _ _ _ (kat_yes (kat_cons (SeqAt.EqAt.same _ _ _ _ _ (kat_yes (kat_nil ?_)))))));rw[mL.irr]at q';simpa using q'
   ·refine kat_lt (s:={s with heap:=h' }) O hd a0 G (kat_cons ?_);have ne:B≠a5:=fun z=>by
     subst z
     have:=I_ Lz (yi t2 a1)
     injection this with z1 z2;injection z2 with z2 _;injection z1 with z1 _;injection z2 with z2 _;exact c (Prod.ext z1 z2)
    have ee:=uL (A:=X.A.in1.in1) (s:={s with heap:=h' }) hu t2 a1 (eq_int _ _ _ _ _ _) (eq_int _ _ _ _ _ _) fun z=>absurd z ne;refine ee _ _ _ _ (kat_go (fun z=>?_) fun _=>kat_no (kat_one _ _ ?_))
    ·rw[JC,Jd,Jd]at z;exact absurd (Prod.ext z.1 z.2) c
    ·refine yS (s:={s with heap:=h' }) hu t2 a1 ?_;rw[Cj];exact q'
 ·obtain⟨ys,pm,rfl⟩:=nH hp rfl;have a2:aV (ys.map fun e=>V.ref e.1) (ys.map fun e=>Value.ref e.1):=by
   clear hp hw pm
   induction ys with
   |nil=>exact .nil
   |cons e ys ih=>exact .cons rfl ih
  obtain⟨S,h1,h2,h3⟩:=I.sortd (a:=a) (its:=es.map fun e=>Value.ref e.1) (by rw[a2.length,hp.length_eq];exact sz') a2;subst h3;refine⟨.ref _,_,h2,rfl,q _ ys h1 pm ?_⟩;rw[Jc]at hw;refine hw.imp_of_mem fun {e f} Y hf h=>?_;rw[ze (hF e (pm.mem_iff.mp Y)),ze (hF f (pm.mem_iff.mp hf))]at h;exact h
theorem Ak (G:X.A.units+1<cLine):MtR X "list.index" (fun x vs H Q=>∃(l b:Addr) (as:List Addr) (ps:List (Int×Int)) (p:Int×Int) (j:Nat),x=.ref l/\vs=[.ref b]/\H l=some (.lst (as.map V.ref))/\H b=some (.tup [.int p.1,.int p.2])/\Paired (fun a p=>H a=some (.tup [.int p.1,.int p.2])) as ps/\ps[j]? = some p/\(∀i<j,ps[i]? ≠ some p)/\Q (.int j) H):=by
 intro pins s σ H x vs v us Q I rx rv h;obtain⟨l,b,as,ps,p,j,rfl,rfl,hH,hb,J,hj,O,q⟩:=h;cases rx;obtain⟨u,rfl,ru⟩:=rv.one;cases ru;obtain⟨z,its,n,r,hl,e⟩:=I.lstM hH;obtain rfl:=eV r;have lp:=Paired.length J;have lj:j<ps.length:=(Ix.mp hj).1;have kf:∀(m:Nat) (B:m<ps.length),piH H (.ref (as[m]'(by lia)))=ps[m]:=fun m B=>by
  obtain⟨y,Y,e⟩:=aM J (IE (show m<as.length by lia));rw[IE B]at Y;cases Y;unfold piH;simp only[e]
 refine call_meets F.slot_list_index ⟨_,e,rfl⟩ F.entry_list_index (F.args_list_index_2 _ _) (SeqAt.list_indexAt l (as.map Value.ref).toArray n none #[] (.ref b) (fun v=>decide (piH H v=p)) j (by simp;lia) ?_ ?_ ?_) ⟨e,fun v hv=>?_,?_⟩
 ·have:sizeLine<2^62:=by decide
  rw[Iq]at z;have a0:((2:Int)^63)=9223372036854775808:=by decide
  have a2:(2:Nat)^62=4611686018427387904:=by decide
  rw[a0];lia
 ·have h1:=kf j lj;have h2:ps[j]=p:=(Ix.mp hj).2;simp only[List.getElem_toArray,List.getElem_map];exact IC (h1.trans h2)
 ·intro m B a1;have hm':m<ps.length:=by lia
  simp only[List.getElem_toArray,List.getElem_map];refine Jh fun c=>O m a1 ?_;rw[IE hm',<-kf m hm',c]
 ·have hv':v∈as.map Value.ref:=by simpa using hv
  obtain⟨a,ha,rfl⟩:=Iv.mp hv';obtain⟨m,B⟩:=Je ha;obtain⟨y,Y,ea⟩:=aM J B;have e1:piH H (.ref a)=y:=by unfold piH;simp only[ea]
  have k1:=ji (ks:=inn y) I.hok ea;have k2:=ji (ks:=inn p) I.hok hb
  have:=CC (A:=X.A.in1) (s:=s) G k1 k2
  rw[show decide (piH H (Value.ref a)=p)=decide (y=p) by rw[e1]];exact this
 ·exact⟨.int _,H,I.tok _,⟨_,rfl⟩,q⟩
end
section
theorem AG (Y:X.calm=true):fO X (.builtin "min") (fun xs H Q=>∃i j k l:Int,xs=[.int i,.int j,.int k,.int l]/\∀m:Int,Q (.int m) H):=by
 intro pins s σ H xs us Q I r h;obtain⟨i,j,k,l,rfl,q⟩:=h;obtain⟨u1,u2,u3,u4,rfl,⟨a,rfl⟩,⟨b,rfl⟩,⟨c,rfl⟩,⟨d,rfl⟩⟩:∃u v w z,us=[u,v,w,z]/\aZ (.int i) u/\aZ (.int j) v/\aZ (.int k) w/\aZ (.int l) z:=by
  cases r with
  |cons r1 r2=>
   obtain⟨v,w,z,rfl,h1,h2,h3⟩:=GJ r2;exact⟨_,v,w,z,rfl,r1,h1,h2,h3⟩
 have B:(toString "min" ++ toString ".loop" : String) = "min.loop" := by decide
 refine call_function_tree F.kind_min F.plain_min F.entry_min (show argsOk "min" ⟨[_,_,_,_],[]⟩ by unfold argsOk;kernel_rfl) ?_
 show wpAny _ X.A.in1 (Builtin.Builtins.bindParams "min" ["key","default"] 0 ⟨[],[]⟩ >>= _) _ _ s
 refine Ip (wpAny_of_eq (show Builtin.Builtins.bindParams "min" ["key","default"] 0 ⟨[],[]⟩=pure [none,none] from rfl) ?_)
 show wpAny _ X.A.in1 (newTuple [.int i a,.int j b,.int k c,.int l d] >>= _) _ _ s;refine Ip (wpAny_newObj_type ?_);have O:(s.heap.push {cls:=.type "tuple",data:=.seq #[.int i a,.int j b,.int k c,.int l d]}).IsTuple s.heap.objs.size (intItems #[(i,a),(j,b),(k,c),(l,d)]):=⟨_,IH _ rfl,rfl,0,by simp[intItems]⟩
 refine Ip (wpAny_pyIter_tuple O ?_);have hsz:(s.heap.push {cls:=.type "tuple",data:=.seq #[.int i a,.int j b,.int k c,.int l d]}).objs.size=s.heap.objs.size+1:=LF ..
 have W:=Walks.tuple (prog:=X.prog) (w:=X.w) (A:=X.A.in1) (I.ok.hd Y) (s.heap.push {cls:=.type "tuple",data:=.seq #[.int i a,.int j b,.int k c,.int l d]}).objs.size s.heap.objs.size (by rw[hsz];exact I0 (Ki _)) (intItems #[(i,a),(j,b),(k,c),(l,d)])
 refine Ip (wpAny_newObj_type ?_);rw[B];refine IB ⟨plainId_quiet F.plain_min_loop _,codeAny_min_loop_first W _ (CmpOf.ints_lt (numAt #[(i,a),(j,b),(k,c),(l,d)]) (fun _ _=>intItems_at)) _ (fun G=>?_) (by simp[intItems]) (W.frame _ _ _ ⟨⟨_,IH _ rfl,rfl,rfl⟩,O.push _⟩ fun b _ o e=>Ir _ e) (IH _ rfl) fun v h' tk hP hk=>?_⟩
 ·have z:∀(h:Heap) (o:Obj),(h.push o).objs.size=h.objs.size+1:=fun h o=>LF ..;dsimp only at G;rw[hsz]at G;rcases IP.mp G with e | e
  ·rw[z,hsz]at e;exact Nat.succ_ne_self _ e
  ·have e:=Iu.mp e;rw[z,hsz]at e;exact Kk (KN (Ki _)) e
 ·obtain⟨m,t,rfl⟩:∃m t,v=.int m t:=by
   have:v∈(intItems #[(i,a),(j,b),(k,c),(l,d)]):=Array.mem_of_getElem? hP
   simp[intItems]at this;rcases this with rfl | rfl | rfl | rfl<;>exact⟨_,_,rfl⟩
  refine⟨.int m,H,I.kept (t':=tk) fun b o e=>?_,⟨t,rfl⟩,q m⟩;have J:=IK e;refine hk b o (fun G=>?_) ?_ (Ir _ (Ir _ (Ir _ e)))
  ·have e:=Iu.mp G;rw[e,hsz]at J;exact Kb _ (LH J)
  ·have z:∀(h:Heap) (o:Obj),(h.push o).objs.size=h.objs.size+1:=fun h o=>LF ..;dsimp only;rw[z,hsz];exact I0 (KN (KN J))
theorem BY (B:cV k X.A):OpR X (compareOp .NotEq) (fun x y H Q=>∃(a b:Addr) (xs:List V),x=.ref a/\y=.ref b/\a≠b/\H a=some (.lst xs)/\H b=some (.lst [])/\Q (.bl (!xs.isEmpty)) H):=by
 intro pins s σ H x y v u Q I Y ry h;obtain⟨a,b,xs,rfl,rfl,a0,ha,hb,q⟩:=h;cases Y;cases ry;obtain⟨_,us,n1,G,J⟩:=(show bv X.prog X.w H s.heap a (.lst _) from I.hok _ _ ha);obtain⟨_,vs,n2,r2,O⟩:=(show bv X.prog X.w H s.heap b (.lst _) from I.hok _ _ hb);cases r2;have l1:=G.length;by_cases e:xs=[]
 ·subst e;cases G;exact SeqAt.RcNeAt.lists (items := #[]) (items2 := #[]) (e:=fun _=>true) ⟨_,J,rfl,_,rfl⟩ ⟨_,O,rfl,_,rfl⟩ rfl B.units0 (fun j h1 h2=>absurd h1 (by simp)) _ _ _ _ ⟨.bl false,H,I,rfl,q⟩
 ·have he:xs.isEmpty=false:=by cases xs with
   |nil=>exact absurd rfl e
   |cons=>rfl
  rw[he]at q;exact SeqAt.RcNeAt.lists_lengths (items:=us.toArray) (items2 := #[]) ⟨_,J,rfl,_,rfl⟩ ⟨_,O,rfl,_,rfl⟩ (by simp;intro z;exact e (Jz (by rw[l1,z];rfl))) B.units0 _ _ _ _ ⟨.bl true,H,I,rfl,q⟩
end
end L2
namespace L2
open PySem PySem.Spec PyProof.Rows
variable {X:Cx}
def ItZ (K:Frag)(l1 l2:Addr):It :=
 ⟨fun i H=>∃xs ys x y,SqL K H l1 xs/\SqL K H l2 ys/\xs[i]? = some x/\ys[i]? = some y,
  fun i H v H'=>∃p x y,H p=none/\v=.ref p/\H'=upd H p (.tup [x,y])/\(∀xs,SqL K H l1 xs->xs[i]? = some x)/\∀ys,SqL K H l2 ys->ys[i]? = some y,
  fun i H=>(∃xs,SqL K H l1 xs/\xs.length<=i)/\∃ys,SqL K H l2 ys⟩
section
theorem Inv.turnZ {t':Nat}{L:List Addr}(I:Inv X pins σ H s)(k:∀b o,b∉L->s.heap.get? b=some o->h'.get? b=some o)(f:∀b∈L,n_ X pins H b):Inv X pins σ H {s with heap:=h',toks:=t' }:=by
 have G:∀b u,H b=some u->b∉L:=fun b u e z=>by rw[(f b z).1]at e;cases e
 refine I.step (g':=s.gens) (d':=s.drawn) (ch:=L) (fun b J=>?_) (fun b o _ _ B e _=>k b o B e) (fun b o _ _ B e _=>⟨o.slots,k b o B e⟩) (fun _ _ _ _ n=>n)
  (fun b o B e=>⟨o,k b o B e⟩) (fun _ _ e=>e) (fun _ _ _ e=>e) (fun b ps e=>⟨#[],by rw[e];simp⟩) (fun m O=>?_) (fun b u e=>?_) I.bare
 ·obtain⟨f0,Y,f2,f3,f4,f5⟩:=f b J;exact⟨f3,Y,f4,f5⟩
 ·obtain⟨o,es,ep,ho,r⟩:=O;exact⟨o,es,ep,k _ o (fun z=>(f _ z).2.1 rfl) ho,r⟩
 ·refine (I.hok b u e).stay (fun c v B q=>k c v ?_ q) (fun _ q=>q) fun _ _ q=>q;rcases B with z | z
  ·rw[z];exact G b u e
  ·exact G c _ z
abbrev ZSt (z TI TO i1 i2 l1 l2:Addr)(i:Nat)(h:Heap):Prop:=IsZip h z TI TO .none/\IsPair h TI (.ref i1) (.ref i2)/\(∃a b,IsPair h TO a b)/\h.IsListIter i1 l1 i/\h.IsListIter i2 l2 i
theorem AN {z TI TO J O l1 l2 b:Addr}{i:Nat}{h:Heap}(st:ZSt z TI TO J O l1 l2 i h)(Y:b∈[TI,z,TO,J,O]):∃o,h.get? b=some o/\∀v,o.data≠.cell v:=by
 obtain⟨hz,B,⟨a,c,G⟩,⟨o1,h1,_,d1⟩,o2,h2,_,d2⟩:=st;simp only[IP,KE,or_false]at Y;rcases Y with rfl|rfl|rfl|rfl|rfl
 ·exact⟨_,B,fun v q=>by cases q⟩
 ·exact⟨_,hz,fun v q=>by cases q⟩
 ·exact⟨_,G,fun v q=>by cases q⟩
 ·exact⟨_,h1,fun v q=>by rw[d1]at q;cases q⟩
 ·exact⟨_,h2,fun v q=>by rw[d2]at q;cases q⟩
theorem Dm {P:Pg9}{w:Wd9}{K:Frag}{a0:List Expr}{kk:Nat}{tp:Pos}{z TI TO O Y l1 l2:Addr}(D:ZipApart z TI TO O Y l1 l2):
  wP P w K (.Tuple a0 kk tp) (ItZ K l1 l2) [TI,z,TO,O,Y] z
   (ZSt z TI TO O Y l1 l2) where
 mem:=by simp
 obj:=fun i h st b B=>AN st B
 keep:=fun i h h' st k=>by
  obtain⟨hz,G,⟨a,c,J⟩,h1,h2⟩:=st;exact⟨k _ (by simp) _ hz,k _ (by simp) _ G,⟨a,c,k _ (by simp) _ J⟩,h1.at fun o e=>k _ (by simp) o e,h2.at fun o e=>k _ (by simp) o e⟩
 item:=by
  intro X hP hw hK hc i pins s σ H E I hf st hg;subst hP hw hK;obtain⟨hz,G,⟨a,c,J⟩,h1,h2⟩:=id st;obtain⟨xs,ys,x,y,q1,q2,hx,hy⟩:=hg;obtain⟨u1,r1,s1,_⟩:=I.list q1;obtain⟨u2,r2,s2,_⟩:=I.list q2;obtain⟨x',a1,rx⟩:=r1.get hx;obtain⟨y',a2,ry⟩:=r2.get hy;refine wpAny_pyNext_zip_item D hz G J h1 h2 s1.isList s2.isList (x:=x') (y:=y') (by simpa using a1) (by simpa using a2) fun g z' a3 j1 j2 a4 _ kp=>⟨_,rfl,?_⟩;have hn:H s.heap.objs.size=none:=I.hok.fresh (Iw _);refine wpAny_letOwnedTupleGo_zip z' fun g' a5 sb=>?_;have I1:Inv X pins σ (upd H s.heap.objs.size (.tup [x,y])) {s with heap:=s.heap.push {cls:=.type "tuple",data:=.seq #[x',y']} } :=
   I.laid (t':=s.toks) (fun b u e=>Ir _ e) (Iw _) ⟨(by show 2<=sizeLine;decide),[x',y'],.cons rx (.cons ry .nil),⟨_,IH _ rfl,rfl,_,rfl⟩⟩
  have fp':∀b∈[TI,z,TO,O,Y],upd H s.heap.objs.size (.tup [x,y]) b=none:=fun b B=>by
   obtain⟨o,ho,_⟩:=AN st B;rw[aA (I0 (IK ho))];exact (hf b B).1
  have I2:=I1.turnZ (h':=g') (t':=s.toks) (L:=[z,TO,O,Y]) (fun b o B e=>by
   simp only[IP,KE,or_false,not_or]at B;refine sb.extBut _ _ B.1 ?_;rcases Heap.get?_push_cases e with⟨rfl,rfl⟩ | e
   ·exact a4
   ·exact kp b o B.1 B.2.1 B.2.2.1 B.2.2.2 e) fun b B=>by
   obtain⟨f0,f1,f2,f3,f4,f5⟩:=hf b (.tail _ B);exact⟨fp' b (.tail _ B),f1,f2,f3,f4,f5⟩
  refine⟨.ref s.heap.objs.size,_,I2,rfl,⟨_,x,y,hn,rfl,rfl,fun zs hq=>?_,fun zs hq=>?_⟩,⟨a5,sb.extBut _ _ D.TIz (kp _ _ D.TIz D.TITO D.TIi1 D.TIi2 G),⟨_,_,sb.extBut _ _ D.TOz a3⟩,j1.at fun o e=>sb.extBut _ _ D.i1z e,j2.at fun o e=>sb.extBut _ _ D.i2z e⟩,fp'⟩
  ·rw[I.list_inj hq q1];exact hx
  ·rw[I.list_inj hq q2];exact hy
 done:=by
  intro X hP hw hK hc i pins s σ H E I hf st hg;subst hP hw hK;obtain⟨hz,G,⟨a,c,J⟩,h1,h2⟩:=st;obtain⟨⟨xs,q1,he⟩,ys,q2⟩:=hg;obtain⟨u1,r1,s1,_⟩:=I.list q1;obtain⟨u2,r2,s2,_⟩:=I.list q2;have e1:=r1.length;refine wpAny_pyNext_zip_end (I.ok.hd hc) D hz G J h1 h2 s1.isList s2.isList (.inl (by simp;lia)) fun g kp=>⟨rfl,I.turnZ (t':=s.toks) (L:=[z,TO,O,Y]) (fun b o B e=>?_) fun b B=>hf b (.tail _ B)⟩;simp only[IP,KE,or_false,not_or]at B;exact kp b o B.1 B.2.1 B.2.2.1 B.2.2.2 e
 self:=fun _ _ _ _ _ st h=>wpAny_pyIter_zip st.1 h
end
theorem Hu:bootBuiltins "zip" = some (.type "zip"):=by first | rfl | kernel_rfl | decide +kernel
abbrev iZz (K:Frag)(ta:TA):TI:=fun σ H R=>ta σ H fun vs H1=>∃l1 l2:Addr,vs=[.ref l1,.ref l2]/\(∃xs,SqL K H1 l1 xs)/\(∃ys,SqL K H1 l2 ys)/\R (ItZ K l1 l2) H1
theorem G6 {X:Cx}{a b:Expr}{ta:TA}{p pos:Pos}{B:List Expr}{kk:Nat}{tp:Pos}(hg:Gl X "zip")(hm:X.mg "zip" = none)(ha:PA X [a,b] ta)
  (hs:starEach [a,b] X.env=(false,eval a X.env)::starEach [b] X.env:=by rfl) (a0:(backTo pos (starEach [b] X.env)).any (·.1)=false:=by rfl) :
  PI X (.Tuple B kk tp) (.Call (.Name "zip" p) [a,b] [] pos) (iZz X.K ta):=by
 intro pins s σ H R I h;refine Call_ (jh I hg hm Hu (PyProof.Rows.callWith_type1 (thn (ha pos pins s σ H _ I h) fun us Y ⟨vs,H1,G,r1,q1⟩=>?_) hs a0));obtain⟨l1,l2,rfl,⟨xs,q1⟩,⟨ys,q2⟩,q⟩:=q1;cases r1 with | cons r rr=>
 cases rr with | cons r' rr=>
 cases rr;cases r;cases r';obtain⟨u1,_,J,_⟩:=G.list q1;obtain⟨u2,_,O,_⟩:=G.list q2;have lt:∀{a xs},Y.heap.IsList a xs->a<Y.heap.objs.size:=fun⟨_,h,_⟩=>IK h;refine call_zip_2 J.isList O.isList fun g hz a1 a2 j1 j2 _ kp=>wpAny_pyIter_zip hz ?_;refine⟨_,_,_,_,H1,rfl,G.kept (t':=Y.toks) kp,Dm (zipApart_new (lt J.isList) (lt O.isList)),⟨hz,a1,⟨_,_,a2⟩,j1,j2⟩,fun b hb=>?_,q⟩;have hb':Y.heap.objs.size<=b:=by
  simp only[IP,KE,or_false]at hb;rcases hb with rfl | rfl | rfl | rfl | rfl<;>simp
 exact G.fpOk hb' (G.hok.fresh hb')
theorem Gn {K:Frag}{B G:Addr}{xs ys:List V}{g:TG}{tb:TS}{D:rC}{σ:St}{H:Hp}(Pv:NS9)(e:xs.length=ys.length)(Y:Pv 0 σ H)(hl:∀i σ H,Pv i σ H->SqL K H B xs/\SqL K H G ys)
  (hs:∀i x y p σ H,xs[i]? = some x->ys[i]? = some y->Pv i σ H->H p=none->g (.ref p) σ (upd H p (.tup [x,y])) fun J H2=>tb {D with nx:=Pv (i+1),ct:=Pv (i+1),bk:=D.nx} J H2)
  (hd:∀σ H,Pv xs.length σ H->D.nx σ H) :
  ∃W:Nat->NS9,(∃m,W 0 m σ H)/\∀i m σ H,W i m σ H ->
   ((ItZ K B G).stop i H/\D.nx σ H)\/((ItZ K B G).go i H/\∃N:SP9,(∀O H',N O H'->∃m',m'<m/\W (i+1) m' O H')/\∀x H',(ItZ K B G).yld i H x H'->g x σ H' fun J H2=>tb {D with nx:=N,ct:=N,bk:=D.nx} J H2):=by
 refine⟨fun i m σ H=>m+i=xs.length/\Pv i σ H,⟨_,rfl,Y⟩,?_⟩;rintro i m σ H ⟨hi,p⟩;obtain⟨q1,q2⟩:=hl i σ H p;by_cases hlt:i<xs.length
 ·refine .inr ⟨⟨xs,ys,xs[i],ys[i],q1,q2,by simp,by simp⟩,Pv (i+1),fun O H' p'=>⟨m-1,by lia,by lia,p'⟩,fun v H' y=>?_⟩;obtain⟨a,x,y,hn,rfl,rfl,e1,e2⟩:=y;exact hs i x y a σ H (e1 xs q1) (e2 ys q2) p hn
 ·obtain rfl:i=xs.length:=by lia
  exact .inl ⟨⟨⟨xs,q1,Iw _⟩,ys,q2⟩,hd σ H p⟩
end L2
namespace Qs
open PySem L2
def top (i:Nat):Stmt:=PySem.Challenge.pw_quartersheet_k67_whole_lands_by_a_plain.main.body.getD i (.Pass ⟨0,0,0,0⟩)
structure Tx (K:Frag)(mg:Mg9):Prop where
 b_isinstance:mg "isinstance" = none
 b_int:mg "int" = none
 b_bool:mg "bool" = none
 c_MOST:∃t,mg "MOST" = some (.int 40 t)
 b_all:mg "all" = none
 b_str:mg "str" = none
 b_len:mg "len" = none
 c_QUARTERS:∃t,mg "QUARTERS" = some (.str "0123" t)
 b_range:mg "range" = none
 b_min:mg "min" = none
 b_max:mg "max" = none
 b_tuple:mg "tuple" = none
 b_sorted:mg "sorted" = none
 b_dict:mg "dict" = none
 b_abs:mg "abs" = none
 b_list:mg "list" = none
 b_zip:mg "zip" = none
def txt (ds:List Nat):Str:=⟨(ds.map (48 + ·)).toArray⟩
theorem fj (ds:List Nat):(txt ds).length=ds.length:=by
 rw[nQ];simp[txt]
theorem yg (h:∀d∈ds,d<4):IsC (txt ds):=fun c B=>by
 have hc':∃d∈ds,48+d=c:=by simpa[txt] using B
 obtain⟨d,G,e⟩:=hc'
 have:=h d G
 lia
theorem fU (ds:List Nat):dig (txt ds)=ds:=by
 unfold dig txt;rw[Jp];have e:((fun x=>x-48)∘fun x=>48+x)=(id:Nat->Nat):=by funext x;show 48+x-48=x;simp
 rw[e,Mb]
theorem l_ {a b:Str}(h:a.cps.toList=b.cps.toList):a=b:=by
 obtain⟨a⟩:=a;obtain⟨b⟩:=b;have h':a.toList=b.toList:=h;have e:a=b:=KU.mp h';rw[e]
theorem oX {z:Str}(h:IsC z):txt (dig z)=z:=by
 refine l_ ?_;have e:(txt (dig z)).cps.toList=(z.cps.toList.map (· - 48)).map (48 + ·):=rfl;rw[e,Jp];have B:∀c∈z.cps.toList,((fun x=>48+x)∘fun x=>x-48) c=id c:=fun c G=>by
  have:=h c G
  show 48+(c-48)=c
  lia
 rw[Jg B,Mb]
theorem qR:("" : Str)=⟨#[]⟩:=by decide +kernel
def pre (z:Str)(k:Nat):Str:=⟨(z.cps.toList.take k).toArray⟩
theorem kj (z:Str)(k:Nat):Txt.slice z none (some (k:Int))=pre z k:=by
 by_cases h:k<=z.length
 ·have e:=PyProof.Rows.slice_closes_to (x:=z) (j:=(k:Int)) ⟨by simp,by rw[<-nQ];lia⟩;rw[beq_iff_eq]at e;rw[e];unfold pre;simp
 ·have e:Builtin.Str.strSliceIndices none (some (k:Int)) 1 z.length=(List.range z.length).map fun j:Nat=>(0+1*(j:Int)).toNat:=by
   unfold Builtin.Str.strSliceIndices;dsimp only;unfold sliceRange;have h1:¬ (k:Int)<0:=by simp
   have h2:max (0:Int) (min (k:Int) (z.length:Int))=(z.length:Int):=by lia
   simp only[show (1:Int)>0 by decide,if_true,h1,if_false,h2];by_cases h0:(0:Int)<(z.length:Int)
   ·rw[if_pos h0];have B:(((z.length:Int)-0+1-1)/1).toNat=z.length:=by simp
    rw[B]
   ·rw[if_neg h0];have B:z.length=0:=by lia
    rw[B];rfl
  unfold Txt.slice;rw[e,Iq,J_];rw[if_pos (by simp)];refine l_ ?_;unfold pre;rw[IS (by rw[<-nQ];lia)]
theorem yJ (z:Str)(k:Nat):(pre z k).length=min k z.length:=by
 rw[nQ,nQ];simp[pre]
theorem yK (h:IsC z)(k:Nat):IsC (pre z k):=fun c B=>h c (by
 have hc':c∈z.cps.toList.take k:=by simpa[pre] using B
 exact JU hc')
theorem vc (a b:Str):(a++b).length=a.length+b.length:=by
 show (a.cps++b.cps).size=_;rw[Array.size_append];rfl
theorem Ij {d:Nat}(h:d<4):atI ("0123" : Str).cps.toList (d:Int)=some (48+d) :=
 four (P:=fun d=>atI ("0123" : Str).cps.toList (d:Int)=some (48+d)) (by decide +kernel) (by decide +kernel) (by decide +kernel) (by decide +kernel) h
theorem G5:("0123" : Str).length<=sizeLine:=by decide +kernel
def xB (a b c d:Tr):Bool:=a.isCol&&(decide (a=a)&&(decide (b=a)&&(decide (c=a)&&(decide (d=a)&&true))))
def oR (a b c d:Tr):Tr:=if xB a b c d then a else .four a b c d
def q0:Tr->Tr | .col i=>.col i | .four a _ _ _=>a
def q1:Tr->Tr | .col i=>.col i | .four _ b _ _=>b
def q2:Tr->Tr | .col i=>.col i | .four _ _ c _=>c
def q3:Tr->Tr | .col i=>.col i | .four _ _ _ d=>d
theorem v9:xB a b c d=true↔a.isCol=true/\b=a/\c=a/\d=a:=by
 unfold xB;simp only[JC,decide_eq_true_eq,and_true,true_and]
def Hx (H:Hp)(v:V)(n:Int)(t:Tr):Prop:=∃p x,v=.ref p/\H p=some (.tup [.int n,x])/\cM H x t
theorem qK {K:Frag}:kitOne K (.type "int") (.type "tuple")=some false:=by kernel_rfl
def qk (t:Tr):Nat->Tr
 |0=>q0 t
 |1=>q1 t
 |2=>q2 t
 |_=>q3 t
def bc:Nat->Tr->Prop
 |_,.col i=>0<=i/\i<=35
 |0,.four ..=>False
 |n+1,.four a b c d=>bc n a/\bc n b/\bc n c/\bc n d/\xB a b c d=false
theorem bc.deep:∀{n:Nat} {t:Tr},bc n t->t.deep<=n
 |_,.col i,_=>IG _
 |0,.four ..,h=>h.elim
 |n+1,.four a b c d,⟨ha,hb,hc,hd,_⟩=>by
  have:=ha.deep
  have:=hb.deep
  have:=hc.deep
  have:=hd.deep
  show max a.deep (max b.deep (max c.deep d.deep))+1<=n+1
  lia
theorem bc.col (h:0<=i/\i<=35):bc n (.col i):=by cases n<;>exact h
theorem bc.q (h:bc (n+1) t)(k:Nat):bc n (qk t k):=by
 cases t with
 |col i=>
  have z:bc n (.col i):=bc.col h;rcases k with _ | _ | _ | k<;>exact z
 |four a b c d=>
  obtain⟨B,G,J,O,_⟩:=h;rcases k with _|_|_|k
  ·exact B
  ·exact G
  ·exact J
  ·exact O
theorem bc.up (h:bc n t):bc (n+1) t:=by
 induction t generalizing n with
 |col i=>exact bc.col (by cases n<;>exact h)
 |four a b c d ia ib ic id=>
  cases n with
  |zero=>exact h.elim
  |succ n=>
   obtain⟨B,G,J,O,Y⟩:=h;exact⟨ia B,ib G,ic J,id O,Y⟩
theorem Az (B:bc n a)(G:bc n b)(J:bc n c)(O:bc n d):bc (n+1) (oR a b c d):=by
 unfold oR
 split
 ·exact B.up
 ·rename_i h
  exact⟨B,G,J,O,by simpa using h⟩
def cnt:Tr->Nat
 | .col _=>1
 | .four a b c d=>cnt a+cnt b+cnt c+cnt d
theorem CW (a b c d:Tr):cnt (oR a b c d)<=cnt a+cnt b+cnt c+cnt d:=by
 unfold oR
 split
 ·lia
 ·exact Iw _
theorem Ew (m:Int):∃d:Nat,d<4/\m%4=(d:Int):=⟨(m%4).toNat,by lia,by lia⟩
theorem Gr (hz:IsC z):∀d∈dig z,d<4:=fun d h=>by
 obtain⟨c,B,rfl⟩:=Iv.mp h
 have:=hz c B
 omega
def bit (x l:Nat):Nat:=x/2^l%2
theorem q_ (x l:Nat):Builtin.bitAnd ((x:Int)/2^((l:Int)).toNat) 1=((bit x l:Nat):Int):=by
 have e:(x:Int)/2^((l:Int)).toNat=((x/2^l:Nat):Int):=by
  rw[Jn];simp
 rw[e,PyProof.Rows.bitAnd_pp (Int.natCast_nonneg _) (by decide)];show (((x/2^l) &&& 1:Nat):Int)=_;rw[Nat.and_one_is_mod];rfl
def dgt (x y m:Nat):Nat:=x/2^m%2+2*(y/2^m%2)
def low (n x y:Nat):List Nat:=(List.range n).map fun k=>dgt x y (n-1-k)
theorem uO (x y m:Nat):dgt x y m<4:=by unfold dgt;lia
theorem jg (n x y:Nat):(low n x y).length=n:=by simp[low]
theorem Ck (i x y:Nat):low (i+1) x y=dgt x y i::low i x y:=by
 unfold low;rw[List.range_succ_eq_map,IR,Jp];refine congr (I_ List.cons ?_) (Jg fun k B=>?_)
 ·rfl
 ·have:=Jm.mp B
  show dgt x y (i+1-1-(k+1))=dgt x y (i-1-k)
  congr 1
  lia
def cell (ns:List Int)(k:Nat):Int:=(ns[k]?).getD 0
def lvs:List Nat->Tr->List (List Nat×Int)
 |z,.col i=>[(z,i)]
 |z,.four a b c d=>lvs (z++[0]) a++(lvs (z++[1]) b++(lvs (z++[2]) c++lvs (z++[3]) d))
theorem fY:∀(t:Tr) (z:List Nat),(lvs z t).length=cnt t
 | .col _,_=>rfl
 | .four a b c d,z=>by
  show (lvs (z++[0]) a++(lvs (z++[1]) b++(lvs (z++[2]) c++lvs (z++[3]) d))).length=cnt a+cnt b+cnt c+cnt d;rw[Iy,Iy,Iy,fY a,fY b,fY c,fY d];lia
def jY:Tr->List Nat->Option Tr
 |t,[]=>some t
 | .col _,_::_=>none
 | .four a b c d,k::w=>jY (qk (.four a b c d) k) w
theorem qC:∀(w:List Nat) (t:Tr) (v:List Nat),jY t (w++v)=(jY t w).bind fun u=>jY u v
 | [],t,v=>rfl
 |k::w,.col i,v=>rfl
 |k::w,.four a b c d,v=>qC w (qk (.four a b c d) k) v
theorem pI (a b:Str):dig (a++b)=dig a++dig b:=by
 unfold dig;show (a.cps++b.cps).toList.map _=_;simp
theorem zi (d:Nat):dig (one d)=[d]:=by
 show [48+d-48]=[d];rw[show 48+d-48=d by simp]
theorem qT (z:Str)(k:Nat):dig (pre z k)=(dig z).take k:=by
 unfold dig pre;simp
theorem big (h:n<=1000000):n<=sizeLine:=IU h (by decide)
theorem yl (h:d<4):Str.ofString (toString ((d:Nat):Int))=one d :=
 four (P:=fun d=>Str.ofString (toString ((d:Nat):Int))=one d) (by decide +kernel) (by decide +kernel) (by decide +kernel) (by decide +kernel) h
def sV (ds:List Nat):V:=.str (txt ds)
theorem Br (h:IsC z):sV (dig z)=.str z:=by unfold sV;rw[oX h]
theorem Dl (h:IsC z)(k:Nat):txt ((dig z).take k)=pre z k:=by rw[<-qT,oX (yK h k)]
def fF (near:List Nat):List Nat->Tr->LN9
 |z,.col _=>[z]
 |z,.four a b c d=>near.flatMap fun e=>match e with
  |0=>fF near (z++[e]) a
  |1=>fF near (z++[e]) b
  |2=>fF near (z++[e]) c
  |_=>fF near (z++[e]) d
theorem jo (B z:List Nat)(a b c d:Tr):fF B z (.four a b c d)=B.flatMap fun e=>fF B (z++[e]) (qk (.four a b c d) e):=by
 show B.flatMap _=B.flatMap _
 congr 1
 funext e
 rcases e with _|_|_|e<;>rfl
def rm (near:List Nat):Prop:=near=[2,3]\/near=[0,2]\/near=[0,1]\/near=[1,3]
theorem f_ (h:rm near):∀(t:Tr) (z:List Nat),(fF near z t).length<=cnt t
 | .col _,_=>Iw 1
 | .four a b c d,z=>by
  have B:=f_ h a (z++[0]);have G:=f_ h b (z++[1]);have J:=f_ h c (z++[2]);have O:=f_ h d (z++[3]);have k:∀l:List Nat,rm l->(l.flatMap fun e=>fF near (z++[e]) (qk (.four a b c d) e)).length<=cnt a+cnt b+cnt c+cnt d:=by
   rintro l (rfl | rfl | rfl | rfl)<;>simp[qk,q0,q1,q2,q3]<;>lia
  rw[jo];exact k near h
def wz (near:List Nat):List Nat->List Nat->Tr->LN9
 |p,[],t=>fF near p t
 |p,_::_,.col _=>[p]
 |p,e::r,.four a b c d=>wz near (p++[e]) r (qk (.four a b c d) e)
theorem nW (B:List Nat):∀(a b p:List Nat) (t u:Tr),jY t a=some u->wz B p (a++b) t=wz B (p++a) b u
 | [],b,p,t,u,h=>by rw[<-Option.some.inj h];simp
 |e::a,b,p,.col _,u,h=>by cases h
 |e::a,b,p,.four x y z w,u,h=>by
  show wz B (p++[e]) (a++b) (qk (.four x y z w) e)=_;rw[nW B a b _ _ u h];simp
theorem sI:∀(a:List Nat) (n:Nat) (t u:Tr),bc n t->jY t a=some u->a.length<=n/\bc (n-a.length) u
 | [],n,t,u,g,h=>by rw[<-Option.some.inj h];exact⟨IG _,g⟩
 |e::a,n,.col _,u,g,h=>by cases h
 |e::a,0,.four ..,u,g,h=>g.elim
 |e::a,n+1,.four x y z w,u,g,h=>by
  obtain⟨h1,h2⟩:=sI a n _ u (g.q e) h;refine⟨by simpa using h1,?_⟩;rw[show n+1-(e::a).length=n-a.length by simp];exact h2
theorem xY (t:Tr)(k:Nat):cnt (qk t k)<=cnt t:=by
 cases t with
 |col i=>rcases k with _ | _ | _ | k<;>exact Iw _
 |four a b c d=>
  show _<=cnt a+cnt b+cnt c+cnt d;rcases k with _ | _ | _ | k
  ·show cnt a<=_;lia
  ·show cnt b<=_;lia
  ·show cnt c<=_;lia
  ·show cnt d<=_;simp
theorem wH:∀(a:List Nat) (t u:Tr),jY t a=some u->cnt u<=cnt t
 | [],t,u,h=>by rw[<-Option.some.inj h];exact Iw _
 |e::a,.col _,u,h=>by cases h
 |e::a,.four x y z w,u,h=>IU (wH a _ u h) (xY _ e)
theorem Aj {t:Tr}{w:List Nat}{i d:Nat}{x y z v:Tr}(h:jY t (w.take i)=some (.four x y z v))(B:w[i]? = some d):jY t (w.take (i+1))=some (qk (.four x y z v) d):=by
 rw[Jf,B,qC,h];rfl
section
structure Ty (P:Pg9)(w:Wd9)(K:Frag)(mg:Mg9):Prop where
 sides:∃a,mg "SIDES" = some (.ref a)/\KTu K a [.str "up",.str "right",.str "down",.str "left"]
 cross:∃a p0 p1 p2 p3,mg "CROSSINGS" = some (.ref a)/\KD P w K a [(.inr "up",.ref p0),(.inr "right",.ref p1),(.inr "down",.ref p2),(.inr "left",.ref p3)] /\
  KTu K p0 [.str "2301",.str "23"]/\KTu K p1 [.str "1032",.str "02"]/\KTu K p2 [.str "2301",.str "01"]/\KTu K p3 [.str "1032",.str "13"]
def Dir (side s1 s2:Str)(dx dy:Int):Prop:=(side = "up" /\ s1 = "2301" /\ s2 = "23" /\ dx=0/\dy=-1)\/(side = "right" /\ s1 = "1032" /\ s2 = "02" /\ dx=1/\dy=0)\/(side = "down" /\ s1 = "2301" /\ s2 = "01" /\ dx=0/\dy=1)\/(side = "left" /\ s1 = "1032" /\ s2 = "13" /\ dx=-1/\dy=0)
def occ (s z:Str):Bool := !(Builtin.Str.occurrences s z 0 s.length 1).isEmpty
def St1 (s1 s2:Str)(dx dy:Int)(d:Nat):Prop:=∃e,e<4/\atI s1.cps.toList (d:Int)=some (48+e) /\
 ((occ s2 (one d)=true/\((e%2:Nat):Int)=((d%2:Nat):Int)+dx/\((e/2:Nat):Int)=((d/2:Nat):Int)+dy)\/(occ s2 (one d)=false/\((e%2:Nat):Int)=((d%2:Nat):Int)-dx/\((e/2:Nat):Int)=((d/2:Nat):Int)-dy))
theorem Gq (h:Dir side s1 s2 dx dy):s1.length<=sizeLine/\∀d,d<4->St1 s1 s2 dx dy d:=by
 unfold St1;rcases h with⟨rfl,rfl,rfl,rfl,rfl⟩ | ⟨rfl,rfl,rfl,rfl,rfl⟩ | ⟨rfl,rfl,rfl,rfl,rfl⟩ | ⟨rfl,rfl,rfl,rfl,rfl⟩<;>exact⟨by decide +kernel,by decide +kernel⟩
abbrev nB:Stmt:=top 12
theorem xm:aE ["thing"] ["thing"] (aq nB):={}
def yx (z:Str):Prop:=inV (.str z) [.str "up",.str "right",.str "down",.str "left"]=true
theorem CK (h:Dir side s1 s2 dx dy):yx side:=by
 rcases h with⟨rfl,_⟩|⟨rfl,_⟩|⟨rfl,_⟩|⟨rfl,_⟩<;>(unfold yx;decide +kernel)
theorem CL (h:Dir side s1 s2 dx dy):IsC s2/\rm (dig s2):=by
 unfold IsC rm;rcases h with⟨_,_,rfl,_⟩ | ⟨_,_,rfl,_⟩ | ⟨_,_,rfl,_⟩ | ⟨_,_,rfl,_⟩<;>decide +kernel
def pT:Sp:=fun vs H Q _=>∃z,vs=[.str z]/\yx z/\Q (.bl true) H
theorem xG (T:Tx K mg)(U:Ty P w K mg)(F:bD K "is_side" "is_side" nB f fd .none):bB P w K mg base CX 1 f fd ["thing"] pT:=by
 refine F.ok xm (fun vs H Q E h=>?_) (fun G A outer s H vs Q E hr h=>?_)
 ·obtain⟨_,rfl,_⟩:=h;rfl
 obtain⟨z,rfl,hz,J⟩:=h;obtain⟨O,B,Y⟩:=U.sides;refine⟨_,(af (aB (hE Ac (pv 0) (ko (v:=.ref _) rfl B rfl) (by with_unfolding_all rfl)))),?_⟩;refine⟨O,_,rfl,.inr Y.sq,rfl,rfl,?_⟩;show Q (.bl (inV (.str z) _)) H;rw[hz];exact J
abbrev nE:Stmt:=top 13
theorem xo:aE ["thing"] ["thing"] (aq nE):={}
theorem G4 (c:Nat):c∈("0123" : Str).cps.toList↔48<=c/\c<=51:=by
 have e:("0123" : Str).cps.toList=[48,49,50,51]:=by decide +kernel
 rw[e];simp only[IP,KE,or_false]
 lia
def pU:Sp:=fun vs H Q _=>∃z,vs=[.str z]/\IsC z/\z.length<=40/\∀H',ah H H'->Q (.bl true) H'
theorem xH (T:Tx K mg)(F:bD K "is_code" "is_code" nE f fd .none):bB P w K mg base CX 1 f fd ["thing"] pU:=by
 refine F.ok xo (fun vs H Q E h=>?_) (fun J A outer s H vs Q E hr h=>?_)
 ·obtain⟨x,rfl,_⟩:=h;rfl
 obtain⟨z,rfl,hz,hl,q⟩:=h;refine⟨_,(ab (aT (PW.pt (g_ (ce (bL (av (aQ "str") rfl T.b_isinstance aH (aa (pv 0) (aa (cm T.b_str uY) ae))))) (gG (aJ G8 (av aY rfl T.b_len bN (aa (pv 0) ae)) (yM T.c_MOST))))) (af (aB cX)) aF) (af (aB (av (CZ rfl) rfl T.b_all GA (aa (jU (N':=["sign"]) [] [] [] 1 {} (tT (pv 0)) (fun _ _ _ _ _=>(oi (i:=0))) (fun _ _ _ _ _=>(hE kq (pv 0) (DY T.c_QUARTERS) (by with_unfolding_all rfl)))) ae))))),?_⟩
 have B:z.length<=sizeLine:=small (by lia);refine⟨_,_,_,rfl,.str z,Cs,ay (dv ⟨_,_,rfl,⟨B,rfl⟩,cU (ay (ci (fun c=>absurd (IZ c) (by lia)) fun c=>?_))⟩)⟩;refine⟨[],rfl,_,rfl,AC (fun D i ys H'=>H'=upd H D (.lst ys)/\ys=List.replicate i (.bl true)) B (fun D i ys H' p=>⟨by rw[p.1,ag],by rw[p.2];simp⟩) (fun D _=>⟨rfl,rfl⟩) (fun D i ys H' hi G p=>⟨rfl,_,_,rfl,rfl,by rw[p.1,ag],by rw[p.1,Dj],?_⟩) (fun D ys H' G p=>?_) (fun _ _ _ _ _ h=>h _ _) fun σ H' R R' h1 h2=>?_⟩
 ·rw[p.2,List.replicate_succ']
  congr 3
  show (!(Builtin.Str.occurrences ("0123" : Str) (⟨#[z.cps.getD i 0]⟩:Str) 0 ("0123" : Str).length 1).isEmpty)=true
  rw[PySem.StrLaws.found_one];exact IC ((G4 _).mpr (tJ hz hi))
 ·obtain⟨rfl,rfl⟩:=p;refine⟨D,List.replicate z.length true,rfl,SqL.of (by rw[ag,List.map_replicate]),?_⟩;rw[show (List.replicate z.length true).all id=true by simp];exact q _ (ah.new G _)
 ·obtain⟨v,e,x,y,O,Y,h5⟩:=aO h2;exact aW e ⟨x,y,O,Y,h1 _ _ h5⟩
abbrev jL:Stmt:=top 15
theorem tN:aE ["code"] ["code"] (aq jL):={}
def fP:Sp:=fun vs H Q _=>∃z,vs=[.str z]/\IsC z/\z.length<=40/\∀H',ah H H'->Q .non H'
theorem tZ (T:Tx K mg)(q:bS CX)(F:bD K "need_code" "need_code" jL f fd .none)(B:Fok P w K mg base CX 1 "is_code" ["thing"] [] pU):bB P w K mg base CX 2 f fd ["code"] fP:=by
 refine F.ok tN (fun vs H Q E h=>?_) (fun G A outer s H vs Q E J h=>?_)
 ·obtain⟨x,rfl,_⟩:=h;rfl
 obtain⟨z,rfl,hz,O,Y⟩:=h;refine⟨_,(af (aT (ce (bL (ai B q J (aa (pv 0) ae)))) (af mB) aF)),?_⟩;exact⟨z,rfl,hz,O,fun H' sm=>ay (dv (Y H' sm))⟩
abbrev jK:Stmt:=top 16
theorem tM:aE ["side"] ["side"] (aq jK):={}
def mh:Sp:=fun vs H Q _=>∃z,vs=[.str z]/\yx z/\Q .non H
theorem tY (T:Tx K mg)(q:bS CX)(F:bD K "need_side" "need_side" jK f fd .none)(B:Fok P w K mg base CX 1 "is_side" ["thing"] [] pT):bB P w K mg base CX 2 f fd ["side"] mh:=by
 refine F.ok tM (fun vs H Q E h=>?_) (fun G A outer s H vs Q E J h=>?_)
 ·obtain⟨x,rfl,_⟩:=h;rfl
 obtain⟨z,rfl,hz,O⟩:=h;exact⟨_,(af (aT (ce (bL (ai B q J (aa (pv 0) ae)))) (af mB) aF)),z,rfl,hz,ay (dv O)⟩
theorem Gu (b:List Nat):∀a:Nat,b.foldl (fun a d=>a*2+d%2) a=a*2^b.length+cxs b:=by
 unfold cxs
 induction b with
 |nil=>intro a;simp
 |cons d r ih=>
  intro a;simp only[Kf,Jb];rw[ih (a*2+d%2),ih (0*2+d%2),JG,JZ,JZ];rw[show a*2*2^r.length=a*(2^r.length*2) by rw[KZ,KH 2]]
  lia
theorem Gs (b:List Nat):∀a:Nat,b.foldl (fun a d=>a*2+d/2) a=a*2^b.length+cys b:=by
 unfold cys
 induction b with
 |nil=>intro a;simp
 |cons d r ih=>
  intro a;simp only[Kf,Jb];rw[ih (a*2+d/2),ih (0*2+d/2),JG,JZ,JZ];rw[show a*2*2^r.length=a*(2^r.length*2) by rw[KZ,KH 2]]
  lia
theorem uV (a b:List Nat):cxs (a++b)=cxs a*2^b.length+cxs b:=by
 rw[<-Gu b (cxs a)];unfold cxs;rw[Ka]
theorem uR (a b:List Nat):cys (a++b)=cys a*2^b.length+cys b:=by
 rw[<-Gs b (cys a)];unfold cys;rw[Ka]
theorem fD (d:Nat)(b:List Nat):cxs (d::b)=d%2*2^b.length+cxs b:=by
 have:=uV [d] b
 rw[show cxs [d]=d%2 by simp[cxs]]at this;exact this
theorem fC (d:Nat)(b:List Nat):cys (d::b)=d/2*2^b.length+cys b:=by
 have:=uR [d] b
 rw[show cys [d]=d/2 by simp[cys]]at this;exact this
theorem uT (b:List Nat):cxs b<2^b.length:=by
 induction b with
 |nil=>decide
 |cons d r ih=>
  rw[fD,Jb,JG];have h:d%2*2^r.length<=1*2^r.length:=KQ _ (by lia)
  lia
theorem uP (b:List Nat)(B:∀d∈b,d<4):cys b<2^b.length:=by
 induction b with
 |nil=>decide
 |cons d r G=>
  have ih':=G fun e J=>B e (IA _ J);have O:=B d IF;rw[fC,Jb,JG];have h:d/2*2^r.length<=1*2^r.length:=KQ _ (by lia)
  lia
theorem yq {b c B m k:Int}{u v:Int}(h:B=b-c)(g:v=u-c*(m-1)):B*m+v=b*m+u-c*(m*2-1):=by
 subst h g;rw[Int.sub_mul,Int.mul_sub,Int.mul_sub]
 have:c*(m*2)=c*m+c*m:=by rw[<-Int.mul_assoc,Int.mul_comm (c*m) 2];lia
 lia
theorem vC {b c B m:Int}{u v:Int}(h:B=b+c)(g:v=u-c*(m-1)):B*m+v=b*m+u+c:=by
 subst h g;rw[Int.add_mul,Int.mul_sub]
 lia
theorem yO (d:Nat)(ds:List Nat):one d++txt ds=txt (d::ds):=by
 apply l_
 show (#[48+d]++(ds.map (48 + ·)).toArray).toList=_;simp[txt]
theorem DC {n:Nat}(h:n<=40):Builtin.Range.small ((n:Int)-1) (-1) (-1)=true/\Builtin.Range.rangeSize ((n:Int)-1) (-1) (-1)=(n:Int):=by
 have e:∀m:Nat,m<41->Builtin.Range.small ((m:Int)-1) (-1) (-1)=true/\Builtin.Range.rangeSize ((m:Int)-1) (-1) (-1)=(m:Int):=by decide +kernel
 exact e n (by lia)
abbrev qd:Stmt:=top 23
theorem fW:aE ["code","side","crossing","behind","at","sign"] ["code","side"] (aq qd):={}
inductive rB  (vs:List V)(H:Hp)(Q:VK):Prop
 |mk (z side s1 s2:Str) (dx dy:Int) (h_0:vs=[.str z,.str side]) (h_1:Dir side s1 s2 dx dy) (h_2:IsC z) (h_3:z.length<=40) (h_4:∀H',ah H H' ->   (∀y,IsC y->y.length=z.length->((cxs (dig y):Nat):Int)=((cxs (dig z):Nat):Int)+dx->((cys (dig y):Nat):Int)=((cys (dig z):Nat):Int)+dy->Q (.str y) H') /\   (∀x' y':Nat,x'<2^z.length->y'<2^z.length->(x':Int)=((cxs (dig z):Nat):Int)-dx*(((2^z.length:Nat):Int)-1)->(y':Int)=((cys (dig z):Nat):Int)-dy*(((2^z.length:Nat):Int)-1)->Q .non H')):rB  vs H Q
def r_:Sp:=fun vs H Q _=>rB  vs H Q
theorem wF (U:Ty P w K mg)(h:Dir side s1 s2 dx dy):∃a kvs p,mg "CROSSINGS" = some (.ref a)/\KD P w K a kvs/\bo kvs (.inr side)=some (.ref p)/\KTu K p [.str s1,.str s2]:=by
 obtain⟨a,G,J,p2,O,g,B,Y,k1,k2,k3⟩:=U.cross;rcases h with⟨rfl,rfl,rfl,_⟩|⟨rfl,rfl,rfl,_⟩|⟨rfl,rfl,rfl,_⟩|⟨rfl,rfl,rfl,_⟩<;>exact⟨a,_,_,g,B,by with_unfolding_all rfl,by assumption⟩
theorem Ah (T:Tx K mg)(U:Ty P w K mg)(q:bS CX)(F:bD K "beside" "beside" qd f fd .none)(G:Fok P w K mg base CX 2 "need_code" ["code"] [] fP)(J:Fok P w K mg base CX 2 "need_side" ["side"] [] mh):
  bB P w K mg base CX 3 f fd ["code","side"] r_:=by
 refine F.ok fW (fun vs H Q E h=>?_) (fun b6 A outer s H vs Q E hr h=>?_)
 ·obtain⟨_,_,_,_,_,_,rfl,_⟩:=h;rfl
 obtain⟨aC,_,_,_,_,B,_⟩:=U.cross;refine⟨_,(ab (ba (ai G q hr (aa (pv 0) ae))) (ab (ba (ai J q hr (aa (pv 1) ae))) (ab (au (i:=2) fW (yL (ko (v:=.ref _) rfl B rfl) (pv 1) (fun _ _=>rfl))) (ab (au (i:=3) fW i_) (ab (aN II rfl (zU rfl T.b_range (aa (aj cT (av aY rfl T.b_len bN (aa (pv 0) ae)) ac) (aa (EY AX ac) (aa (EY AX ac) ae)))) (aP (i:=4) fW) (ab (au (i:=5) fW (aD qL (pv 0) (pv 4))) (ab (au (i:=3) fW (aj fh (aD qL (aD aI (pv 2) ac) (cq eA rfl T.b_int fL (aa (pv 5) ae))) (pv 3))) (af (aT (aJ kq (pv 5) (aD aI (pv 2) ac) (by with_unfolding_all rfl)) (af (aB (aj fh (jT xj (pv 0) mD (mC (pv 4))) (pv 3)))) aF))))) (af (aB xA))))))),?_⟩;obtain⟨z,O,s1,s2,dx,dy,e0,hd,hz,hl,q'⟩:=h;subst e0;obtain⟨b2,kvs,p,g2,kd,kv,kp⟩:=wF U hd;have eC:aC=b2:=by
  rw[B]at g2;injection g2 with g2;injection g2 with g2
 subst eC;obtain⟨l1,st⟩:=Gq hd;have hs:z.length<=sizeLine:=small (by lia);refine⟨z,rfl,hz,by omega,fun H1 a5=>?_⟩;refine⟨O,rfl,CK hd,?_⟩;refine⟨aC,kvs,.inr O,.ref p,rfl,rfl,kd,kv,?_⟩;obtain⟨r1,r2⟩:=DC hl;refine⟨_,_,rfl,⟨hs,rfl⟩,_,rfl,_,rfl,_,_,_,z.length,rfl,by decide,⟨by decide,by decide⟩,r1,r2,pG (fun i σ H2=>i<=z.length/\H2=H1/\∃(S:List Nat) (b:Str) (v4 v5:OW9),S.length=i/\(∀d∈S,d<4) /\
  ((cxs S:Nat):Int)=((cxs ((dig z).drop (z.length-i)):Nat):Int)-dx*(((2^i:Nat):Int)-1)/\((cys S:Nat):Int)=((cys ((dig z).drop (z.length-i)):Nat):Int)-dy*(((2^i:Nat):Int)-1)/\b=txt S /\
  σ=[some (.str z),some (.str O),some (.ref p),some (.str b),v4,v5]) ⟨IG _,rfl,[],_,none,none,rfl,(fun _ h=>by cases h),?_,?_,qR,rfl⟩ ?_ ?_⟩
 ·rw[Lc,List.drop_of_length_le (by rw[dO];exact Iw _)];simp[cxs]
 ·rw[Lc,List.drop_of_length_le (by rw[dO];exact Iw _)];simp[cys]
 ·rintro i σ H2 hi ⟨_,rfl,S,b,v4,v5,hS,a1,hx,hy,rfl,rfl⟩;obtain⟨k,hk⟩:∃k,z.length-i=k+1:=⟨z.length-1-i,by lia⟩;have Y:k<z.length:=by lia
  have ek:(z.length:Int)-1+(i:Int) * -1=(k:Int):=by lia
  have a6:z.length-(i+1)=k:=by lia
  obtain⟨d,a7,e1,e2⟩:=mr hz Y;have b7:=tJ hz Y;have b3:z.cps.toList[k]? = some (48+d):=by
   have b4:k<z.cps.size:=Y;have e3:z.cps.getD k 0=48+d:=by lia
   rw[<-e3];simp[JT,b4]
  have a2:(dig z).drop k=d::(dig z).drop (k+1):=by
   have a8:k<(dig z).length:=by rw[dO];exact Y
   have e4:=uN Y;rw[e2]at e4;rw[JM a8]
   congr 1
   rw[IE a8]at e4;exact Option.some.inj e4
  have a0:((dig z).drop (k+1)).length=i:=by rw[JX,dO];lia
  obtain⟨e,b5,a9,b0⟩:=st d a7;have b1:∀c∈e::S,c<4:=fun c hc=>by
   rcases IP.mp hc with rfl|hc
   ·exact b5
   ·exact a1 c hc
  rw[hk]at hx hy;dsimp only;rw[ek];refine⟨z,_,48+d,rfl,rfl,hs,bG b3,?_⟩;refine⟨p,_,0,_,rfl,rfl,kp.sq,rfl,_,(d:Int),rfl,mR a7,(by show 1<=640;decide),s1,_,48+e,rfl,rfl,l1,a9,_,_,rfl,rfl,small (by rw[fj];show 1+S.length<=1000;lia),?_⟩;have eo:(⟨#[48+e]⟩:Str)++txt S=txt (e::S):=yO e S;rw[eo];refine⟨p,_,1,_,rfl,rfl,kp.sq,rfl,_,_,rfl,rfl,ay (ci (fun c=>?_) (fun c=>?_))⟩
  ·have c':occ s2 (one d)=true:=c;rcases b0 with⟨_,a3,a4⟩ | ⟨hf,_⟩
   ·refine⟨_,rfl,z,rfl,hs,_,_,rfl,rfl,?_,?_⟩
    ·rw[kj];refine small ?_;rw[yJ,fj,Jb];lia
    ·rw[kj];have dz:dig z=(dig z).take k++(d::(dig z).drop (k+1)):=by rw[<-a2,Ju]
     refine (q' H2 a5).1 _ (IsC.app (yK hz k) (yg b1)) ?_ ?_ ?_
     ·rw[vc,yJ,fj,Jb];lia
     ·rw[pI,qT,fU,uV,fD,Jb,hS]
      conv=>rhs;rw[dz]
      rw[uV,fD,Jb,a0]
      have:=vC (m:=((2^i:Nat):Int)) a3 hx
      simp only[Ky,JS]at this ⊢
      lia
     ·rw[pI,qT,fU,uR,fC,Jb,hS]
      conv=>rhs;rw[dz]
      rw[uR,fC,Jb,a0]
      have:=vC (m:=((2^i:Nat):Int)) a4 hy
      simp only[Ky,JS]at this ⊢
      lia
   ·rw[c']at hf;cases hf
  ·have c':¬ occ s2 (one d)=true:=c;rcases b0 with⟨ht,_⟩ | ⟨_,a3,a4⟩
   ·exact absurd ht c'
   ·refine⟨by assumption,rfl,e::S,_,_,_,by rw[Jb,hS],b1,?_,?_,rfl,rfl⟩
    ·rw[a6,a2,fD,fD,hS,a0,JG]
     have:=yq (k:=0) (m:=((2^i:Nat):Int)) a3 hx
     simp only[Ky,JS]at this ⊢;exact this
    ·rw[a6,a2,fC,fC,hS,a0,JG]
     have:=yq (k:=0) (m:=((2^i:Nat):Int)) a4 hy
     simp only[Ky,JS]at this ⊢;exact this
 ·rintro σ H2 ⟨_,rfl,S,b,v4,v5,hS,a1,hx,hy,rfl,rfl⟩;rw[L1,LB]at hx hy;exact (q' H2 a5).2 (cxs S) (cys S) (by rw[<-hS];exact uT S) (by rw[<-hS];exact uP S a1) hx hy
abbrev gB:Stmt:=top 31
theorem dI:aE ["tree","code","near","row","sign"] ["tree","code","near"] (aq gB):={}
inductive iU  (m:Nat)(vs:List V)(H:Hp)(Q:VK):Prop
 |mk (v:V) (t:Tr) (z y:Str) (k:Nat) (h_0:vs=[v,.str z,.str y]) (h_1:cM H v t) (h_2:bc k t) (h_3:IsC z) (h_4:z.length+k<=100) (h_5:IsC y) (h_6:rm (dig y)) (h_7:k<m) (h_8:m<=41) (h_9:cnt t<=4000) (h_10:∀l H',ah H H'->H l=none->H' l=some (.lst ((fF (dig y) (dig z) t).map sV))->Q (.ref l) H'):iU m vs H Q
def fH  (m:Nat):Sp:=fun vs H Q _=>iU m vs H Q
theorem jv (T:Tx K mg)(q:bS CX)(F:bD K "leaves_along" "leaves_along" gB f fd .none)(b:eU K fd ["tree","code","near"] [])(m:mg "leaves_along" = some (.ref f)):
  ∀n,bB P w K mg base CX (1+n) f fd ["tree","code","near"] (fH n)
 |0=>by
  refine F.ok dI (fun vs H Q E h=>?_) (fun a0 A outer s H vs Q E hr h=>?_)
  ·obtain⟨_,_,_,_,_,rfl,_⟩:=h;rfl
  obtain⟨_,_,_,_,_,_,_,_,_,_,_,_,h,_⟩:=h;exact absurd h (Kv _)
 |m'+1=>by
  have B:Fok P w K mg base CX (1+m') "leaves_along" ["tree","code","near"] [] (fH m'):=fok F (jv T q F b m m') b m
  refine F.ok dI (fun vs H Q E h=>?_) (fun a0 A outer s H vs Q E hr h=>?_)
  ·obtain⟨_,_,_,_,_,rfl,_⟩:=h;rfl
  obtain⟨v,t,z,y,k,rfl,ht,gt,hz,hl,hy,hn,hk,hm,hc,q'⟩:=h;refine⟨_,(ab (aT (ce (bL (av (aQ "tuple") rfl T.b_isinstance aH (aa (pv 0) (aa (cm T.b_tuple fE) ae))))) (af (aB (bg (am (pv 1) ak)))) aF) (ab (au (i:=3) dI (bg ak)) (ab (aN II rfl (tT (pv 2)) (aP (i:=4) dI) (af (ba (vT PySem.F.plainAttrs_list PySem.F.slot_list_extend PySem.F.type_list_extend nM (pv 3) (aa (ai B q hr (aa (aD aI (pv 0) (cq eA rfl T.b_int fL (aa (pv 4) ae))) (aa (aj fh (pv 1) (pv 4)) (aa (pv 2) ae))) (hj:=by first | decide | simp | (simp only[Nat.add_eq];lia))) ae))))) (af (aB (pv 3)))))),?_⟩
  have ly:y.length=2:=by
   rw[<-dO];rcases hn with h | h | h | h<;>rw[h]<;>rfl
  cases ht with
  |col i=>
   refine⟨_,_,_,rfl,.int _,qK,ay (oP ?_)⟩;refine⟨(leZ rfl),fun l G=>?_⟩;refine q' l _ (ah.new G _) G ?_;rw[ag];show some (HO.lst [V.str z])=some (HO.lst [sV (dig z)]);rw[Br hz]
  | @four p xa xb xc xd ta tb tc td e ja jb jc jd=>
   rcases k with _|k
   ·exact gt.elim
   refine⟨_,_,_,rfl,.tup e,j5,ay (dv ?_)⟩;refine⟨(leZ rfl),nw fun l H1 J s1 u1=>?_⟩;have a1:((dig y).flatMap fun e=>fF (dig y) (dig z++[e]) (qk (.four ta tb tc td) e)).length<=4000:=by
    rw[<-jo];exact IU (f_ hn _ _) hc
   let J0:NS9:=fun (j:Nat) σ H2=>ah H H2/\j<=y.length/\∃(o:OW9),H2 l=some (.lst ((((dig y).take j).flatMap fun e=>fF (dig y) (dig z++[e]) (qk (.four ta tb tc td) e)).map sV))/\σ=[some (.ref p),some (.str z),some (.str y),some (.ref l),o]
   refine⟨y,rfl,pG J0 ⟨s1,IG _,none,u1,rfl⟩ ?_ ?_⟩
   ·rintro j σ H2 hj ⟨O,_,o,Y,rfl⟩;have hj':j<y.length:=hj;obtain⟨d,hd,e1,e2⟩:=mr hy hj';have ed:(dig y)[j]? = some d:=by rw[<-e2];exact uN hj'
    have key:∃x,atI [xa,xb,xc,xd] (d:Int)=some x/\cM H x (qk (.four ta tb tc td) d):=by
     rcases d with _|_|_|_|d
     ·exact⟨xa,rfl,ja⟩
     ·exact⟨xb,rfl,jb⟩
     ·exact⟨xc,rfl,jc⟩
     ·exact⟨xd,rfl,jd⟩
     ·lia
    obtain⟨x,k1,k2⟩:=key;have l1:(one d).length=1:=rfl;rw[e1];refine⟨.inl ⟨rfl,_,SqL.of Y⟩,_,(d:Int),rfl,mR hd,(by show 1<=640;decide),p,_,_,x,rfl,rfl,SqT.of (O _ _ e),k1,_,_,rfl,rfl,(by rw[l1];exact small (by lia)),x,_,z++one d,y,k,rfl,k2.up O.tups,gt.q d,IsC.app hz (IsC.one hd),by rw[vc,l1];lia,hy,hn,by lia,by lia,IU (xY _ d) hc,fun l2 H3 s3 a2 u3=>?_⟩;rw[pI,zi]at u3;have et:((dig y).take (j+1)).flatMap (fun e=>fF (dig y) (dig z++[e]) (qk (.four ta tb tc td) e))=((dig y).take j).flatMap (fun e=>fF (dig y) (dig z++[e]) (qk (.four ta tb tc td) e))++fF (dig y) (dig z++[d]) (qk (.four ta tb tc td) d):=by
     rw[Jf,ed,Jx];simp
    have n1:(((dig y).take j).flatMap fun e=>fF (dig y) (dig z++[e]) (qk (.four ta tb tc td) e)).length<=4000:=by
     refine IU ?_ a1;have fl:∀g:Nat->LN9,(((dig y).take j).flatMap g).length<=((dig y).flatMap g).length:=fun g=>by
      conv=>rhs;rw[<-Ju j (dig y),Jx,Iy]
      simp
     exact fl _
    have n2:=f_ hn (qk (.four ta tb tc td) d) (dig z++[d]);have n3:=xY (.four ta tb tc td) d;refine⟨l,l2,_,_,rfl,rfl,s3 _ _ Y,u3,big (by rw[Iq,Iq];lia),ah.set (O.trans s3) J _,by assumption,_,?_,rfl⟩;rw[ag,et,IT]
   ·rintro σ H2 ⟨O,_,o,Y,rfl⟩;rw[IS (by rw[dO];exact Iw _),<-jo]at Y;exact (q' l H2 O J Y)
def HB (H:Hp)(Q:VK)(z:Str)(t:Tr)(x:V):Prop :=
 ∃(side s1 s2:Str) (dx dy:Int),x=.str side/\Dir side s1 s2 dx dy /\
  (∀y,IsC y->y.length=z.length->((cxs (dig y):Nat):Int)=((cxs (dig z):Nat):Int)+dx->((cys (dig y):Nat):Int)=((cys (dig z):Nat):Int)+dy->∀l H',ah H H'->H l=none->H' l=some (.lst ((wz (dig s2) [] (dig y) t).map sV))->Q (.ref l) H') /\
  (∀x' y':Nat,x'<2^z.length->y'<2^z.length->(x':Int)=((cxs (dig z):Nat):Int)-dx*(((2^z.length:Nat):Int)-1)->(y':Int)=((cys (dig z):Nat):Int)-dy*(((2^z.length:Nat):Int)-1)->∀l H',ah H H'->H l=none->H' l=some (.lst [])->Q (.ref l) H')
abbrev iu:Stmt:=top 32
theorem c_:aE ["sheet","code","side","other","tree","signs"] ["sheet","code","side"] (aq iu):={}
def gm:Sp:=fun vs H Q E=>∃(ps:Addr) (n:Nat) (v x:V) (t:Tr) (z:Str),vs=[.ref ps,.str z,x]/\H ps=some (.tup [.int (n:Int),v])/\cM H v t/\bc n t/\n<=40/\cnt t<=4000/\IsC z/\z.length<=40/\HB H Q z t x
theorem qB (T:Tx K mg)(U:Ty P w K mg)(q:bS CX)(F:bD K "beyond_leaf" "beyond_leaf" iu f fd .none)(Y:Fok P w K mg base CX 3 "beside" ["code","side"] [] r_)(G:Fok P w K mg base CX 42 "leaves_along" ["tree","code","near"] [] (fH 41)):
  bB P w K mg base CX 43 f fd ["sheet","code","side"] gm:=by
 refine F.ok c_ (fun vs H Q E h=>?_) (fun b2 A outer s H vs Q E hr h=>?_)
 ·obtain⟨_,_,_,_,_,_,rfl,_⟩:=h;rfl
 obtain⟨ps,n,v,x,t,z,rfl,a3,ht,gt,hn,hc,hz,hl,h⟩:=h;obtain⟨aC,_,_,_,_,B,_⟩:=U.cross;refine⟨_,(ab (au (i:=3) c_ (ai Y q hr (aa (pv 1) (aa (pv 2) ae)))) (ab (aT (aJ FP (pv 3) xA) (af (aB (bg ak))) aF) (ab (au (i:=4) c_ (aD aI (pv 0) ac)) (ab (aN II rfl (bx rfl T.b_range (aa (av aY rfl T.b_len bN (aa (pv 3) ae)) ae)) (aP (i:=5) c_) (ab (aT (ce (bL (av (aQ "tuple") rfl T.b_isinstance aH (aa (pv 4) (aa (cm T.b_tuple fE) ae))))) (af (aB (bg (am (jT xj (pv 3) mD (mC (pv 5))) ak)))) aF) (af (au (i:=4) c_ (aD aI (pv 4) (cq eA rfl T.b_int fL (aa (aD qL (pv 3) (pv 5)) ae))))))) (af (aB (ai G q hr (aa (pv 4) (aa (pv 3) (aa (aD aI (yL (ko (v:=.ref _) rfl B rfl) (pv 2) (fun _ _=>rfl)) ac) ae)))))))))),?_⟩
 obtain⟨a0,s1,s2,dx,dy,rfl,hd,h1,h2⟩:=h;obtain⟨a4,kvs,pc,g2,kd,kv,kp⟩:=wF U hd;have eC:aC=a4:=by
  rw[B]at g2;injection g2 with g2;injection g2 with g2
 subst eC;obtain⟨a5,a6⟩:=CL hd;refine⟨z,a0,s1,s2,dx,dy,rfl,hd,hz,hl,fun H1 J=>⟨fun y hy ly ex ey=>?_,fun x' y' a7 a1 ex ey=>?_⟩⟩
 ·refine⟨rfl,ay (dv ?_)⟩;have a1:y.length<=sizeLine:=small (by lia);refine⟨ps,_,1,_,rfl,rfl,SqT.of (J _ _ a3),rfl,?_⟩
  let J1:NS9:=fun (i:Nat) σ H2=>H2=H1/\i<=y.length/\∃(v':V) (u:Tr) (o:OW9),jY t ((dig y).take i)=some u/\cM H1 v' u/\σ=[some (.ref ps),some (.str z),some (.str a0),some (.str y),some v',o]
  refine⟨_,_,rfl,⟨a1,rfl⟩,_,rfl,by simp,by lia,bV J1 ⟨rfl,IG _,v,t,none,rfl,ht.up J.tups,rfl⟩ ?_ ?_⟩
  ·rintro i σ H2 hi ⟨rfl,_,v',u,o,O,hu,rfl⟩;have hi':i<y.length:=by assumption
   rw[show (0:Int)+(i:Int)=(i:Int) by simp];cases hu with
   |col c=>
    refine⟨_,_,_,rfl,.int _,qK,ay (oP ?_)⟩;refine⟨_,rfl,y,rfl,a1,(leZ rfl),fun l a2=>?_⟩;rw[kj];refine h1 y hy ly ex ey l _ (J.trans (ah.new a2 _)) (ah.free J a2) ?_;rw[ag];have e1:wz (dig s2) [] (dig y) t=[(dig y).take i]:=by
     have e2:=nW (dig s2) ((dig y).take i) ((dig y).drop i) [] t _ O;rw[Ju,JL,JM (by rw[dO];exact hi')]at e2;exact e2
    rw[e1];show some (HO.lst [V.str (pre y i)])=some (HO.lst [V.str (txt ((dig y).take i))]);rw[Dl hy]
   | @four p xa xb xc xd ta tb tc td e ja jb jc jd=>
    refine⟨_,_,_,rfl,.tup e,j5,ay (dv ?_)⟩;obtain⟨d,a8,e1,e2⟩:=mr hy hi';have key:∃x,atI [xa,xb,xc,xd] (d:Int)=some x/\cM H2 x (qk (.four ta tb tc td) d):=by
     rcases d with _|_|_|_|d
     ·exact⟨xa,rfl,ja⟩
     ·exact⟨xb,rfl,jb⟩
     ·exact⟨xc,rfl,jc⟩
     ·exact⟨xd,rfl,jd⟩
     ·lia
    obtain⟨x,k1,k2⟩:=key;have ed:(dig y)[i]? = some d:=by rw[<-e2];exact uN hi'
    have b3:=tJ hy hi';have a9:y.cps.toList[i]? = some (48+d):=by
     have b0:i<y.cps.size:=hi';have e3:y.cps.getD i 0=48+d:=by lia
     rw[<-e3];simp[JT,b0]
    refine⟨y,_,48+d,rfl,rfl,a1,bG a9,_,(d:Int),rfl,mR a8,(by show 1<=640;decide),p,_,_,x,rfl,rfl,SqT.of e,k1,rfl,by assumption,x,_,_,Aj O ed,k2,rfl⟩
  ·rintro σ H2 ⟨rfl,_,v',u,o,O,hu,rfl⟩;rw[Jn,IS (by rw[dO];exact Iw _)]at O;obtain⟨gl,gu⟩:=sI _ _ _ _ gt O;rw[dO]at gl gu;refine⟨aC,kvs,.inr a0,.ref pc,rfl,rfl,kd,kv,pc,_,1,_,rfl,rfl,kp.sq,rfl,v',u,y,s2,n-y.length,rfl,hu,gu,hy,by lia,a5,a6,by lia,by simp,IU (wH _ _ _ O) hc,fun l H3 s3 b1 u3=>?_⟩;refine h1 y hy ly ex ey l H3 (J.trans s3) (ah.free J b1) ?_;have e2:=nW (dig s2) (dig y) [] [] t u O;rw[Jt,JL]at e2;rw[e2];exact u3
 ·refine⟨rfl,ay (oP ?_)⟩;exact⟨(leZ rfl),fun l a2=>h2 x' y' a7 a1 ex ey l _ (J.trans (ah.new a2 _)) (ah.free J a2) ag⟩
end
def nd (ax:Bool)(d:Nat):Nat:=if ax then d/2 else d%2
def td (ax:Bool)(d:Nat):Nat:=if ax then d%2 else d/2
def cn (ax:Bool)(r:List Nat):Nat:=if ax then cys r else cxs r
def ct (ax:Bool)(r:List Nat):Nat:=if ax then cxs r else cys r
def nC (ax:Bool)(x y:Nat):Nat:=if ax then y else x
def tC' (ax:Bool)(x y:Nat):Nat:=if ax then x else y
def gO (ax s:Bool)(N1 T1 W x y w:Nat):Prop:=(if s then nC ax x y+w=N1 else nC ax x y=N1+W)/\T1<tC' ax x y+w/\tC' ax x y<T1+W
instance (ax s:Bool) (N1 T1 W x y w:Nat):Decidable (gO ax s N1 T1 W x y w):=by unfold gO;infer_instance
def fl (P:Nat->Nat->Nat->Bool):List Nat->Tr->Nat->Nat->Nat->LN9
 |p,.col _,x,y,k=>if P x y (2^k) then [p] else []
 |p,.four a b c d,x,y,k=>fl P (p++[0]) a x y (k-1)++(fl P (p++[1]) b (x+2^(k-1)) y (k-1)++(fl P (p++[2]) c x (y+2^(k-1)) (k-1)++fl P (p++[3]) d (x+2^(k-1)) (y+2^(k-1)) (k-1)))
def iz (ax s:Bool):List Nat:=match ax,s with
 |true,true=>[2,3]
 |true,false=>[0,1]
 |false,true=>[1,3]
 |false,false=>[0,2]
def vg (ax s:Bool)(N1 T1 W x y K:Nat):Prop:=tC' ax x y+K<=T1\/T1+W<=tC' ax x y\/(if s then (N1<=nC ax x y\/nC ax x y+K<N1) else (N1+W<nC ax x y\/nC ax x y+K<=N1+W))
theorem Ey {B G W x y K:Nat}(J:0<K)(h:vg ax s B G W x y K):¬ gO ax s B G W x y K:=by
 unfold vg at h;unfold gO;cases ax<;>cases s<;>simp only[nC,tC',if_true,if_false,IQ]at h ⊢<;>lia
theorem kw (f:vg ax s N1 T1 W x y (2*h))(dx B:Nat)(G:dx=0\/dx=h)(J:B=0\/B=h):vg ax s N1 T1 W (x+dx) (y+B) h:=by
 unfold vg at f ⊢;cases ax<;>cases s<;>simp only[nC,tC',if_true,if_false,IQ]at f ⊢<;>lia
theorem eu:∀(u:Tr) (p:List Nat) (x y k:Nat),bc k u->vg ax s N1 T1 W x y (2^k)->fl (fun x y w=>decide (gO ax s N1 T1 W x y w)) p u x y k=[]
 | .col _,p,x,y,k,_,f=>by
  show (if decide (gO ax s N1 T1 W x y (2^k))=true then [p] else [])=[];rw[if_neg (by rw[decide_eq_true_eq];exact Ey (Ku k) f)]
 | .four a b c d,p,x,y,0,g,_=>g.elim
 | .four a b c d,p,x,y,k+1,⟨ga,gb,gc,gd,_⟩,f=>by
  rw[JG,KH]at f;have B:=kw f 0 0 (.inl rfl) (.inl rfl);have G:=kw f (2^k) 0 (.inr rfl) (.inl rfl);have J:=kw f 0 (2^k) (.inl rfl) (.inr rfl);have O:=kw f (2^k) (2^k) (.inr rfl) (.inr rfl);show fl _ (p++[0]) a (x+0) (y+0) k++(fl _ (p++[1]) b (x+2^k) (y+0) k++(fl _ (p++[2]) c (x+0) (y+2^k) k++fl _ (p++[3]) d (x+2^k) (y+2^k) k))=[];rw[eu a _ _ _ k ga B,eu b _ _ _ k gb G,eu c _ _ _ k gc J,eu d _ _ _ k gd O];rfl
def wQ (ax s:Bool)(N1 T1 W x y K:Nat):Prop:=T1<=tC' ax x y/\tC' ax x y+K<=T1+W/\(if s then nC ax x y+K=N1 else nC ax x y=N1+W)
theorem je (f:wQ ax s N1 T1 W x y (2*h))(dx B:Nat)(G:dx=0\/dx=h)(J:B=0\/B=h):(nC ax dx B=(if s then h else 0)->wQ ax s N1 T1 W (x+dx) (y+B) h)/\(nC ax dx B≠(if s then h else 0)->vg ax s N1 T1 W (x+dx) (y+B) h):=by
 unfold wQ vg at *;cases ax<;>cases s<;>simp only[nC,tC',if_true,if_false,IQ]at f ⊢<;>lia
theorem fT:∀(u:Tr) (p:List Nat) (x y k:Nat),bc k u->wQ ax s N1 T1 W x y (2^k)->fl (fun x y w=>decide (gO ax s N1 T1 W x y w)) p u x y k=fF (iz ax s) p u
 | .col _,p,x,y,k,_,f=>by
  show (if decide (gO ax s N1 T1 W x y (2^k))=true then [p] else [])=[p];have Y:=Ku k;generalize 2^k=K at *;rw[if_pos];rw[decide_eq_true_eq];unfold wQ at f;unfold gO;cases ax<;>cases s<;>simp only[nC,tC',if_true,if_false,IQ]at f ⊢<;>lia
 | .four a b c d,p,x,y,0,g,_=>g.elim
 | .four a b c d,p,x,y,k+1,⟨ga,gb,gc,gd,_⟩,f=>by
  rw[JG,KH]at f;have Y:=Ku k;rw[jo];show fl _ (p++[0]) a (x+0) (y+0) k++(fl _ (p++[1]) b (x+2^k) (y+0) k++(fl _ (p++[2]) c (x+0) (y+2^k) k++fl _ (p++[3]) d (x+2^k) (y+2^k) k))=_;have B:=je f 0 0 (.inl rfl) (.inl rfl);have G:=je f (2^k) 0 (.inr rfl) (.inl rfl);have J:=je f 0 (2^k) (.inl rfl) (.inr rfl);have O:=je f (2^k) (2^k) (.inr rfl) (.inr rfl);have g:=Kk Y;have l:=I0 Y;cases ax<;>cases s
  ·rw[fT a _ _ _ k ga (B.1 rfl),eu b _ _ _ k gb (G.2 g),fT c _ _ _ k gc (J.1 rfl),eu d _ _ _ k gd (O.2 g)];simp[iz,qk,q0,q2]
  ·rw[eu a _ _ _ k ga (B.2 l),fT b _ _ _ k gb (G.1 rfl),eu c _ _ _ k gc (J.2 l),fT d _ _ _ k gd (O.1 rfl)];simp[iz,qk,q1,q3]
  ·rw[fT a _ _ _ k ga (B.1 rfl),fT b _ _ _ k gb (G.1 rfl),eu c _ _ _ k gc (J.2 g),eu d _ _ _ k gd (O.2 g)];simp[iz,qk,q0,q1]
  ·rw[eu a _ _ _ k ga (B.2 l),eu b _ _ _ k gb (G.2 l),fT c _ _ _ k gc (J.1 rfl),fT d _ _ _ k gd (O.1 rfl)];simp[iz,qk,q2,q3]
theorem Go (J:e<4)
  (B:∀d',d'<4->d'≠e->fl P (p++[d']) (qk (.four a b c d) d') (x+d'%2*2^k) (y+d'/2*2^k) k=[])
  (h1:fl P (p++[e]) (qk (.four a b c d) e) (x+e%2*2^k) (y+e/2*2^k) k=R):fl P p (.four a b c d) x y (k+1)=R:=by
 have G:fl P p (.four a b c d) x y (k+1)=fl P (p++[0]) (qk (.four a b c d) 0) (x+0%2*2^k) (y+0/2*2^k) k++(fl P (p++[1]) (qk (.four a b c d) 1) (x+1%2*2^k) (y+1/2*2^k) k ++
   (fl P (p++[2]) (qk (.four a b c d) 2) (x+2%2*2^k) (y+2/2*2^k) k++fl P (p++[3]) (qk (.four a b c d) 3) (x+3%2*2^k) (y+3/2*2^k) k)):=by
  simp[fl,qk,q0,q1,q2,q3]
 rw[G];rcases e with _ | _ | _ | _ | e
 ·rw[h1,B 1 (by decide) (by decide),B 2 (by decide) (by decide),B 3 (by decide) (by decide)];simp
 ·rw[h1,B 0 (by decide) (by decide),B 2 (by decide) (by decide),B 3 (by decide) (by decide)];simp
 ·rw[h1,B 0 (by decide) (by decide),B 1 (by decide) (by decide),B 3 (by decide) (by decide)];simp
 ·rw[h1,B 0 (by decide) (by decide),B 1 (by decide) (by decide),B 2 (by decide) (by decide)];simp
 ·lia
theorem Hr (B:d<4):nC ax (x+d%2*h) (y+d/2*h)=nC ax x y+nd ax d*h/\tC' ax (x+d%2*h) (y+d/2*h)=tC' ax x y+td ax d*h/\nd ax d<2/\td ax d<2:=by
 cases ax<;>refine⟨rfl,rfl,?_,?_⟩<;>simp only[nd,td,if_true,if_false,IQ]<;>lia
theorem Fc (B:d<4)(G:e<4)(h:d≠e):nd ax d≠nd ax e\/td ax d≠td ax e:=by
 cases ax<;>simp only[nd,td,if_true,if_false,IQ]<;>lia
theorem C1 (ax:Bool)(e:Nat)(r:List Nat):cn ax (e::r)=nd ax e*2^r.length+cn ax r/\ct ax (e::r)=td ax e*2^r.length+ct ax r:=by
 cases ax<;>simp only[cn,ct,nd,td,if_true,if_false,IQ]<;>exact⟨by first | exact fD e r | exact fC e r,by first | exact fD e r | exact fC e r⟩
theorem Ht (ax:Bool)(B:∀d∈r,d<4):cn ax r<2^r.length/\ct ax r<2^r.length:=by
 cases ax<;>simp only[cn,ct,if_true,if_false,IQ]<;>exact⟨by first | exact uT r | exact uP r B,by first | exact uT r | exact uP r B⟩
theorem tW {c m W:Nat}(h:c<m):c*W+W<=m*W:=by
 have:=KQ W (show c+1<=m from h)
 rw[JZ,LL]at this;exact this
def AlP (ax s:Bool)(N1 W x y K:Nat):Prop:=if s then nC ax x y+K=N1 else nC ax x y=N1+W
theorem Fb {ax s:Bool}{G T1:Nat}{j:Nat}:∀(r:List Nat) (u:Tr) (p:List Nat) (x y:Nat),(∀d∈r,d<4)->bc (r.length+j) u->T1=tC' ax x y+ct ax r*2^j ->
  (if s then nC ax x y+cn ax r*2^j+2^j=G else nC ax x y+cn ax r*2^j=G+2^j) ->
  (AlP ax s G (2^j) x y (2^(r.length+j))\/∃(z:List Nat) (c:Int),(z.length=r.length/\(∀d∈z,d<4)/\jY u z=some (.col c)/\T1=tC' ax x y+ct ax z*2^j/\G=nC ax x y+cn ax z*2^j)) ->
  fl (fun x y w=>decide (gO ax s G T1 (2^j) x y w)) p u x y (r.length+j)=wz (iz ax s) p r u
 | [],u,p,x,y,_,g,hT,hN,B=>by
  have e0:ct ax []=0/\cn ax []=0:=by cases ax<;>exact⟨rfl,rfl⟩
  rw[L5,KG]at g ⊢;rw[e0.1,L0,Lu]at hT;rw[e0.2,L0,Lu]at hN;exact fT u p x y j g ⟨by lia,by lia,hN⟩
 |e::r,.col c,p,x,y,h4,g,hT,hN,B=>by
  show (if decide (gO ax s G T1 (2^j) x y (2^((e::r).length+j)))=true then [p] else [])=[p];rw[if_pos];rw[decide_eq_true_eq];have pj:=Ku j;have le:=tW (W:=2^j) (Ht ax h4).2;rw[<-LK]at le;rcases B with B | ⟨z,c',hz,_,nz,_⟩
  ·exact⟨B,by lia,by lia⟩
  ·cases z
   ·cases hz
   ·cases nz
 |e::r,.four a b c d,p,x,y,h4,g,hT,hN,B=>by
  have he:=h4 e IF;have h4':∀d∈r,d<4:=fun d hd=>h4 d (IA _ hd);have pj:=Ku j;have sz:∀{l:List Nat},l.length=r.length->(∀d∈l,d<4)->cn ax l*2^j+2^j<=2^(r.length+j)/\ct ax l*2^j+2^j<=2^(r.length+j):=fun e h=>by
   have:=Ht ax h
   rw[e]at this;rw[LK];exact⟨tW this.1,tW this.2⟩
  obtain⟨l1,l2⟩:=sz rfl h4';have ec:=fun e (l:List Nat) (h:l.length=r.length)=>show cn ax (e::l)*2^j=nd ax e*2^(r.length+j)+cn ax l*2^j/\ct ax (e::l)*2^j=td ax e*2^(r.length+j)+ct ax l*2^j by
   rw[(C1 ax e l).1,(C1 ax e l).2,h,JZ,JZ,KZ,KZ,<-LK];exact⟨rfl,rfl⟩
  have ek:(e::r).length+j=(r.length+j)+1:=by rw[Jb];lia
  rw[ek]at g B ⊢;rw[(ec e r rfl).2]at hT;rw[(ec e r rfl).1]at hN;rw[JG]at B;have dg:=fun {d}=>Hr (ax:=ax) (d:=d) (x:=x) (y:=y) (h:=2^(r.length+j));obtain⟨en,et,ln,a4⟩:=dg he;refine Go he (fun d' O a0=>eu _ _ _ _ _ (g.q d') ?_) (Fb r _ _ _ _ h4' (g.q e) (by rw[et];lia) (by rw[en];cases s<;>simp only[if_true,if_false,IQ]at hN ⊢<;>lia) ?_)
  ·obtain⟨a1,a2,a3,lt'⟩:=dg O;have c4:=Fc (ax:=ax) O he a0;unfold vg;rw[a1,a2];generalize td ax e=E1,td ax d'=E2,nd ax e=E3,nd ax d'=Y at *;by_cases c:E2=E1
   ·cases s<;>simp only[if_true,if_false,IQ]at hN ⊢<;>rcases (show (E3=0/\Y=1)\/(E3=1/\Y=0) by lia) with⟨rfl,rfl⟩ | ⟨rfl,rfl⟩<;>refine .inr (.inr ?_)<;>lia
   ·refine or_assoc.mp (.inl ?_);rcases (show (E1=0/\E2=1)\/(E1=1/\E2=0) by lia) with⟨rfl,rfl⟩ | ⟨rfl,rfl⟩<;>lia
  ·unfold AlP at *;rw[en,et];rcases B with B | ⟨z,c',hz,z4,nz,zT,zN⟩
   ·left
    cases s<;>simp only[if_true,if_false,IQ]at hN B ⊢<;>rcases (show nd ax e=0\/nd ax e=1 by lia) with c | c<;>rw[c]at hN ⊢<;>lia
   ·obtain⟨J,z,rfl⟩:=List.exists_cons_of_length_eq_add_one hz;have hz':z.length=r.length:=by simpa using hz
    have he':=z4 J IF;have z4':∀d∈z,d<4:=fun d hd=>z4 d (IA _ hd);obtain⟨m1,m2⟩:=sz hz' z4';rw[(ec J z hz').2]at zT;rw[(ec J z hz').1]at zN;by_cases ee:J=e
    ·subst ee;exact .inr ⟨z,c',hz',z4',nz,by lia,by lia⟩
    ·left
     have c4:=Fc (ax:=ax) he' he ee;obtain⟨_,_,a3,lt'⟩:=dg he';generalize td ax e=E1,td ax J=E2,nd ax e=E3,nd ax J=Y at *;have c:E2=E1:=by rcases (show E1=0\/E1=1 by lia) with rfl | rfl<;>rcases (show E2=0\/E2=1 by lia) with rfl | rfl<;>lia
     clear hT zT l2 m2
     cases s<;>simp only[if_true,if_false,IQ]at hN ⊢<;>rcases (show (E3=0/\Y=1)\/(E3=1/\Y=0) by lia) with⟨rfl,rfl⟩ | ⟨rfl,rfl⟩<;>lia
theorem uC {K:Frag}:kitOne K (.type "list") (.type "list")=some true:=by kernel_rfl
structure Sq where
 z:List Nat
 c:Int
 x:Nat
 y:Nat
 w:Nat
def sqs:List Nat->Tr->Nat->Nat->Nat->List Sq
 |p,.col c,x,y,k=>[⟨p,c,x,y,2^k⟩]
 |p,.four a b c d,x,y,k=>sqs (p++[0]) a x y (k-1)++(sqs (p++[1]) b (x+2^(k-1)) y (k-1)++(sqs (p++[2]) c x (y+2^(k-1)) (k-1)++sqs (p++[3]) d (x+2^(k-1)) (y+2^(k-1)) (k-1)))
theorem dD:∀(t:Tr) (p:List Nat) (x y k:Nat),(sqs p t x y k).length=cnt t
 | .col _,_,_,_,_=>rfl
 | .four a b c d,p,x,y,k=>by
  show (sqs _ a _ _ _++(sqs _ b _ _ _++(sqs _ c _ _ _++sqs _ d _ _ _))).length=cnt a+cnt b+cnt c+cnt d;simp only[Iy,dD a,dD b,dD c,dD d]
  lia
theorem nU (P:Nat->Nat->Nat->Bool):∀(t:Tr) (p:List Nat) (x y k:Nat),fl P p t x y k=((sqs p t x y k).filter fun q=>P q.x q.y q.w).map Sq.z
 | .col c,p,x,y,k=>by
  show (if P x y (2^k) then [p] else [])=(([⟨p,c,x,y,2^k⟩]:List Sq).filter fun q=>P q.x q.y q.w).map Sq.z;cases h:P x y (2^k)<;>simp[List.filter,h]
 | .four a b c d,p,x,y,k=>by
  show fl P (p++[0]) a x y (k-1)++(fl P (p++[1]) b (x+2^(k-1)) y (k-1)++(fl P (p++[2]) c x (y+2^(k-1)) (k-1)++fl P (p++[3]) d (x+2^(k-1)) (y+2^(k-1)) (k-1))) =
   ((sqs (p++[0]) a x y (k-1)++(sqs (p++[1]) b (x+2^(k-1)) y (k-1)++(sqs (p++[2]) c x (y+2^(k-1)) (k-1)++sqs (p++[3]) d (x+2^(k-1)) (y+2^(k-1)) (k-1)))).filter fun q=>P q.x q.y q.w).map Sq.z
  simp only[Kh,IT,nU P a,nU P b,nU P c,nU P d]
def oV (q:Sq)(p:List Nat)(t:Tr)(x y k:Nat):Prop:=∃w:List Nat,q.z=p++w/\(∀d∈w,d<4)/\jY t w=some (.col q.c)/\w.length<=k/\q.x=x+cxs w*2^(k-w.length)/\q.y=y+cys w*2^(k-w.length)/\q.w=2^(k-w.length)
theorem oZ (J:e<4)(O:x'=x+e%2*2^k)(Y:y'=y+e/2*2^k)(h:oV q (p++[e]) (qk (.four a b c d) e) x' y' k):oV q p (.four a b c d) x y (k+1):=by
 obtain⟨w,e1,h4,hn,hl,ex,ey,ew⟩:=h;have B:k+1-(e::w).length=k-w.length:=by rw[Jb];simp
 have ep:2^w.length*2^(k-w.length)=2^k:=by rw[<-LK];congr 1;lia
 refine⟨e::w,by rw[e1];simp,?_,hn,by rw[Jb];lia,?_,?_,by rw[B];exact ew⟩
 ·intro d G;rcases IP.mp G with rfl | G
  ·exact J
  ·exact h4 d G
 ·rw[B,ex,O,fD,JZ,KZ,ep];lia
 ·rw[B,ey,Y,fC,JZ,KZ,ep];lia
theorem dQ:∀(t:Tr) (p:List Nat) (x y k:Nat),bc k t->∀q∈sqs p t x y k,oV q p t x y k
 | .col c,p,x,y,k,_,q,B=>by
  have e:q=⟨p,c,x,y,2^k⟩:=Iu.mp B;subst e;exact⟨[],by simp,fun d G=>absurd G (by simp),rfl,IG _,by simp[cxs],by simp[cys],by simp⟩
 | .four a b c d,p,x,y,0,g,_,_=>g.elim
 | .four a b c d,p,x,y,k+1,⟨ga,gb,gc,gd,_⟩,q,B=>by
  have hq':q∈sqs (p++[0]) a x y k++(sqs (p++[1]) b (x+2^k) y k++(sqs (p++[2]) c x (y+2^k) k++sqs (p++[3]) d (x+2^k) (y+2^k) k)):=B;simp only[Iz]at hq';rcases hq' with h | h | h | h
  ·exact oZ (e:=0) (by decide) (by simp) (by simp) (dQ a _ _ _ k ga q h)
  ·exact oZ (e:=1) (by decide) (by simp) (by simp) (dQ b _ _ _ k gb q h)
  ·exact oZ (e:=2) (by decide) (by simp) (by simp) (dQ c _ _ _ k gc q h)
  ·exact oZ (e:=3) (by decide) (by simp) (by simp) (dQ d _ _ _ k gd q h)
def mn (i j:Int):Int:=if j<i then j else i
def mx (i j:Int):Int:=if j>i then j else i
def gR (a wa b wb:Nat):Int:=mn ((a:Int)+wa) ((b:Int)+wb)-mx (a:Int) b
theorem qw {a B b G:Nat}(h1:0<B)(h2:0<G):0<gR a B b G↔a<b+G/\b<a+B:=by
 unfold gR mn mx
 split<;>split<;>lia
def eJ (ax s:Bool)(q:Sq):Nat->Nat->Nat->Bool:=fun x y w=>decide (gO ax s (nC ax q.x q.y) (tC' ax q.x q.y) q.w x y w)
theorem AH (gt:bc n t)(ok:oV q [] t 0 0 n)(G:yr.length=q.z.length)(y4:∀d∈yr,d<4)(O:ct ax yr=ct ax q.z)(B:if s then cn ax yr+1=cn ax q.z else cn ax yr=cn ax q.z+1):
  fl (eJ ax s q) [] t 0 0 n=wz (iz ax s) [] yr t:=by
 obtain⟨w,Y,h4,hn,hl,ex,J,ew⟩:=ok;rw[JL]at Y;rw[Y]at G O B;obtain⟨j,rfl⟩:∃j,n=w.length+j:=⟨n-w.length,by lia⟩;rw[K2]at ex J ew;have hN:nC ax q.x q.y=nC ax 0 0+cn ax w*2^j:=by cases ax<;>simp only[nC,cn,ex,J,if_true,if_false,IQ]
 have hT:tC' ax q.x q.y=tC' ax 0 0+ct ax w*2^j:=by cases ax<;>simp only[tC',ct,ex,J,if_true,if_false,IQ]
 unfold eJ;rw[ew];rw[<-G]at gt ⊢;refine Fb yr t [] 0 0 y4 gt (by rw[O];exact hT) ?_ (.inr ⟨w,q.c,G.symm,h4,hn,hT,hN⟩);rw[hN];cases s
 ·simp only[if_false,IQ]at B ⊢;rw[B,JZ,LL];lia
 ·simp only[if_true]at B ⊢;rw[<-B,JZ,LL];lia
theorem x9 (gt:bc n t)(ok:oV q [] t 0 0 n)(B:if s then cn ax q.z=0 else cn ax q.z+1=2^q.z.length):
  fl (eJ ax s q) [] t 0 0 n=[]:=by
 obtain⟨w,G,h4,hn,hl,ex,J,O⟩:=ok;rw[JL]at G;rw[G]at B;obtain⟨j,rfl⟩:∃j,n=w.length+j:=⟨n-w.length,by lia⟩;rw[K2]at ex J O;have Y:nC ax q.x q.y=cn ax w*2^j:=by cases ax<;>simp only[nC,cn,ex,J,if_true,if_false,IQ,KG]
 have h0:nC ax 0 0=0:=by cases ax<;>rfl
 unfold eJ;rw[O];refine eu t [] 0 0 _ gt (.inr (.inr ?_));rw[Y,h0];cases s
 ·simp only[if_false,IQ]at B ⊢
  right
  rw[LK,<-B,JZ,LL];simp
 ·simp only[if_true]at B ⊢
  left
  rw[B,L0];exact IG _
def GX:List V:=[.str "up",.str "right",.str "down",.str "left"]
theorem C3 (gt:bc n t)(ok:oV q [] t 0 0 n)(hd:Dir side s1 s2 dx dy)(e2:dig s2=iz ax s)
  (ex:dx=(if ax then 0 else if s then -1 else 1)) (O:dy=(if ax then (if s then -1 else 1) else 0)) (k:∀l H',ah H H'->H l=none->H' l=some (.lst ((fl (eJ ax s q) [] t 0 0 n).map sV))->Q (.ref l) H'):HB H Q (txt q.z) t (.str side):=by
 obtain⟨w,e1,h4,_⟩:=id ok;rw[JL]at e1;refine⟨side,s1,s2,dx,dy,rfl,hd,fun y J ly G B l H' Y hl u=>k l H' Y hl ?_,fun x' y' a0 B G J l H' Y hl u=>k l H' Y hl ?_⟩
 ·rw[fU]at G B;rw[fj]at ly;rw[u,e2,AH (yr:=dig y) gt ok (by rw[dO];exact ly) (Gr J)]
  ·subst ex O;cases ax<;>cases s<;>simp only[ct,if_true,if_false,IQ]at G B ⊢<;>lia
  ·subst ex O;cases ax<;>cases s<;>simp only[cn,if_true,if_false,IQ]at G B ⊢<;>lia
 ·rw[fU,fj]at G J;rw[fj]at a0 B;have c1:=uT q.z;have c2:=uP q.z (by rw[e1];exact h4);rw[u,x9 gt ok]
  ·rfl
  ·subst ex O;generalize 2^q.z.length=W at *;cases ax<;>cases s<;>simp only[cn,if_true,if_false,IQ]at G J ⊢<;>lia
def gF (q r:Sq):Bool:=eJ false false q r.x r.y r.w
def j6 (q r:Sq):Bool:=eJ true false q r.x r.y r.w
def cB (q r:Sq):Bool:=decide (mn (gR q.x q.w r.x r.w) (gR q.y q.w r.y r.w)=0)&&decide (mx (gR q.x q.w r.x r.w) (gR q.y q.w r.y r.w)>0)
def Sep (q r:Sq):Prop:=q.x+q.w<=r.x\/q.y+q.w<=r.y
theorem j0 (i j:Int):mn i j=min i j:=by unfold mn;split<;>lia
theorem jZ (i j:Int):mx i j=max i j:=by unfold mx;split<;>lia
theorem fg:gF q r=true↔r.x=q.x+q.w/\q.y<r.y+r.w/\r.y<q.y+q.w:=by
 unfold gF eJ gO;simp only[nC,tC',if_false,IQ,decide_eq_true_eq]
theorem fZ:j6 q r=true↔r.y=q.y+q.w/\q.x<r.x+r.w/\r.x<q.x+q.w:=by
 unfold j6 eJ gO;simp only[nC,tC',if_true,if_false,IQ,decide_eq_true_eq]
theorem eZ:cB q r=true↔min (gR q.x q.w r.x r.w) (gR q.y q.w r.y r.w)=0/\max (gR q.x q.w r.x r.w) (gR q.y q.w r.y r.w)>0:=by
 unfold cB;rw[j0,jZ];simp only[JC,decide_eq_true_eq]
theorem rV {X Y:Int}{A B C D:Prop}(hX:X<=0)(G:X=0↔A)(J:0<Y↔B)(O:¬ (C/\D)):(min X Y=0/\max X Y>0)↔(A/\B)\/(C/\D):=by
 rw[<-G,<-J];constructor
 ·intro h;exact .inl (by lia)
 ·intro h;rcases h with h | h
  ·lia
  ·exact absurd h O
theorem wY {X Y:Int}{A B C D:Prop}(G:Y<=0)(J:Y=0↔C)(O:0<X↔D)(hC:¬ (A/\B)):(min X Y=0/\max X Y>0)↔(A/\B)\/(C/\D):=by
 rw[Int.min_comm,Int.max_comm,rV G J O hC];exact Or.comm
theorem vX (B:0<wb)(h:a+wa<=b):gR a wa b wb=(a:Int)+wa-b:=by
 unfold gR mn mx;rw[if_neg (by lia)]
 split<;>lia
theorem sd {q r:Sq}(G:0<q.w)(B:0<r.w)(h:Sep q r):cB q r=(gF q r||j6 q r):=by
 rw[JH,Bool.or_eq_true,eZ,fg,fZ];rcases h with h | h
 ·have e:=vX B h;refine rV (by lia) (by rw[e];lia) (qw G B) (by lia)
 ·have e:=vX B h;refine wY (by lia) (by rw[e];lia) (qw G B) (by lia)
theorem vF (O:0<q.w)(Y:0<r.w)(h:Sep q r):gF r q=false/\j6 r q=false:=by
 refine⟨KP.mpr fun c=>?_,KP.mpr fun c=>?_⟩
 ·obtain⟨B,G,J⟩:=fg.mp c;rcases h with h|h<;>lia
 ·obtain⟨B,G,J⟩:=fZ.mp c;rcases h with h|h<;>lia
theorem B_ (O:0<q.w):gF q q=false/\j6 q q=false:=by
 refine⟨KP.mpr fun c=>?_,KP.mpr fun c=>?_⟩
 ·obtain⟨B,G,J⟩:=fg.mp c
  lia
 ·obtain⟨B,G,J⟩:=fZ.mp c
  lia
theorem D_ (B:0<q.w)(h:gF q r=true):j6 q r=false:=by
 refine KP.mpr fun c=>?_;obtain⟨G,J,O⟩:=fg.mp h;obtain⟨Y,d2,d3⟩:=fZ.mp c
 lia
theorem gg:∀(t:Tr) (p:List Nat) (x y k:Nat),bc k t->∀q∈sqs p t x y k,x<=q.x/\q.x+q.w<=x+2^k/\y<=q.y/\q.y+q.w<=y+2^k/\0<q.w
 | .col c,p,x,y,k,_,q,G=>by
  have e:q=⟨p,c,x,y,2^k⟩:=Iu.mp G;subst e;exact⟨Iw _,Iw _,Iw _,Iw _,Ku k⟩
 | .four a b c d,p,x,y,0,g,_,_=>g.elim
 | .four a b c d,p,x,y,k+1,⟨ga,gb,gc,gd,_⟩,q,G=>by
  have hq':q∈sqs (p++[0]) a x y k++(sqs (p++[1]) b (x+2^k) y k++(sqs (p++[2]) c x (y+2^k) k++sqs (p++[3]) d (x+2^k) (y+2^k) k)):=G;have Y:2^(k+1)=2^k+2^k:=by rw[JG];lia
  simp only[Iz]at hq';rw[Y];rcases hq' with h | h | h | h
  ·obtain⟨h1,h2,J,O,B⟩:=gg a _ _ _ k ga q h;refine⟨?_,?_,?_,?_,B⟩<;>lia
  ·obtain⟨h1,h2,J,O,B⟩:=gg b _ _ _ k gb q h;refine⟨?_,?_,?_,?_,B⟩<;>lia
  ·obtain⟨h1,h2,J,O,B⟩:=gg c _ _ _ k gc q h;refine⟨?_,?_,?_,?_,B⟩<;>lia
  ·obtain⟨h1,h2,J,O,B⟩:=gg d _ _ _ k gd q h;refine⟨?_,?_,?_,?_,B⟩<;>lia
theorem F0 (p:List Nat)(h:a<b)(v w:List Nat):p++a::v<p++b::w:=by
 induction p with
 |nil=>exact List.cons_lt_cons_iff.mpr (.inl h)
 |cons x p ih=>exact List.cons_lt_cons_iff.mpr (.inr ⟨rfl,ih⟩)
def eF (q r:Sq):Prop:=Sep q r/\q.z<r.z
theorem yu (g:bc k t)(B:q∈sqs p t x y k):∃w,q.z=p++w:=by
 obtain⟨w,e,_⟩:=dQ t p x y k g q B;exact⟨w,e⟩
theorem kD (B:bc k a)(G:bc k b)(Y:d<e)(hs:∀q r:Sq,(x<=q.x/\q.x+q.w<=x+2^k/\y<=q.y/\q.y+q.w<=y+2^k/\0<q.w)->(x'<=r.x/\r.x+r.w<=x'+2^k/\y'<=r.y/\r.y+r.w<=y'+2^k/\0<r.w)->Sep q r):
  ∀q∈sqs (p++[d]) a x y k,∀r∈sqs (p++[e]) b x' y' k,eF q r:=fun q J r O=>by
 refine⟨hs q r (gg a _ _ _ k B q J) (gg b _ _ _ k G r O),?_⟩;obtain⟨v,ev⟩:=yu B J;obtain⟨w,ew⟩:=yu G O;rw[ev,ew]
 have:=F0 p Y v w
 simpa using this
theorem cW:∀(t:Tr) (p:List Nat) (x y k:Nat),bc k t->(sqs p t x y k).Pairwise eF
 | .col c,p,x,y,k,_=>KA _ _
 | .four a b c d,p,x,y,0,g=>g.elim
 | .four a b c d,p,x,y,k+1,⟨ga,gb,gc,gd,_⟩=>by
  show (sqs (p++[0]) a x y k++(sqs (p++[1]) b (x+2^k) y k++(sqs (p++[2]) c x (y+2^k) k++sqs (p++[3]) d (x+2^k) (y+2^k) k))).Pairwise eF;refine JB.mpr ⟨cW a _ _ _ k ga,JB.mpr ⟨cW b _ _ _ k gb,JB.mpr ⟨cW c _ _ _ k gc,cW d _ _ _ k gd,?_⟩,?_⟩,?_⟩
  ·refine kD gc gd (by decide) fun q r G B=>?_;unfold Sep;omega
  ·intro q G r B;rcases Iz.mp B with B | B
   ·refine kD gb gc (by decide) (fun q r G B=>?_) q G r B;unfold Sep
    lia
   ·refine kD gb gd (by decide) (fun q r G B=>?_) q G r B;unfold Sep
    lia
  ·intro q G r B;rcases Iz.mp B with B | B
   ·refine kD ga gb (by decide) (fun q r G B=>?_) q G r B;unfold Sep;omega
   rcases Iz.mp B with B|B
   ·refine kD ga gc (by decide) (fun q r G B=>?_) q G r B;unfold Sep
    lia
   ·refine kD ga gd (by decide) (fun q r G B=>?_) q G r B;unfold Sep;omega
abbrev Pr:Type:=List Nat×List Nat
def jm:List Sq->List Pr
 | []=>[]
 |q::L=>((L.filter fun r=>cB q r).map fun r=>(q.z,r.z))++jm L
def ii (A:List Sq)(q:Sq):List Pr:=((A.filter fun r=>gF q r).map fun r=>(q.z,r.z))++((A.filter fun r=>j6 q r).map fun r=>(q.z,r.z))
theorem sM:∀{L:List α},(∀x∈L,a x=true->b x=false)->(L.filter a++L.filter b).Perm (L.filter fun x=>a x||b x)
 | [],_=>List.Perm.refl _
 |x::L,h=>by
  have G:=sM (L:=L) fun y J=>h y (IA _ J);cases ea:a x with
  |true=>
   have B:=h x IF ea;rw[KC ea,JR (by rw[B];exact IL),KC (by rw[ea];rfl)];exact G.cons x
  |false=>
   rw[JR (by rw[ea];exact IL)];cases B:b x with
   |true=>
    rw[KC B,KC (by rw[ea,B];rfl)];exact List.perm_middle.trans (G.cons x)
   |false=>
    rw[JR (by rw[B];exact IL),JR (by rw[ea,B];exact IL)];exact G
theorem on {α:Type}{a:α->Bool}{L:List α}(h:∀x∈L,a x=false):L.filter a=[]:=by
 rw[List.filter_eq_nil_iff];intro x B;rw[h x B];exact IL
theorem A5 {B L:List Sq}{q:Sq}(O:∀b∈B,eF b q/\0<b.w)(hL:∀r∈L,eF q r/\0<r.w)(G:0<q.w):(ii (B++q::L) q).Perm ((L.filter fun r=>cB q r).map fun r=>(q.z,r.z)):=by
 have ns:=B_ G;have e1:(B++q::L).filter (fun r=>gF q r)=L.filter (fun r=>gF q r):=by
  rw[Kh,on fun b J=>(vF (O b J).2 G (O b J).1.1).1,JL,JR (by rw[ns.1];exact IL)]
 have e2:(B++q::L).filter (fun r=>j6 q r)=L.filter (fun r=>j6 q r):=by
  rw[Kh,on fun b J=>(vF (O b J).2 G (O b J).1.1).2,JL,JR (by rw[ns.2];exact IL)]
 unfold ii;rw[e1,e2,<-IT];have e3:L.filter (fun r=>cB q r)=L.filter (fun r=>gF q r||j6 q r):=List.filter_congr fun r Y=>sd G (hL r Y).2 (hL r Y).1.1;rw[e3];exact (sM fun r Y h=>D_ G h).map _
theorem rW:∀(L B:List Sq),(B++L).Pairwise eF->(∀q∈B++L,0<q.w)->(L.flatMap fun q=>ii (B++L) q).Perm (jm L)
 | [],B,_,_=>List.Perm.refl _
 |q::L,B,h,hw=>by
  have G:=rW L (B++[q]) (by simpa using h) (by simpa using hw);rw[Jv,List.singleton_append]at G;obtain⟨p1,p2,Y⟩:=JB.mp h;rw[K9];refine List.Perm.append (A5 (fun b J=>⟨Y b J q IF,hw b (by simp[J])⟩) (fun r O=>⟨(JK.mp p2).1 r O,hw r (by simp[O])⟩) (hw q (by simp))) G
def Db (a b:Pr):Prop:=a.1<b.1\/(a.1=b.1/\a.2<b.2)
theorem ww:∀{L:List Sq} {d:Pr},d∈jm L->∃q∈L,d.1=q.z
 | [],d,h=>by cases h
 |q::L,d,h=>by
  rcases Iz.mp h with h|h
  ·obtain⟨r,_,rfl⟩:=Iv.mp h;exact⟨q,IF,rfl⟩
  ·obtain⟨r,B,e⟩:=ww h;exact⟨r,IA _ B,e⟩
theorem qS:∀{L:List Sq},L.Pairwise eF->(jm L).Pairwise Db
 | [],_=>List.Pairwise.nil
 |q::L,h=>by
  obtain⟨h1,h2⟩:=JK.mp h;refine JB.mpr ⟨?_,qS h2,fun a B b G=>?_⟩
  ·rw[Jc];exact (h2.filter _).imp fun h=>.inr ⟨rfl,h.2⟩
  ·obtain⟨r,_,rfl⟩:=Iv.mp B;obtain⟨s,J,e⟩:=ww G
   left
   rw[e];exact (h1 s J).2
theorem wx:∀(L:List Sq),(jm L).length<=L.length*L.length
 | []=>Iw _
 |q::L=>by
  have B:=wx L;have h1:=Kr (fun r=>cB q r) L;show (((L.filter fun r=>cB q r).map fun r=>(q.z,r.z))++jm L).length<=_;rw[Iy,Iq,Jb,JZ,Nat.mul_add]
  lia
def PrV (H:Hp)(u:V)(d:Pr):Prop:=∃p,u=.ref p/\H p=some (.tup [sV d.1,sV d.2])
theorem PrV.up (h:PrV H u d)(s:bn H H'):PrV H' u d:=by
 obtain⟨p,e,B⟩:=h;exact⟨p,e,s _ _ B⟩
abbrev j8 (H:Hp):List V->List Pr->Prop:=Paired (PrV H)
theorem j8.up (h:j8 H us L)(s:bn H H'):j8 H' us L:=Paired.mapP h fun _ _ k=>k.up s
def kp (d:Pr):Pky:=pkV (txt d.1) (.str (txt d.2))
theorem tw (h:(txt a).cps.toList=(txt b).cps.toList):a=b:=by
 have:=I_ dig (zw h)
 rwa [fU,fU]at this
theorem F4 (h:kp d=kp e):d=e:=by
 have h1:(txt d.1).cps.toList=(txt e.1).cps.toList:=I_ Prod.fst h;have h2:(txt d.2).cps.toList=(txt e.2).cps.toList:=I_ (fun x:Pky=>x.2.2) h;exact Prod.ext (tw h1) (tw h2)
theorem AZ (h:a<b):(txt a).cps.toList<(txt b).cps.toList:=by
 show (a.map (48 + ·)).toArray.toList<(b.map (48 + ·)).toArray.toList;exact List.map_lt (fun x y h=>Nat.add_lt_add_left h 48) h
theorem Hf (h:Db d e):ltP (kp d) (kp e)=true:=by
 have B:ltP (kp d) (kp e)=if (txt d.1).cps.toList=(txt e.1).cps.toList then decide ((txt d.2).cps.toList<(txt e.2).cps.toList) else decide ((txt d.1).cps.toList<(txt e.1).cps.toList):=rfl
 rw[B];rcases h with h | ⟨h1,h2⟩
 ·rw[if_neg fun c=>absurd (tw c▸h) (JP _)];exact IC (AZ h)
 ·rw[if_pos (by rw[h1])];exact IC (AZ h2)
theorem vQ:∀{us:List V} {D:List Pr},j8 H us D->∃as:List Addr,us=as.map V.ref/\as.map (pkH H)=D.map kp/\∀a∈as,∃d:Pr,H a=some (.tup [sV d.1,sV d.2])
 |_,_,.nil=>⟨[],rfl,rfl,fun _ h=>nomatch h⟩
 |_,_,.cons (a:=u) (b:=d) ⟨p,e,hp⟩ t=>by
  obtain⟨as,h1,h2,G⟩:=vQ t;refine⟨p::as,by rw[h1,e];rfl,?_,fun a B=>?_⟩
  ·rw[IR,IR,h2]
   congr 1
   unfold pkH;rw[hp];rfl
  ·rcases IP.mp B with rfl|B
   ·exact⟨d,hp⟩
   ·exact G a B
theorem BH:∀{as:List Addr} {E:List Pr},as.map (pkH H)=E.map kp->(∀a∈as,∃d:Pr,H a=some (.tup [sV d.1,sV d.2]))->j8 H (as.map V.ref) E
 | [],[],_,_=>.nil
 | [],_::_,h,_=>by cases h
 |_::_,[],h,_=>by cases h
 |a::as,e::E,h,h3=>by
  obtain⟨h1,h2⟩:=List.cons.inj h;obtain⟨d,B⟩:=h3 a IF
  have:pkH H a=kp d:=by
   unfold pkH;rw[B];rfl
  have G:=F4 (this.symm.trans h1);subst G;exact .cons ⟨a,rfl,B⟩ (BH h2 fun b J=>h3 b (IA _ J))
theorem xi {H:Hp}{as B:List Addr}{D E:List Pr}(h2:as.map (pkH H)=D.map kp)(J:∀a∈as,∃d:Pr,H a=some (.tup [sV d.1,sV d.2]))(G:B.Perm as)(O:B.Pairwise fun x y=>ltP (pkH H y) (pkH H x)=false)(Y:D.Perm E)(he:E.Pairwise Db):j8 H (B.map V.ref) E:=by
 refine BH ?_ fun a ha=>J a (G.mem_iff.mp ha);have p1:(B.map (pkH H)).Perm (E.map kp):=((G.map _).trans (h2▸List.Perm.refl _)).trans (Y.map kp);refine List.Perm.eq_of_pairwise (le:=fun a b=>ltP b a=false) (fun a b _ _ h1 h2=>yU.tot _ _ h2 h1) (Jc.mpr O) ?_ p1;rw[Jc];refine he.imp fun h=>?_;cases c:ltP (kp _) (kp _) with
 |false=>rfl
 |true=>
  have:=yU.tr _ _ _ c (Hf h)
  rw[yU.irr]at this;cases this
def PaV (H:Hp)(n:Nat)(u:V)(q:List Nat×Int):Prop:=∃p z,u=.ref p/\H p=some (.tup [.str z,.int q.2])/\IsC z/\dig z=q.1/\z.length<=n/\(0<=q.2/\q.2<=35)
theorem PaV.up (h:PaV H n u q)(s:bn H H'):PaV H' n u q:=by
 obtain⟨p,z,e,B,h1,h2,G,J⟩:=h;exact⟨p,z,e,s _ _ B,h1,h2,G,J⟩
abbrev oB (H:Hp)(n:Nat):List V->List (List Nat×Int)->Prop:=Paired (PaV H n)
theorem oB.up (h:oB H n us L)(s:bn H H'):oB H' n us L:=Paired.mapP h fun _ _ k=>k.up s
theorem Ic (h:n<=10000000):n<=sizeLine:=IU h (by decide)
theorem hU:∀(t:Tr) (p:List Nat) (x y k:Nat),lvs p t=(sqs p t x y k).map fun q=>(q.z,q.c)
 | .col c,p,x,y,k=>rfl
 | .four a b c d,p,x,y,k=>by
  show lvs (p++[0]) a++(lvs (p++[1]) b++(lvs (p++[2]) c++lvs (p++[3]) d))=(sqs (p++[0]) a x y (k-1)++(sqs (p++[1]) b (x+2^(k-1)) y (k-1)++(sqs (p++[2]) c x (y+2^(k-1)) (k-1)++sqs (p++[3]) d (x+2^(k-1)) (y+2^(k-1)) (k-1)))).map _;rw[IT,IT,IT,hU a (p++[0]) x y (k-1),hU b (p++[1]) (x+2^(k-1)) y (k-1),hU c (p++[2]) x (y+2^(k-1)) (k-1),hU d (p++[3]) (x+2^(k-1)) (y+2^(k-1)) (k-1)]
def oH (A:List Sq)(q:Sq)(j:Nat):List Pr:=(A.filter fun r=>eJ (decide (j=1)) false q r.x r.y r.w).map fun r=>(q.z,r.z)
theorem vV (A:List Sq)(q:Sq)(j:Nat):(oH A q j).length<=A.length:=by
 unfold oH;rw[Iq];exact Kr _ _
theorem BU (A:List Sq)(q:Sq):(List.range 2).flatMap (oH A q)=ii A q:=by
 rw[show List.range 2=[0,1] from rfl];show oH A q 0++(oH A q 1++[])=_;rw[Jt];rfl
theorem z_ (A:List Sq)(q:Sq)(j:Nat):(List.range (j+1)).flatMap (oH A q)=(List.range j).flatMap (oH A q)++oH A q j:=by
 rw[JQ,Jx];simp
theorem Dw (h:[V.str "right",V.str "down"][j]? = some x):j<2/\∃(side s1 s2:Str) (dx dy:Int),x=.str side/\Dir side s1 s2 dx dy/\dig s2=iz (decide (j=1)) false/\dx=(if decide (j=1) then 0 else if false then -1 else 1)/\dy=(if decide (j=1) then (if false then -1 else 1) else 0):=by
 rcases j with _|_|j
 ·exact⟨by decide,"right",_,_,_,_,(Option.some.inj h).symm,.inr (.inl ⟨rfl,rfl,rfl,rfl,rfl⟩),by decide +kernel,rfl,rfl⟩
 ·exact⟨by decide,"down",_,_,_,_,(Option.some.inj h).symm,.inr (.inr (.inl ⟨rfl,rfl,rfl,rfl,rfl⟩)),by decide +kernel,rfl,rfl⟩
 ·exact absurd h (by simp)
theorem xN:∀n:Nat,n<4->((n:Int)).natAbs.log2<1920:=by decide +kernel
section
abbrev gA:Stmt:=top 27
theorem dH:aE ["tree","code","row","quarter"] ["tree","code"] (aq gA):={}
inductive iT  (m:Nat)(vs:List V)(H:Hp)(Q:VK):Prop
 |mk (v:V) (t:Tr) (z:Str) (k n:Nat) (h_0:vs=[v,.str z]) (h_1:cM H v t) (h_2:bc k t) (h_3:IsC z) (h_4:z.length+k<=n) (h_5:n<=40) (h_6:k<m) (h_7:m<=41) (h_8:cnt t<=4000) (h_9:∀l us H',ah H H'->H l=none->H' l=some (.lst us)->oB H' n us (lvs (dig z) t)->Q (.ref l) H'):iT m vs H Q
def fG  (m:Nat):Sp:=fun vs H Q _=>iT m vs H Q
theorem ju (T:Tx K mg)(q:bS CX)(F:bD K "leaves_below" "leaves_below" gA f fd .none)(b:eU K fd ["tree","code"] [])(m:mg "leaves_below" = some (.ref f)):
  ∀n,bB P w K mg base CX (1+n) f fd ["tree","code"] (fG n)
 |0=>by
  refine F.ok dH (fun vs H Q E h=>?_) (fun a2 A outer s H vs Q E hr h=>?_)
  ·obtain⟨_,_,_,_,_,rfl,_⟩:=h;rfl
  obtain⟨_,_,_,_,_,_,_,_,_,_,_,h,_⟩:=h;exact absurd h (Kv _)
 |m'+1=>by
  have B:Fok P w K mg base CX (1+m') "leaves_below" ["tree","code"] [] (fG m'):=fok F (ju T q F b m m') b m
  refine F.ok dH (fun vs H Q E h=>?_) (fun a2 A outer s H vs Q E hr h=>?_)
  ·obtain⟨_,_,_,_,_,rfl,_⟩:=h;rfl
  obtain⟨v,t,z,k,n,rfl,ht,gt,hz,hl,hn,hk,hm,hc,q'⟩:=h;refine⟨_,(ab (aT (ce (bL (av (aQ "tuple") rfl T.b_isinstance aH (aa (pv 0) (aa (cm T.b_tuple fE) ae))))) (af (aB (bg (am (az (am (pv 1) (am (pv 0) ak))) ak)))) aF) (ab (au (i:=2) dH (bg ak)) (ab (aN II rfl (bx rfl T.b_range (aa ac ae)) (aP (i:=3) dH) (af (ba (vT PySem.F.plainAttrs_list PySem.F.slot_list_extend PySem.F.type_list_extend nM (pv 2) (aa (ai B q hr (aa (aD aI (pv 0) (pv 3)) (aa (aj fh (pv 1) (cq mX rfl T.b_str uY (aa (pv 3) ae))) ae)) (hj:=by first | decide | simp | (simp only[Nat.add_eq];lia))) ae))))) (af (aB (pv 2)))))),?_⟩
  cases ht with
  |col i=>
   have g':0<=i/\i<=35:=by cases k<;>exact gt
   refine⟨_,_,_,rfl,.int _,qK,ay (oP ?_)⟩;refine⟨(leZ rfl),nw fun p H1 hp s1 u1=>?_⟩;refine⟨(leZ rfl),fun l J=>?_⟩;have s2:=ah.new J (.lst [.ref p]);exact q' l _ _ (s1.trans s2) (ah.free s1 J) ag (.cons ⟨p,z,rfl,s2 _ _ u1,hz,rfl,by lia,g'⟩ .nil)
  | @four p xa xb xc xd ta tb tc td e ja jb jc jd=>
   rcases k with _|k
   ·exact gt.elim
   obtain⟨ga,gb,gc,gd,ho⟩:=gt;have hc':cnt ta+cnt tb+cnt tc+cnt td<=4000:=hc;refine⟨_,_,_,rfl,.tup e,j5,ay (dv ?_)⟩;refine⟨(leZ rfl),nw fun l H1 J s1 u1=>?_⟩;obtain⟨ps,Y⟩:∃ps:List (List (List Nat×Int)),ps=[lvs (dig z++[0]) ta,lvs (dig z++[1]) tb,lvs (dig z++[2]) tc,lvs (dig z++[3]) td]:=⟨_,rfl⟩;have a3:ps.length=4:=by rw[Y];rfl
   have a4:ps.flatten.length<=4000:=by
    rw[Y];simp only[KO,List.flatten_nil,Jt,Iy,fY]
    lia
   let J1:NS9:=fun j σ H2=>ah H H2/\∃(us:List V) (o3:OW9),H2 l=some (.lst us)/\j<=4/\oB H2 n us (ps.take j).flatten/\σ=[some (.ref p),some (.str z),some (.ref l),o3]
   refine⟨4,rfl,by decide,by decide,bV J1 ⟨s1,[],none,u1,by decide,.nil,rfl⟩ ?_ ?_⟩
   ·rintro j σ H2 hj ⟨s2,us,o3,u2,G,a0,rfl⟩;have G:j<4:=hj;rw[show (0:Int)+(j:Int)=(j:Int) from JO _];have key:∃x t',atI [xa,xb,xc,xd] (j:Int)=some x/\cM H x t'/\bc k t'/\cnt t'<=4000/\ps[j]? = some (lvs (dig z++[j]) t'):=by
     rw[Y];rcases j with _ | _ | _ | _ | j
     ·exact⟨xa,ta,rfl,ja,ga,by lia,rfl⟩
     ·exact⟨xb,tb,rfl,jb,gb,by lia,rfl⟩
     ·exact⟨xc,tc,rfl,jc,gc,by lia,rfl⟩
     ·exact⟨xd,td,rfl,jd,gd,by lia,rfl⟩
     ·lia
    obtain⟨x,t',k1,k2,k3,k4,k5⟩:=key;have l1:(one j).length=1:=rfl;refine⟨.inl ⟨rfl,_,SqL.of u2⟩,p,_,_,x,rfl,rfl,SqT.of (s2 _ _ e),k1,(j:Int),rfl,xN j G,?_⟩;rw[yl G];refine⟨_,_,rfl,rfl,(by rw[l1];exact small (by lia)),x,t',z++one j,k,n,rfl,k2.up s2.tups,k3,IsC.app hz (IsC.one G),by rw[vc,l1];lia,hn,by lia,by lia,k4,fun l2 a1 H3 s3 a5 u3 O=>?_⟩;rw[pI,zi]at O;have u2':=s3 _ _ u2;have et:(ps.take (j+1)).flatten=(ps.take j).flatten++lvs (dig z++[j]) t':=by rw[Jf,k5,List.flatten_append];simp
    have n1:=Paired.length a0;have n2:=Paired.length O;have n3:(ps.take j).flatten.length<=ps.flatten.length:=by
     conv=>rhs;rw[<-Ju j ps,List.flatten_append,Iy]
     simp
    have n4:=fY t' (dig z++[j]);have tl:=bn.lst (ys:=us++a1) u2';refine⟨l,l2,us,a1,rfl,rfl,u2',u3,big (by lia),ah.set (s2.trans s3) J _,us++a1,_,ag,G,?_,rfl⟩;rw[et];exact aR (a0.up (s3.tups.trans tl)) (O.up tl)
   ·rintro σ H2 ⟨s2,us,o3,u2,G,a0,rfl⟩;have e4:(ps.take 4).flatten=lvs (dig z) (.four ta tb tc td):=by
     rw[IS (by lia),Y];simp[lvs]
    have hus':oB H2 n us (ps.take 4).flatten:=a0;rw[e4]at hus';exact (q' l us H2 s2 J u2 hus')
abbrev pY:Stmt:=top 28
theorem zM:aE ["sheet"] ["sheet"] (aq pY):={}
inductive rp  (vs:List V)(H:Hp)(Q:VK):Prop
 |mk (v:V) (t:Tr) (n:Nat) (h_0:vs=[v]) (h_1:Hx H v n t) (h_2:bc n t) (h_3:n<=40) (h_4:cnt t<=4000) (h_5:∀l us H',ah H H'->H l=none->H' l=some (.lst us)->oB H' n us (lvs [] t)->Q (.ref l) H'):rp  vs H Q
def iI:Sp:=fun vs H Q _=>rp  vs H Q
theorem Ad (T:Tx K mg)(q:bS CX)(F:bD K "leaves" "leaves" pY f fd .none)(B:Fok P w K mg base CX 42 "leaves_below" ["tree","code"] [] (fG 41)):bB P w K mg base CX 43 f fd ["sheet"] iI:=by
 refine F.ok zM (fun vs H Q E h=>?_) (fun J A outer s H vs Q E O h=>?_)
 ·obtain⟨_,_,_,rfl,_⟩:=h;rfl
 obtain⟨v,t,n,rfl,⟨p,x,rfl,Y,hx⟩,gt,hn,hc,q'⟩:=h;refine⟨_,(af (aB (ai B q O (aa (aD aI (pv 0) ac) (aa i_ ae))))),?_⟩;refine⟨p,_,_,_,rfl,rfl,SqT.of Y,rfl,x,t,("" : Str),n,n,rfl,hx,gt,qR▸IsC.nil,by rw[show ("" : Str).length=0 by decide +kernel];simp,hn,by lia,by decide,hc,fun l us H' s' hl u' G=>?_⟩
 rw[(show dig ("" : Str)=[] by decide +kernel)]at G
 exact q' l us H' s' hl u' G
abbrev nu:Stmt:=top 33
theorem gp:aE ["sheet","told","code","colour","side"] ["sheet"] (aq nu):={}
inductive oC  (vs:List V)(H:Hp)(Q:VK):Prop
 |mk (ps:Addr) (n:Nat) (v:V) (t:Tr) (h_0:vs=[.ref ps]) (h_1:H ps=some (.tup [.int (n:Int),v])) (h_2:cM H v t) (h_3:bc n t) (h_4:n<=40) (h_5:cnt t<=1500) (h_6:∀l us H',ah H H'->H l=none->H' l=some (.lst us)->j8 H' us (jm (sqs [] t 0 0 n))->Q (.ref l) H'):oC  vs H Q
def pO:Sp:=fun vs H Q _=>oC  vs H Q
theorem xC (T:Tx K mg)(q:bS CX)(F:bD K "touches" "touches" nu f fd .none)(J:Fok P w K mg base CX 43 "leaves" ["sheet"] [] iI)(B:Fok P w K mg base CX 43 "beyond_leaf" ["sheet","code","side"] [] gm):
  bB P w K mg base CX 44 f fd ["sheet"] pO:=by
 refine F.ok gp (fun vs H Q E h=>?_) (fun d2 A outer s H vs Q E hr h=>?_)
 ·obtain⟨_,_,_,_,rfl,_⟩:=h;rfl
 obtain⟨ps,n,v,t,rfl,a5,ht,gt,hn,hc,q'⟩:=h;refine⟨_,(ab (au (i:=1) gp (bg ak)) (ab (aN II rfl (bQ (ai J q hr (aa (pv 0) ae))) (fK rfl (aX (tU (i:=2) gp.nd rfl (Or.inr rfl)) (aX (aP (i:=3) gp) dL))) (af (aN II rfl (tR (az (am i_ (am i_ ak)))) (aP (i:=4) gp) (af (ba (vT PySem.F.plainAttrs_list PySem.F.slot_list_extend PySem.F.type_list_extend nM (pv 1) (aa (jU (N':=["other","code"]) ["code"] ["code"] [2] 1 {} (bQ (ai B q hr (aa (pv 0) (aa (pv 2) (aa (pv 4) ae))))) (fun _ _ _ _ _=>(oi (i:=0))) (fun _ _ _ _ _=>(az (am (pv 1) (am (pv 0) ak))))) ae))))))) (af (aB (av (x6 rfl) rfl T.b_sorted kC (aa (pv 1) ae)))))),?_⟩
 refine⟨(leZ rfl),nw fun lt H1 b7 s1 u1=>?_⟩;refine⟨.ref ps,t,n,rfl,⟨ps,v,rfl,s1 _ _ a5,ht.up s1.tups⟩,gt,hn,by lia,fun l us H2 s2 hl u2 a2=>?_⟩;have ll:=Paired.length a2;have b8:l≠lt:=fun z=>by rw[z,u1]at hl;cases hl
 obtain⟨L,eL⟩:∃L,L=sqs [] t 0 0 n:=⟨_,rfl⟩;have lc:L.length=cnt t:=by rw[eL];exact dD t [] 0 0 n
 have eS:lvs [] t=L.map fun q=>(q.z,q.c):=by rw[eL];exact hU t [] 0 0 n
 rw[<-eL]at q';rw[eS]at a2 ll;rw[Iq]at ll
 let J0:NS9:=fun i σ Y=>ah H Y/\(∀b o,b≠lt->H2 b=some o->Y b=some o)/\(∃ts,Y lt=some (.lst ts)/\j8 Y ts ((L.take i).flatMap (ii L))/\ts.length<=i*3000/\i<=us.length)/\∃o2 o3 o4:OW9,σ=[some (.ref ps),some (.ref lt),o2,o3,o4]
 refine⟨l,rfl,⟨_,SqL.of u2⟩,bJ (xs:=us) J0 ⟨s1.trans s2,fun _ _ _ e=>e,⟨[],s2 _ _ u1,.nil,by simp,IG _⟩,none,none,none,rfl⟩ (fun i σ Y _ h=>SqL.of (h.2.1 _ _ b8 u2)) ?_ ?_⟩
 ·rintro i u σ Y hu ⟨s3,k3,⟨ts,ut,a0,tl,hi⟩,o2,o3,o4,rfl⟩;obtain⟨d3,_⟩:=Ix.mp hu;obtain⟨pq,eq,r,z,rfl,a3,hz,ez,lz,d4⟩:=aM a2 hu;rw[IM]at eq;obtain⟨sq,a6,b9⟩:=IX.mp eq;have c0:oV sq [] t 0 0 n:=dQ t [] 0 0 n gt sq (by rw[<-eL];exact ID a6);have c5:r≠lt:=fun q=>by rw[q,s2 _ _ u1]at a3;cases a3
  have c6:dig z=sq.z:=by rw[ez,<-b9]
  have c7:txt sq.z=z:=by rw[<-c6,oX hz]
  have eT:(L.take (i+1)).flatMap (ii L)=(L.take i).flatMap (ii L)++ii L sq:=by
   rw[Jf,a6,Jx];simp
  refine⟨r,_,rfl,SqT.of (k3 _ _ c5 a3),rfl,_,_,rfl,_,_,rfl,rfl,?_⟩;refine⟨(leZ rfl),fun pt a4=>?_⟩;generalize e4:upd Y pt _=H4;have s4:ah Y H4:=e4▸ah.new a4 _;have w4:H4 pt=some (.tup [.str "right",.str "down"]):=by rw[<-e4];exact ag
  have a7:pt≠lt:=fun q=>by rw[q,ut]at a4;cases a4
  refine⟨pt,rfl,⟨_,SqT.of w4⟩,pF (xs:=[.str "right",.str "down"]) (fun j σ H5=>ah H H5/\(∀b o,b≠lt->H4 b=some o->H5 b=some o)/\(∃ts,H5 lt=some (.lst ts)/\j8 H5 ts ((L.take i).flatMap (ii L)++(List.range j).flatMap (oH L sq))/\ts.length<=i*3000+j*1500/\j<=2)/\∃o4:OW9,σ=[some (.ref ps),some (.ref lt),some (.str z),some (.int pq.2),o4]) ⟨s3.trans s4,fun _ _ _ e=>e,⟨ts,s4 _ _ ut,by rw[show (List.range 0).flatMap (oH L sq)=[] from rfl,Jt];exact a0.up s4.tups,by omega,by decide⟩,_,rfl⟩ (fun j σ H5 _ h=>SqT.of (h.2.1 _ _ a7 w4)) ?_ ?_⟩
  ·rintro j x σ H5 hx ⟨s5,k5,⟨G,a1,O,a8,hj⟩,o4,rfl⟩;obtain⟨d5,a9,b1,b2,dx,dy,rfl,hd,e2,ex,ey⟩:=Dw hx;have b0:=s5 _ _ a5;have c8:=ht.up s5.tups;refine⟨.inl ⟨rfl,_,SqL.of a1⟩,[.str z],rfl,ps,n,v,.str a9,t,z,rfl,b0,c8,gt,hn,by lia,hz,by lia,c7▸C3 gt c0 hd e2 ex ey fun lb H6 s6 d6 u6=>?_⟩;obtain⟨zs,b3⟩:∃zs,zs=fl (eJ (decide (j=1)) false sq) [] t 0 0 n:=⟨_,rfl⟩;rw[<-b3]at u6;have ep:zs.map (fun o=>(sq.z,o))=oH L sq j:=by
    rw[b3,nU,Jp,<-eL];rfl
   have d7:zs.length<=1500:=by
    have h1:=I_ List.length ep;rw[Iq]at h1;have h2:=vV L sq j
    lia
   refine⟨lb,rfl,⟨_,SqL.of u6⟩,lN (zs.map sV) (fun D (k:Nat) ys H'=>ah H6 H'/\H' D=some (.lst ys)/\k<=zs.length/\j8 H' ys ((zs.take k).map fun o=>(sq.z,o))) (by rw[Iq];exact big (by lia)) (fun D k ys H' h=>SqL.of (h.1 _ _ u6))
    (fun D k ys H' h=>⟨h.2.1,by rw[Paired.length h.2.2.2,Iq,Jl];lia⟩) (fun D hD=>⟨ah.new hD _,ag,IG _,.nil⟩) ?_ ?_ (fun _ _ _ _ _ k h=>k _ _ h) ?_⟩
   ·rintro D k y ys H7 hy hD ⟨c1,c2,c3,c4⟩;rw[IM]at hy;obtain⟨o,eo,rfl⟩:=IX.mp hy;refine⟨rfl,(leZ rfl),fun pn c9=>?_⟩;generalize e8:upd H7 pn _=H8;have s8:ah H7 H8:=e8▸ah.new c9 _;have w8:H8 pn=some (.tup [sV sq.z,sV o]):=by rw[<-e8];exact ag
    have uD:=s8 _ _ c2;have b4:=bn.lst (ys:=ys++[V.ref pn]) uD;refine⟨uD,ah.set (c1.trans s8) hD _,ag,(Ix.mp eo).1,?_⟩;rw[Jf,eo,IT];exact aR (c4.up (s8.tups.trans b4)) (.cons ⟨pn,rfl,b4 _ _ w8⟩ .nil)
   ·rintro D ys H7 hD ⟨c1,c2,c3,c4⟩;rw[Iq,Jw,ep]at c4;have b5:=(s6.trans c1) _ _ a1;have b6:=bn.lst (ys:=G++ys) b5;have n1:=Paired.length c4;have n2:=vV L sq j;refine⟨lt,D,G,ys,rfl,rfl,b5,c2,Ic (by lia),ah.set (s5.trans (s6.trans c1)) b7 _,fun b o hb e=>by rw[aA hb];exact (s6.trans c1) _ _ (k5 b o hb e),⟨G++ys,ag,?_,by rw[Iy];lia,by assumption⟩,_,rfl⟩;rw[z_,<-Jv];exact aR (O.up ((s6.trans c1).tups.trans b6)) (c4.up b6)
   ·intro σ H7 R R' k h_;obtain⟨_,g1,h_⟩:=aO h_;obtain⟨_,g2,h_⟩:=aO h_;obtain⟨h3,h4⟩:=h_;exact (aW g1 (aW g2 ⟨h3,fun p hp=>k _ _ (h4 p hp)⟩))
  ·rintro σ H5 ⟨s5,k5,⟨G,a1,O,a8,hj⟩,o4,rfl⟩;have hts5':j8 H5 G ((L.take i).flatMap (ii L)++(List.range 2).flatMap (oH L sq)):=O;rw[BU,<-eT]at hts5';have tl5':G.length<=i*3000+2*1500:=a8;exact⟨s5,fun b o hb e=>k5 b o hb (s4 _ _ (k3 b o hb e)),⟨G,a1,hts5',by lia,by assumption⟩,_,_,_,rfl⟩
 ·rintro σ Y ⟨s3,k3,⟨ts,ut,a0,tl,hi⟩,o2,o3,o4,rfl⟩;rw[IS (by lia)]at a0;obtain⟨as,e1,e2,e3⟩:=vQ a0;subst e1;have d0:Prs Y true as:=fun b hb=>by
   obtain⟨d,hd⟩:=e3 b hb;exact⟨_,_,hd,_,rfl⟩
  refine⟨lt,true,as,rfl,SqL.of ut,d0,fun S d1 hS pm pw=>?_⟩;have tS:=(ah.new hS (.lst (d1.map V.ref))).tups;have bf:L.Pairwise eF:=eL▸cW t [] 0 0 n gt;have hw:∀q∈L,0<q.w:=fun q hq=>(gg t [] 0 0 n gt q (eL▸hq)).2.2.2.2;have tp:=rW L [] bf hw;exact q' S _ _ (s3.trans (ah.new hS _)) (ah.free s3 hS) ag ((xi e2 e3 pm pw tp (qS bf)).up tS)
end
theorem vo (h:txt a=txt b):a=b:=by
 have:=I_ dig h
 rwa [fU,fU]at this
abbrev ky (z:List Nat):Key:=Sum.inr (txt z)
theorem lK (h:ky a=ky b):a=b:=vo (Sum.inr.inj h)
theorem AW {kvs:LK9}{k:Key}{v:V}:(kvs.map (·.1)).Nodup->(k,v)∈kvs->bo kvs k=some v:=by
 induction kvs with
 |nil=>intro _ h;cases h
 |cons p r ih=>
  intro nd h;rw[IR,JE]at nd;rcases IP.mp h with rfl | h
  ·exact b_ rfl
  ·rw[bR fun e=>nd.1 (e▸Iv.mpr ⟨_,h,rfl⟩)];exact ih nd.2 h
def cC (L:List Sq):LK9:=L.map fun q=>(ky q.z,V.int q.c)
theorem tj {L:List Sq}(h:L.Pairwise eF):(L.map (·.z)).Nodup:=by
 unfold List.Nodup;rw[Jc];exact h.imp fun h e=>absurd (e▸h.2) (JP _)
theorem lQ {L:List Sq}(h:L.Pairwise eF):((cC L).map (·.1)).Nodup:=by
 unfold cC;rw[Jp];have h2:=tj h;unfold List.Nodup at *;rw[Jc]at *;exact h2.imp fun h e=>h (lK e)
theorem cf {L:List Sq}(h:L.Pairwise eF){q:Sq}(B:q∈L):bo (cC L) (ky q.z)=some (V.int q.c):=AW (lQ h) (Iv.mpr ⟨q,B,rfl⟩)
theorem yc {L:List Sq}(h:L.Pairwise eF){q r:Sq}(O:q∈L)(Y:r∈L)(e:q.z=r.z):q=r:=by
 induction L with
 |nil=>cases O
 |cons p L ih=>
  obtain⟨h1,h2⟩:=JK.mp h;rcases IP.mp O with eq|G
  ·rcases IP.mp Y with J|B
   ·rw[eq,J]
   ·have:=(h1 r B).2
    rw[<-eq,e]at this;exact absurd this (JP _)
  ·rcases IP.mp Y with J|B
   ·have:=(h1 q G).2
    rw[<-J,e]at this;exact absurd this (JP _)
   ·exact ih h2 G B
theorem iM:∀{L:List Sq} {d:Pr},d∈jm L->∃q∈L,∃r∈L,d=(q.z,r.z)/\cB q r=true
 | [],d,h=>by cases h
 |q::L,d,h=>by
  rcases Iz.mp h with h|h
  ·obtain⟨r,B,rfl⟩:=Iv.mp h;obtain⟨h1,h2⟩:=Ji.mp B;exact⟨q,IF,r,IA _ h1,rfl,h2⟩
  ·obtain⟨G,J,r,B,e,O⟩:=iM h;exact⟨G,IA _ J,r,IA _ B,e,O⟩
theorem mU:∀{L:List Sq} {i j:Nat} {q r:Sq},L[i]? = some q->L[j]? = some r->i<j->cB q r=true->(q.z,r.z)∈jm L
 | [],_,_,_,_,h,_,_,_=>by simp at h
 |p::L,0,j+1,q,r,h1,h2,_,ht=>by
  have e:p=q:=by simpa using h1
  subst e;refine Ja _ (Iv.mpr ⟨r,Ji.mpr ⟨ID (by simpa using h2),ht⟩,rfl⟩)
 |p::L,i+1,j+1,q,r,h1,h2,hij,ht=>IW _ (mU (i:=i) (j:=j) (by simpa using h1) (by simpa using h2) (by lia) ht)
 |p::L,_+1,0,_,_,_,_,h,_=>by lia
 |p::L,0,0,_,_,_,_,h,_=>by lia
theorem nJ:∀{us:List V} {M:List (List Nat×Int)},oB H n us M->∃as:List Addr,us=as.map V.ref/\mY H as (M.map fun p=>(ky p.1,V.int p.2))
 |_,_,.nil=>⟨[],rfl,.nil⟩
 |_,_,.cons h t=>by
  obtain⟨as,e,k⟩:=nJ t;obtain⟨r,z,rfl,B,hz,G,J,O⟩:=h;refine⟨r::as,by rw[e];rfl,.cons ?_ k⟩;show H r=some (.tup [.str (txt _),.int _]);rw[<-G,oX hz];exact B
structure Aro (H:Hp)(d:Addr)(zs:LN9)(lo:List Nat->Addr)(A:List Nat->LN9):Prop where
 ex:∃kvs,H d=some (.dK kvs)/\kvs.length<=zs.length/\(∀z∈zs,bo kvs (ky z)=some (.ref (lo z)))/\∀z,z∉zs->bo kvs (ky z)=none
 at_:∀z∈zs,H (lo z)=some (.lst ((A z).map sV))
 inj:∀z∈zs,∀y∈zs,lo z=lo y->z=y
theorem Aro.ne {lo:List Nat->Addr}(h:Aro H d zs lo A)(hz:z∈zs):lo z≠d:=fun e=>by
 obtain⟨kvs,h1,_⟩:=h.ex;have h2:=h.at_ z hz
 rw[e,h1]at h2;cases h2
theorem Aro.up {lo:List Nat->Addr}(h:Aro H d zs lo A)(s:ah H H'):Aro H' d zs lo A:=by
 obtain⟨kvs,h1,h2,B,G⟩:=h.ex;exact⟨⟨kvs,s _ _ h1,h2,B,G⟩,fun z hz=>s _ _ (h.at_ z hz),h.inj⟩
theorem Aro.get {lo:List Nat->Addr}(h:Aro H d zs lo A)(hz:z∈zs):dC H d (sV z) (some (.ref (lo z))):=by
 obtain⟨kvs,h1,_,h2,_⟩:=h.ex;rw[<-h2 z hz];exact dC.k (k:=ky z) h1
def rj (A:List Nat->LN9)(a b:List Nat):List Nat->LN9:=fun z=>if z=a then A z++[b] else A z
theorem Aro.add {lo:List Nat->Addr}(h:Aro H d zs lo A)(B:a∈zs)(b:List Nat):Aro (upd H (lo a) (.lst ((A a).map sV++[sV b]))) d zs lo (rj A a b):=by
 obtain⟨kvs,h1,h2,G,J⟩:=h.ex;refine⟨⟨kvs,by rw[aA (Ne.symm (h.ne B))];exact h1,h2,G,J⟩,fun z hz=>?_,h.inj⟩;unfold rj;by_cases e:z=a
 ·subst e;rw[ag,if_pos rfl,IT];rfl
 ·rw[aA fun q=>e (h.inj z hz a B q),if_neg e];exact h.at_ z hz
theorem Aro.new {lo:List Nat->Addr}(h:Aro H d zs lo (fun _=>[]))(Y:H d=some (.dK kvs))(hz:z∉zs)(J:H l=some (.lst []))(hn:∀y∈zs,lo y≠l):
  Aro (upd H d (.dK (dY kvs (ky z) (.ref l)))) d (zs++[z]) (fun y=>if y=z then l else lo y) (fun _=>[]):=by
 obtain⟨G,h1,h2,h3,h4⟩:=h.ex;have e:G=kvs:=by
  rw[Y]at h1;injection h1 with h1;injection h1 with h1;exact h1.symm
 subst e;have O:l≠d:=fun q=>by rw[q,Y]at J;cases J
 have a0:∀y∈zs,y≠z:=fun y B q=>hz (q▸B);refine⟨⟨_,ag,?_,fun y B=>?_,fun y B=>?_⟩,fun y B=>?_,fun y B x hx q=>?_⟩
 ·have:=fA G (ky z) (.ref l)
  rw[Iy,Jq]
  lia
 ·rw[pN];by_cases q:y=z
  ·rw[if_pos (by rw[q]),if_pos q]
  ·rw[if_neg fun c=>q (lK c),if_neg q];rcases Iz.mp B with B | B
   ·exact h3 y B
   ·exact absurd (Iu.mp B) q
 ·rw[pN,if_neg fun c=>B (by rw[lK c];simp)];exact h4 y fun c=>B (Ja _ c)
 ·show upd _ _ _ (if y=z then l else lo y)=_;by_cases q:y=z
  ·rw[if_pos q,aA O];exact J
  ·rw[if_neg q];have hy':y∈zs:=(Iz.mp B).elim id fun c=>absurd (Iu.mp c) q;rw[aA (h.ne hy')];exact h.at_ y hy'
 ·by_cases q1:y=z<;>by_cases q2:x=z
  ·rw[q1,q2]
  ·have hx':x∈zs:=(Iz.mp hx).elim id fun c=>absurd (Iu.mp c) q2;have q':l=lo x:=by simpa[q1,q2] using q
   exact absurd q'.symm (hn x hx')
  ·have hy':y∈zs:=(Iz.mp B).elim id fun c=>absurd (Iu.mp c) q1;have q':lo y=l:=by simpa[q1,q2] using q
   exact absurd q' (hn y hy')
  ·have hx':x∈zs:=(Iz.mp hx).elim id fun c=>absurd (Iu.mp c) q2;have hy':y∈zs:=(Iz.mp B).elim id fun c=>absurd (Iu.mp c) q1;exact h.inj y hy' x hx' (by simpa[q1,q2] using q)
def fz (kvs:LK9)(d:Pr):Bool:=decide (bo kvs (ky d.1)=bo kvs (ky d.2))
def iG (B:Pr->Bool)(A:List Nat->LN9)(d:Pr):List Nat->LN9:=if B d=true then rj (rj A d.1 d.2) d.2 d.1 else A
def jX (B:Pr->Bool)(D:List Pr):List Nat->LN9:=D.foldl (iG B) fun _=>[]
theorem lI (B:Pr->Bool)(D:List Pr)(d:Pr):jX B (D++[d])=iG B (jX B D) d:=by
 unfold jX;rw[Ka];rfl
def AM (B:Pr->Bool)(D:List Pr)(z z':List Nat):Prop:=∃d∈D,B d=true/\((z=d.1/\z'=d.2)\/(z=d.2/\z'=d.1))
theorem qF:z'∈rj A a b z↔z'∈A z\/(z=a/\z'=b):=by
 unfold rj;by_cases e:z=a
 ·rw[if_pos e,Iz,Iu];simp[e]
 ·rw[if_neg e];simp[e]
theorem nN:z'∈iG B A d z↔z'∈A z\/(B d=true/\((z=d.1/\z'=d.2)\/(z=d.2/\z'=d.1))):=by
 unfold iG;by_cases h:B d=true
 ·rw[if_pos h,qF,qF];simp[h,or_assoc]
 ·rw[if_neg h];simp[h]
theorem sB (B:Pr->Bool):∀(D:List Pr) (A:List Nat->LN9) (z z':List Nat),z'∈D.foldl (iG B) A z↔z'∈A z\/AM B D z z'
 | [],A,z,z'=>by
  unfold AM;simp
 |d::D,A,z,z'=>by
  rw[Kf,sB B D,nN];unfold AM;simp only[IP,exists_eq_or_imp,or_assoc]
theorem xL (B:Pr->Bool)(D:List Pr)(z G:List Nat):G∈jX B D z↔AM B D z G:=by
 unfold jX;rw[sB];simp
theorem zh:∀{L:List Sq} {d:Pr},L.Pairwise eF->d∈jm L->d.1<d.2
 | [],_,_,h=>by cases h
 |q::L,d,hB,h=>by
  obtain⟨h1,h2⟩:=JK.mp hB;rcases Iz.mp h with h|h
  ·obtain⟨r,B,rfl⟩:=Iv.mp h;exact (h1 r (Ji.mp B).1).2
  ·exact zh h2 h
theorem sC (h:(A z).Nodup)(B:b∉A a):(rj A a b z).Nodup:=by
 unfold rj
 split
 ·rename_i e
  rw[JF];refine⟨h,by simp,fun x G y J O=>B ?_⟩;rw[<-e,<-Iu.mp J,<-O];exact G
 ·exact h
theorem qP (B:Pr->Bool):∀{D:List Pr} {A:List Nat->LN9},D.Pairwise Db->(∀d∈D,d.1<d.2)->(∀d∈D,d.2∉A d.1/\d.1∉A d.2)->(∀z,(A z).Nodup)->∀z,(D.foldl (iG B) A z).Nodup
 | [],_,_,_,_,h,z=>h z
 |d::D,A,hp,hl,hn,h,z=>by
  obtain⟨h1,h2⟩:=JK.mp hp;have dl:=hl d IF;obtain⟨Y,n2⟩:=hn d IF;have G:∀{a b:List Nat},a<b->b<a->False:=fun h k=>JP _ (List.lt_trans h k);refine qP B (D:=D) (A:=iG B A d) h2 (fun e J=>hl e (IA _ J)) (fun e J=>?_) (fun y=>?_) z
  ·obtain⟨m1,m2⟩:=hn e (IA _ J);have O:=hl e (IA _ J);have ne:¬ (e.1=d.1/\e.2=d.2):=fun⟨x,y⟩=>by
    rcases h1 e J with c|⟨_,c⟩
    ·rw[x]at c;exact JP _ c
    ·rw[y]at c;exact JP _ c
   rw[nN,nN];refine⟨fun c=>?_,fun c=>?_⟩
   ·rcases c with c|⟨_,c|c⟩
    ·exact m1 c
    ·exact ne c
    ·rw[c.1,c.2]at O;exact G O dl
   ·rcases c with c|⟨_,c|c⟩
    ·exact m2 c
    ·rw[c.1,c.2]at O;exact G O dl
    ·exact ne ⟨c.2,c.1⟩
  ·unfold iG
   split
   ·refine sC (sC (h y) Y) fun c=>?_;rcases qF.mp c with c | c
    ·exact n2 c
    ·rw[c.1]at dl;exact JP _ dl
   ·exact h y
theorem wg (B:Pr->Bool)(G:D.Pairwise Db)(J:∀d∈D,d.1<d.2)(z:List Nat):(jX B D z).Nodup :=
 qP B G J (fun _ _=>⟨by simp,by simp⟩) (fun _=>by simp) z
theorem rh (A:List Nat->LN9)(a b z:List Nat):(rj A a b z).length<=(A z).length+1:=by
 unfold rj
 split
 ·rw[Iy,Jq];simp
 ·simp
theorem zJ (B:Pr->Bool)(A:List Nat->LN9)(d:Pr)(z:List Nat):(iG B A d z).length<=(A z).length+2:=by
 unfold iG
 split
 ·have h1:=rh (rj A d.1 d.2) d.2 d.1 z;have h2:=rh A d.1 d.2 z
  lia
 ·simp
section
abbrev gD:Stmt:=top 35
theorem cp:aE ["sheet","colours","around","code","other"] ["sheet"] (aq gD):={}
inductive iW  (vs:List V)(H:Hp)(Q:VK):Prop
 |mk (ps:Addr) (n:Nat) (v:V) (t:Tr) (h_0:vs=[.ref ps]) (h_1:H ps=some (.tup [.int (n:Int),v])) (h_2:cM H v t) (h_3:bc n t) (h_4:n<=40) (h_5:cnt t<=1500) (h_6:∀d lo A H',ah H H'->H d=none->Aro H' d ((sqs [] t 0 0 n).map (·.z)) lo A->(∀z,(A z).length<=4500000)->(∀z z',z'∈A z↔AM (fz (cC (sqs [] t 0 0 n))) (jm (sqs [] t 0 0 n)) z z')->(∀z,(A z).Nodup)->Q (.ref d) H'):iW  vs H Q
def dF:Sp:=fun vs H Q _=>iW  vs H Q
theorem oO (T:Tx K mg)(q:bS CX)(F:bD K "alike_around" "alike_around" gD f fd .none)(O:Fok P w K mg base CX 43 "leaves" ["sheet"] [] iI)(J:Fok P w K mg base CX 44 "touches" ["sheet"] [] pO):
  bB P w K mg base CX 45 f fd ["sheet"] dF:=by
 refine F.ok cp (fun vs H Q E h=>?_) (fun c2 A outer s H vs Q E hr h=>?_)
 ·obtain⟨_,_,_,_,rfl,_⟩:=h;rfl
 obtain⟨ps,n,v,t,rfl,a6,ht,gt,hn,hc,q'⟩:=h;refine⟨_,(ab (au (i:=1) cp (cq (q8 rfl) rfl T.b_dict zA (aa (ai O q hr (aa (pv 0) ae)) ae))) (ab (au (i:=2) cp qr) (ab (aN II rfl (DS (pv 1)) (aP (i:=3) cp) (af (dZ hr.dic (pv 2) (pv 3) (bg ak) (cG rfl)))) (ab (aN II rfl (bQ (ai J q hr (aa (pv 0) ae))) (fK rfl (aX (aP (i:=3) cp) (aX (aP (i:=4) cp) dL))) (af (aT (aJ gJ (dM hr.dic (pv 1) (pv 3) (fun _ _=>rfl)) (dM hr.dic (pv 1) (pv 4) (fun _ _=>rfl))) (ab (ba (bH (dM hr.dic (pv 2) (pv 3) (fun _ _=>rfl)) (aa (pv 4) ae))) (af (ba (bH (dM hr.dic (pv 2) (pv 4) (fun _ _=>rfl)) (aa (pv 3) ae))))) aF))) (af (aB (pv 2))))))),?_⟩;obtain⟨L,eL⟩:∃L,L=sqs [] t 0 0 n:=⟨_,rfl⟩;have hB:L.Pairwise eF:=by rw[eL];exact cW t [] 0 0 n gt
 have lc:L.length=cnt t:=by rw[eL];exact dD t [] 0 0 n
 have eS:lvs [] t=L.map fun q=>(q.z,q.c):=by rw[eL];exact hU t [] 0 0 n
 refine⟨.ref ps,t,n,rfl,⟨ps,v,rfl,a6,ht⟩,gt,hn,by lia,fun l us H1 s1 hl u1 a7=>?_⟩;rw[eS]at a7;obtain⟨as,b4,a8⟩:=nJ a7;have hpr':mY H1 as (cC L):=by
  unfold cC;rw[Jp]at a8;exact a8
 refine⟨l,as,cC L,rfl,SqL.of (by rw[u1,b4]),hpr',lQ hB,nw fun dc H2 b5 s2 u2=>?_⟩;refine fun Y a3=>?_;have s3:=ah.new a3 (.dK []);have u3:upd H2 Y (.dK []) Y=some (.dK []):=ag;have u2':=s3 _ _ u2;generalize upd H2 Y (.dK [])=H3 at *;have a9:H Y=none:=(s1.trans s2).free a3;have b6:H dc=none:=s1.free b5;have b0:dc≠Y:=fun q=>by rw[q,a3]at u2;cases u2
 have cl:(cC L).length=L.length:=by unfold cC;rw[Iq]
 obtain⟨zs,a0⟩:∃zs,zs=L.map (·.z):=⟨_,rfl⟩;have zl:zs.length=L.length:=by rw[a0,Iq]
 have b7:zs.Nodup:=by rw[a0];exact tj hB
 rw[<-eL,<-a0]at q';refine⟨dc,cC L,rfl,u2',fun ob=>Cy (fun (i:Nat) σ H4=>ah H H4/\H4 dc=some (.frz ob (.dK (cC L)))/\(∃lo,Aro H4 Y (zs.take i) lo (fun _=>[])/\∀z∈zs.take i,H (lo z)=none)/\∃o3:OW9,σ=[some (.ref ps),some (.ref dc),some (.ref Y),o3,none]) ?_ (fun i σ H _ h=>h.2.1) ?_ ?_⟩
 ·refine⟨ah.set ((s1.trans s2).trans s3) b6 _,ag,⟨fun _=>0,⟨⟨[],?_,Iw _,fun z hz=>?_,fun z _=>rfl⟩,fun z hz=>?_,fun z hz=>?_⟩,fun z hz=>?_⟩,none,rfl⟩
  ·rw[aA (Ne.symm b0)];exact u3
  all_goals (rw[L_]at hz;cases hz)
 ·rintro i k v' σ H4 hk ⟨s4,f4,⟨lo,ar,nw⟩,o3,rfl⟩;unfold cC at hk;rw[IM]at hk;obtain⟨sq,b8,e⟩:=IX.mp hk;obtain rfl:k=ky sq.z:=(I_ Prod.fst e).symm;have ez:zs[i]? = some sq.z:=by rw[a0,IM,b8];rfl
  have et:zs.take (i+1)=zs.take i++[sq.z]:=by rw[Jf,ez];rfl
  have nz:sq.z∉zs.take i:=fun c=>by
   have h1:=JF.mp (et▸(LI (i+1) zs).nodup b7);exact h1.2.2 _ c _ (Iu.mpr rfl) rfl
  refine⟨(leZ rfl),fun l0 a4=>?_⟩;have s5:=ah.new a4 (.lst []);have u5:upd H4 l0 (.lst []) l0=some (.lst []):=ag;have nl:∀y∈zs.take i,lo y≠l0:=fun y hy q=>by
   have:=ar.at_ y hy
   rw[q,a4]at this;cases this
  generalize upd H4 l0 (.lst [])=H5 at *;have a1:=ar.up s5;obtain⟨kvs,d5,c1,_⟩:=a1.ex;have c3:kvs.length<=1500:=by
   have:=List.length_take_le i zs
   have:=List.length_take_le' i zs
   lia
  refine⟨Y,_,rfl,lV.k (k:=ky sq.z) d5 (IJ (by lia:kvs.length<5000) (by decide)),?_⟩;refine⟨ah.set (s4.trans s5) a9 _,by rw[aA b0];exact s5 _ _ f4,⟨fun y=>if y=sq.z then l0 else lo y,?_,fun z hz=>?_⟩,_,rfl⟩
  ·rw[et];exact a1.new d5 nz u5 nl
  ·rw[et]at hz;by_cases q:z=sq.z
   ·show H (if z=sq.z then l0 else lo z)=none;rw[if_pos q];exact s4.free a4
   ·show H (if z=sq.z then l0 else lo z)=none;rw[if_neg q];exact nw z ((Iz.mp hz).elim id fun c=>absurd (Iu.mp c) q)
 ·rintro σ H4 ⟨s4,f4,⟨lo,ar,nw⟩,o3,rfl⟩;rw[cl,<-zl,Jw]at ar nw;refine⟨ps,n,v,t,rfl,s4 _ _ a6,ht.up s4.tups,gt,hn,hc,fun l2 b1 H5 s5 b9 u5 hD=>⟨l2,rfl,⟨_,SqL.of u5⟩,?_⟩⟩;rw[<-eL]at hD;have lD:=Paired.length hD;have c4:=wx L;have lq:L.length*L.length<=1500*1500:=KF (by lia) (by lia);have a1:=ar.up s5;have c0:∀z∈zs,lo z≠l2:=fun z hz q=>by
   have:=ar.at_ z hz
   rw[q,b9]at this;cases this
  let J0:NS9:=fun (j:Nat) σ H6=>j<=b1.length/\ah H H6/\(∀b o,(∀z∈zs,lo z≠b)->H5 b=some o->H6 b=some o)/\Aro H6 Y zs lo (jX (fz (cC L)) ((jm L).take j))/\(∀z,(jX (fz (cC L)) ((jm L).take j) z).length<=2*j)/\∃o3 o4:OW9,σ=[some (.ref ps),some (.ref dc),some (.ref Y),o3,o4]
  refine bJ (xs:=b1) J0 ⟨IG _,s4.trans s5,fun _ _ _ e=>e,a1,fun z=>Iw _,_,_,rfl⟩ (fun i σ H6 hi h=>SqL.of (h.2.2.1 _ _ c0 u5)) ?_ ?_
  ·rintro j u σ H6 hu ⟨_,s6,k6,G,B,o3,o4,rfl⟩;obtain⟨d,ed,p,rfl,hp⟩:=aM hD hu;obtain⟨b2,_⟩:=Ix.mp hu;obtain⟨q,hq,r,a5,rfl,tq⟩:=iM (ID ed);have et:(jm L).take (j+1)=(jm L).take j++[(q.z,r.z)]:=by rw[Jf,ed];rfl
   have b3:∀{b:Addr} {xs:List V},H5 b=some (.tup xs)->∀z∈zs,lo z≠b:=fun {b xs} hb z hz c=>by
    have:=a1.at_ z hz
    rw[c,hb]at this;cases this
   have zq:q.z∈zs:=by rw[a0];exact Iv.mpr ⟨q,hq,rfl⟩
   have zr:r.z∈zs:=by rw[a0];exact Iv.mpr ⟨r,a5,rfl⟩
   have f6:H6 dc=some (.frz ob (.dK (cC L))):=k6 _ _ (fun z hz c=>by
    have:=a1.at_ z hz
    rw[c,s5 _ _ f4]at this;cases this) (s5 _ _ f4)
   have gq:∀{x:Sq},x∈L->dC H6 dc (sV x.z) (some (.int x.c)):=fun {x} hx=>.inl ⟨cC L,ky x.z,.inr ⟨ob,f6⟩,rfl,(cf hB hx).symm⟩;have lk:fz (cC L) (q.z,r.z)=decide (V.int q.c=V.int r.c):=by
    unfold fz;rw[cf hB hq,cf hB a5];simp
   refine⟨p,_,rfl,SqT.of (k6 _ _ (b3 hp) hp),rfl,_,_,rfl,_,_,rfl,rfl,?_⟩;have sl:∀z,(iG (fz (cC L)) (jX (fz (cC L)) ((jm L).take j)) (q.z,r.z) z).length<=2*(j+1):=fun z=>by
    have h1:=zJ (fz (cC L)) (jX (fz (cC L)) ((jm L).take j)) (q.z,r.z) z;have h2:=B z
    lia
   rw[<-lI,<-et]at sl;refine⟨dc,.int q.c,rfl,gq hq,dc,.int r.c,rfl,gq a5,rfl,ay (ci (fun c=>?_) (fun c=>?_))⟩
   ·have c':fz (cC L) (q.z,r.z)=true:=lk.trans c;have l1:=B q.z;refine⟨Y,_,rfl,G.get zq,.inl ⟨rfl,_,SqL.of (G.at_ _ zq)⟩,lo q.z,_,_,rfl,rfl,G.at_ _ zq,?_,?_⟩
    ·rw[Iq];exact IJ (by lia:_<5000000) (by decide)
    have a2:=G.add zq r.z;have l2:=rh (jX (fz (cC L)) ((jm L).take j)) q.z r.z r.z;have l3:=B r.z;refine⟨Y,_,rfl,a2.get zr,.inl ⟨rfl,_,SqL.of (a2.at_ _ zr)⟩,lo r.z,_,_,rfl,rfl,a2.at_ _ zr,?_,?_⟩
    ·rw[Iq];exact IJ (by lia:_<5000000) (by decide)
    refine⟨b2,ah.set (ah.set s6 (nw _ zq) _) (nw _ zr) _,fun b o hb h5=>?_,?_,sl,_,_,rfl⟩
    ·rw[aA (Ne.symm (hb _ zr)),aA (Ne.symm (hb _ zq))];exact k6 b o hb h5
    ·rw[et,lI];unfold iG;rw[if_pos c'];exact a2.add zr q.z
   ·have c':¬ fz (cC L) (q.z,r.z)=true:=fun h=>c (lk.symm.trans h);refine⟨b2,s6,k6,?_,sl,_,_,rfl⟩;rw[et,lI];unfold iG;rw[if_neg c'];exact G
  ·rintro σ H6 ⟨_,s6,k6,G,B,o3,o4,rfl⟩;rw[IS (by lia)]at G B;refine (q' Y lo _ H6 s6 a9 G (fun z=>?_) (fun z z'=>xL _ _ z z') fun z=>wg (fz (cC L)) (qS hB) (fun d hd=>zh hB hd) z)
   have:=B z
   lia
end
abbrev Mem:Type:=List Nat×Option (List Nat)
def add1 (c:List Nat)(M:List Mem)(o:List Nat):List Mem:=if o∈M.map (·.1) then M else M++[(o,some c)]
def rP (A:List Nat->LN9)(M:List Mem)(c:List Nat):List Mem:=(A c).foldl (add1 c) M
def a_ (A:List Nat->LN9)(z:List Nat):Nat->List Mem
 |0=>[(z,none)]
 |k+1=>match (a_ A z k)[k]? with
  |none=>a_ A z k
  |some m=>rP A (a_ A z k) m.1
theorem yk:∀{l m:LN9},l.Nodup->(∀x∈l,x∈m)->l.length<=m.length
 | [],_,_,_=>IG _
 |a::l,m,nd,h=>by
  obtain⟨h1,h2⟩:=JE.mp nd;have B:=h a IF;have J:=yk (l:=l) (m:=m.erase a) h2 fun x G=>(Lk (fun e:x=a=>h1 (by rw[<-e];exact G))).mpr (h x (IA _ G))
  have:=List.length_erase_of_mem B
  have:=JI B
  rw[Jb]
  lia
structure BI (zs:LN9)(M:List Mem):Prop where
 nd:(M.map (·.1)).Nodup
 sub:∀m∈M,m.1∈zs
theorem BI.len (h:BI zs M):M.length<=zs.length:=by
 have:=yk h.nd (m:=zs) fun x B=>by
  obtain⟨m,G,rfl⟩:=Iv.mp B;exact h.sub m G
 rwa [Iq]at this
theorem BI.add1 (h:BI zs M)(J:o∈zs):BI zs (add1 c M o):=by
 unfold Qs.add1
 split
 ·exact h
 ·rename_i hn
  refine⟨?_,fun m B=>?_⟩
  ·rw[IT];exact JF.mpr ⟨h.nd,by simp,fun a O b Y e=>hn (by
    have G:b=o:=Iu.mp Y;rw[<-G,<-e];exact O)⟩
  ·rcases Iz.mp B with B|B
   ·exact h.sub m B
   ·rw[Iu.mp B];exact J
theorem BI.fold:∀{os:LN9} {M:List Mem},BI zs M->(∀o∈os,o∈zs)->BI zs (os.foldl (Qs.add1 c) M)
 | [],_,h,_=>h
 |o::os,M,h,ho=>BI.fold (os:=os) (h.add1 (c:=c) (ho o IF)) fun x B=>ho x (IA _ B)
theorem BI.bfs (J:∀z∈zs,∀y∈A z,y∈zs)(hz:z∈zs):∀k,BI zs (a_ A z k)
 |0=>⟨by simp[a_],fun m B=>by rw[Iu.mp B];exact hz⟩
 |k+1=>by
  have G:=BI.bfs J hz k;unfold a_
  split
  ·exact G
  ·rename_i m B
   exact G.fold (J _ (G.sub m (ID B)))
theorem BJ (c:List Nat)(M:List Mem)(o:List Nat):M <+: add1 c M o:=by
 unfold add1
 split
 ·exact L4
 ·exact List.prefix_append _ _
theorem Ci (c:List Nat)(M:List Mem)(o:List Nat):o∈(add1 c M o).map (·.1):=by
 unfold add1
 split
 ·assumption
 ·simp
theorem qm (c:List Nat):∀(os:LN9) (M:List Mem),M <+: os.foldl (add1 c) M
 | [],M=>L4
 |o::os,M=>(BJ c M o).trans (qm c os _)
theorem wu (c:List Nat):∀(os:LN9) (M:List Mem),∀o∈os,o∈(os.foldl (add1 c) M).map (·.1)
 | [],_,o,h=>by cases h
 |p::os,M,o,h=>by
  rcases IP.mp h with rfl|h
  ·exact (List.IsPrefix.subset ((qm c os (add1 c M o)).map _)) (Ci c M o)
  ·exact wu c os _ o h
theorem uZ (A:List Nat->LN9)(z:List Nat)(k:Nat):a_ A z k <+: a_ A z (k+1):=by
 show _ <+: match (a_ A z k)[k]? with | none=>a_ A z k | some m=>rP A (a_ A z k) m.1
 split
 ·exact L4
 ·exact qm _ _ _
theorem re (A:List Nat->LN9)(z:List Nat):∀(k i:Nat) (m:Mem),i<k->(a_ A z k)[i]? = some m->∀y∈A m.1,y∈(a_ A z k).map (·.1)
 |0,i,m,h,_,_,_=>by lia
 |k+1,i,m,h,hm,y,hy=>by
  have pre:=uZ A z k;have sub:=List.IsPrefix.subset (pre.map (·.1));by_cases hi:i<k
  ·cases e:(a_ A z k)[i]? with
   |some m'=>
    have:(a_ A z (k+1))[i]? = some m':=by
     obtain⟨t,G⟩:=pre;rw[<-G,Jj (Ix.mp e).1];exact e
    rw[this]at hm;cases hm;exact sub (re A z k i m hi e y hy)
   |none=>
    have O:(a_ A z k).length<=i:=Kd.mp e;have Y:(a_ A z k)[k]? = none:=Kd.mpr (by lia);have B:a_ A z (k+1)=a_ A z k:=by
     show (match (a_ A z k)[k]? with | none=>a_ A z k | some m=>rP A (a_ A z k) m.1)=_;rw[Y]
    rw[B,e]at hm;cases hm
  ·have J:i=k:=by lia
   subst J;cases e:(a_ A z i)[i]? with
   |none=>
    have B:a_ A z (i+1)=a_ A z i:=by
     show (match (a_ A z i)[i]? with | none=>a_ A z i | some m=>rP A (a_ A z i) m.1)=_;rw[e]
    rw[B,e]at hm;cases hm
   |some m'=>
    have B:a_ A z (i+1)=rP A (a_ A z i) m'.1:=by
     show (match (a_ A z i)[i]? with | none=>a_ A z i | some m=>rP A (a_ A z i) m.1)=_;rw[e]
    have:(a_ A z (i+1))[i]? = some m':=by
     obtain⟨t,G⟩:=pre;rw[<-G,Jj (Ix.mp e).1];exact e
    rw[this]at hm;cases hm;rw[B];exact wu _ _ _ y hy
theorem sY (A:List Nat->LN9)(z:List Nat)(S:List Nat->Prop)(O:S z)(Y:∀x y,S x->y∈A x->S y):∀k,∀m∈a_ A z k,S m.1
 |0,m,B=>by rw[Iu.mp B];exact O
 |k+1,m,B=>by
  have J:=sY A z S O Y k;have hm':m∈match (a_ A z k)[k]? with | none=>a_ A z k | some m=>rP A (a_ A z k) m.1:=B
  cases e:(a_ A z k)[k]? with
  |none=>rw[e]at hm';exact J m hm'
  |some c=>
   rw[e]at hm';have hc:=J c (ID e);have go:∀(os:LN9) (M:List Mem),(∀m∈M,S m.1)->(∀o∈os,S o)->∀m∈os.foldl (add1 c.1) M,S m.1:=by
    intro os
    induction os with
    |nil=>intro M hM _;exact hM
    |cons o os ihh=>
     intro M hM G;refine ihh _ (fun m B=>?_) fun x hx=>G x (IA _ hx);unfold add1 at B
     split at B
     ·exact hM m B
     ·rcases Iz.mp B with B|B
      ·exact hM m B
      ·rw[Iu.mp B];exact G o IF
   exact go (A c.1) _ J (fun o G=>Y _ _ hc G) m hm'
theorem wM (A:List Nat->LN9)(z:List Nat):∀k,(a_ A z k)[0]? = some (z,none)
 |0=>rfl
 |k+1=>by
  obtain⟨t,G⟩:=uZ A z k;have B:=wM A z k;rw[<-G,Jj (Ix.mp B).1];exact B
def FK:Option (List Nat)->V
 |none=>.non
 |some c=>sV c
def Il (H:Hp)(u:V)(m:Mem):Prop:=∃p,u=.ref p/\H p=some (.tup [sV m.1,FK m.2])
abbrev mZ (H:Hp):List V->List Mem->Prop:=Paired (Il H)
theorem mZ.up (h:mZ H us M)(s:bn H H'):mZ H' us M:=Paired.mapP h fun _ _ ⟨p,e,B⟩=>⟨p,e,s _ _ B⟩
theorem bE (h:H a=some o)(n:∀xs,o≠.tup xs):bn H (upd H a o'):=fun b xs e=>by
 rw[aA fun q=>n xs (by rw[q,h]at e;exact Option.some.inj e)];exact e
def Met (H:Hp)(d:Addr)(S:LN9):Prop:=∃kvs,H d=some (.dK kvs)/\kvs.length<=S.length/\∀y,(bo kvs (ky y)).isSome=true↔y∈S
theorem Met.up (h:Met H d S)(s:ah H H'):Met H' d S:=by
 obtain⟨kvs,h1,h2⟩:=h;exact⟨kvs,s _ _ h1,h2⟩
theorem Met.put (B:kvs.length<=S.length)(h:∀y,(bo kvs (ky y)).isSome=true↔y∈S)(z:List Nat)(v:V):Met (upd H d (.dK (dY kvs (ky z) v))) d (S++[z]):=by
 refine⟨_,ag,?_,fun y=>?_⟩
 ·have:=fA kvs (ky z) v
  rw[Iy,Jq]
  lia
 ·rw[pN,Iz,Iu];by_cases q:y=z
  ·rw[if_pos (by rw[q])];simp[q]
  ·rw[if_neg fun c=>q (lK c),h y];simp[q]
section
abbrev gz:Stmt:=top 36
theorem bY:aE ["around","first","members","met","at","code","other"] ["around","first"] (aq gz):={}
inductive iS  (vs:List V)(H:Hp)(Q:VK):Prop
 |mk (d:Addr) (z:List Nat) (zs:LN9) (lo:List Nat->Addr) (A:List Nat->LN9) (h_0:vs=[.ref d,sV z]) (h_1:Aro H d zs lo A) (h_2:z∈zs) (h_3:zs.length<=1500) (h_4:(∀z∈zs,∀y∈A z,y∈zs)) (h_5:(∀z,(A z).length<=4500000)) (h_6:∀l us k H',ah H H'->H l=none->H' l=some (.lst us)->mZ H' us (a_ A z k)->(a_ A z k).length=k->Q (.ref l) H'):iS  vs H Q
def dE:Sp:=fun vs H Q _=>iS  vs H Q
theorem oM (T:Tx K mg)(F:bD K "members_from" "members_from" gz f fd .none):bB P w K mg base CX 1 f fd ["around","first"] dE:=by
 refine F.ok bY (fun vs H Q E h=>?_) (fun b8 A outer s H vs Q E hr h=>?_)
 ·obtain⟨_,_,_,_,_,rfl,_⟩:=h;rfl
 obtain⟨d,z,zs,lo,A,rfl,ar,hz,zl,hA,b9,q'⟩:=h;refine⟨_,(ab (au (i:=2) bY (bg (am (az (am (pv 1) (am xA ak))) ak))) (ab (au (i:=3) bY (BQ (pv 1) cX)) (ab (au (i:=4) bY ac) (ab (jQ II (aJ oj (pv 4) (av aY rfl T.b_len bN (aa (pv 2) ae))) (ab (au (i:=5) bY (aD aI (aD bh (pv 2) (pv 4)) ac)) (ab (aN II rfl (bQ (dM hr.dic (pv 0) (pv 5) (fun _ _=>rfl))) (aP (i:=6) bY) (af (aT (aJ (cS hr.dic) (pv 6) (pv 3) (by with_unfolding_all rfl)) (ab (dZ hr.dic (pv 3) (pv 6) cX (cG rfl)) (af (ba (bH (pv 2) (aa (az (am (pv 6) (am (pv 5) ak))) ae))))) aF))) (af (au (i:=4) bY (aj aK (pv 4) ac)))))) (af (aB (pv 2))))))),?_⟩;refine⟨(leZ rfl),fun p0 a9=>?_⟩;generalize e1:upd H p0 _=H1;have s1:ah H H1:=e1▸ah.new a9 _;have w1:H1 p0=some (.tup [sV z,.non]):=by rw[<-e1];exact ag
 refine⟨(leZ rfl),fun ml a2=>?_⟩;generalize e2:upd H1 ml _=H2;have s2:ah H1 H2:=e2▸ah.new a2 _;have w2:H2 ml=some (.lst [.ref p0]):=by rw[<-e2];exact ag
 have a3:H ml=none:=s1.free a2;have a4:=s1.trans s2;refine fun J a1=>⟨ag,[(ky z,.bl true)],rfl,(by show 1<=15;decide),?_⟩;generalize e3:upd (upd H2 J _) J _=H3;have s3:ah H2 H3:=e3▸ah.set (ah.new a1 _) a1 _;have w3:H3 J=some (.dK [(ky z,.bl true)]):=by rw[<-e3];exact ag
 have b0:H J=none:=a4.free a1;have b1:=a4.trans s3
 let J1:NS9:=fun m σ H4=>∃(k:Nat) (Y:List V) (o5 o6:OW9),m=1501-k/\ah H H4/\H4 ml=some (.lst Y)/\mZ H4 Y (a_ A z k)/\Met H4 J ((a_ A z k).map (·.1))/\k<=Y.length/\σ=[some (.ref d),some (sV z),some (.ref ml),some (.ref J),some (.int (k:Int)),o5,o6]
 refine⟨J1,⟨_,0,[.ref p0],none,none,rfl,b1,s3 _ _ w2,.cons ⟨p0,rfl,(s2.trans s3) _ _ w1⟩ .nil,⟨_,w3,Iw _,fun y=>?_⟩,IG _,rfl⟩,?_⟩
 ·show (bo [(ky z,V.bl true)] (ky y)).isSome=true↔y∈[z];rw[Iu];by_cases q:z=y
  ·rw[b_ (by rw[q])];simp[q]
  ·rw[bR fun c=>q (lK c),vm];simp[Ne.symm q]
 rintro m σ H4 ⟨k,Y,o5,o6,rfl,s4,u4,hM,hm,hk,rfl⟩;have bi:=BI.bfs hA hz k;have lM:=Paired.length hM;have ll:=bi.len;refine⟨_,_,rfl,.inl ⟨_,SqL.of u4,rfl⟩,cU (ay (ci (fun c=>?_) (fun c=>?_)))⟩
 rotate_left
 ·have c':¬ (k:Int)<(Y.length:Int):=fun h=>c (IC h);exact (q' ml Y k H4 s4 a3 u4 hM (by lia))
 have c':(k:Int)<(Y.length:Int):=IZ c;have b2:k<Y.length:=by lia
 obtain⟨u,hu⟩:∃u,Y[k]? = some u:=⟨Y[k],IE b2⟩;obtain⟨B,em,p,rfl,hp⟩:=aM hM hu;have hc:=bi.sub B (ID em);have eb:a_ A z (k+1)=rP A (a_ A z k) B.1:=by
  show (match (a_ A z k)[k]? with | none=>a_ A z k | some m=>rP A (a_ A z k) m.1)=_;rw[em]
 let J2:SP9:=fun σ' O=>∃(Y:List V) (o5 o6:OW9),ah H O/\O ml=some (.lst Y)/\mZ O Y (a_ A z (k+1))/\Met O J ((a_ A z (k+1)).map (·.1))/\k+1<=Y.length/\σ'=[some (.ref d),some (sV z),some (.ref ml),some (.ref J),some (.int ((k+1:Nat):Int)),o5,o6]
 refine⟨J2,fun σ' O ⟨b3,o5,o6,h1,h2,h3,h4,h5,h6⟩=>⟨1501-(k+1),by lia,k+1,b3,o5,o6,rfl,h1,h2,h3,h4,h5,h6⟩,?_⟩;refine⟨ml,Y,_,_,rfl,rfl,SqL.of u4,bG hu,p,_,0,_,rfl,rfl,SqT.of hp,rfl,?_⟩;have a5:∀{H':Hp},ah H H'->H' (lo B.1)=some (.lst ((A B.1).map sV)):=fun s=>s _ _ (ar.at_ _ hc);refine⟨d,_,rfl,(ar.up s4).get hc,lo B.1,rfl,⟨_,SqL.of (a5 s4)⟩,bJ (xs:=(A B.1).map sV) (fun (j:Nat) σ O=>j<=(A B.1).length/\ah H O/\∃(G:List V) (o6:OW9),O ml=some (.lst G)/\mZ O G (((A B.1).take j).foldl (add1 B.1) (a_ A z k))/\Met O J ((((A B.1).take j).foldl (add1 B.1) (a_ A z k)).map (·.1))/\Y.length<=G.length/\σ=[some (.ref d),some (sV z),some (.ref ml),some (.ref J),some (.int (k:Int)),some (sV B.1),o6])
  ⟨IG _,s4,Y,_,u4,hM,hm,Iw _,rfl⟩ (fun i σ O _ h=>SqL.of (a5 h.2.1)) ?_ ?_⟩
 ·rintro j x σ O hx ⟨_,s5,G,o6,u5,a0,⟨kvs,d5,l5,m5⟩,a6,rfl⟩;rw[IM]at hx;obtain⟨o,eo,rfl⟩:=IX.mp hx;obtain⟨hj,_⟩:=Ix.mp eo;have et:(A B.1).take (j+1)=(A B.1).take j++[o]:=by rw[Jf,eo];rfl
  have ef:((A B.1).take (j+1)).foldl (add1 B.1) (a_ A z k)=add1 B.1 (((A B.1).take j).foldl (add1 B.1) (a_ A z k)) o:=by rw[et,Ka];rfl
  have b4:BI zs (((A B.1).take j).foldl (add1 B.1) (a_ A z k)):=bi.fold fun o ho=>hA _ hc o (JU ho);have c0:=b4.len;have c2:=Paired.length a0;rw[Iq]at l5;rw[ef];generalize ((A B.1).take j).foldl (add1 B.1) (a_ A z k)=M5 at *;refine⟨J,_,rfl,dC.k (k:=ky o) d5,ay (ci (fun c1=>?_) (fun c1=>?_))⟩
  ·have c1':(!(bo kvs (ky o)).isSome)=true:=c1;have b5:o∉M5.map (·.1):=fun h=>by
    rw[(m5 o).mpr h]at c1';cases c1'
   have ea:add1 B.1 M5 o=M5++[(o,some B.1)]:=by unfold add1;rw[if_neg b5]
   refine⟨J,_,rfl,lV.k (k:=ky o) d5 (IJ (by lia:kvs.length<5000) (by decide)),?_⟩;have a7:ml≠J:=fun q=>by rw[q,d5]at u5;cases u5
   have t6:bn O (upd O J (.dK (dY kvs (ky o) (.bl true)))):=bE d5 (by intro xs q;cases q);have s6:ah H (upd O J (.dK (dY kvs (ky o) (.bl true)))):=ah.set s5 b0 _;have u6:upd O J (.dK (dY kvs (ky o) (.bl true))) ml=some (.lst G):=by rw[aA a7];exact u5
   have m6:Met (upd O J (.dK (dY kvs (ky o) (.bl true)))) J (M5.map (·.1)++[o]):=Met.put (by rw[Iq];exact l5) m5 o _;generalize upd O J (.dK (dY kvs (ky o) (.bl true)))=H6 at *;refine⟨.inl ⟨rfl,_,SqL.of u6⟩,(leZ rfl),fun pn b6=>?_⟩;generalize e7:upd H6 pn _=H7;have s7:ah H6 H7:=e7▸ah.new b6 _;have w7:H7 pn=some (.tup [sV o,sV B.1]):=by rw[<-e7];exact ag
   have u7:=s7 _ _ u6;have m7:=m6.up s7;refine⟨ml,G,_,rfl,rfl,u7,IJ (by lia:G.length<5000) (by decide),?_⟩;have t8:bn H7 (upd H7 ml (.lst (G++[.ref pn]))):=bE u7 (by intro xs q;cases q);rw[ea];refine⟨hj,ah.set (s6.trans s7) a3 _,G++[.ref pn],_,ag,aR (a0.up (t6.trans (s7.tups.trans t8))) (.cons ⟨pn,rfl,t8 _ _ w7⟩ .nil),?_,by rw[Iy];lia,rfl⟩;obtain⟨kv,g1,g2,g3⟩:=m7;refine⟨kv,by rw[aA (Ne.symm a7)];exact g1,?_,fun y=>?_⟩
   ·rw[IT];exact g2
   ·rw[g3,IT];rfl
  ·have c1':¬ (!(bo kvs (ky o)).isSome)=true:=c1;have b7:o∈M5.map (·.1):=(m5 o).mp (by
    cases hh:(bo kvs (ky o)).isSome with
    |true=>rfl
    |false=>rw[hh]at c1';exact absurd rfl c1')
   have ea:add1 B.1 M5 o=M5:=by unfold add1;rw[if_pos b7]
   rw[ea];exact⟨hj,s5,G,_,u5,a0,⟨kvs,d5,by rw[Iq];exact l5,m5⟩,a6,rfl⟩
 ·rintro σ O ⟨_,s5,G,o6,u5,a0,a8,a6,rfl⟩;rw[Iq,Jw]at a0 a8;refine⟨G,_,_,s5,u5,?_,?_,by lia,rfl⟩
  ·rw[eb];exact a0
  ·rw[eb];exact a8
theorem EL (h:∀k,(a_ A z k).length<=N):∃k,k<=N/\(a_ A z k).length=k:=by
 have go:∀j,(∃k,k<=j/\(a_ A z k).length=k)\/j<(a_ A z j).length:=by
  intro j
  induction j with
  |zero=>exact .inr Nat.zero_lt_one
  |succ j B=>
   rcases B with⟨k,G,e⟩|B
   ·exact .inl ⟨k,by lia,e⟩
   ·have:=(uZ A z j).length_le
    by_cases e:(a_ A z (j+1)).length=j+1
    ·exact .inl ⟨j+1,Iw _,e⟩
    ·exact .inr (by lia)
 rcases go N with h1|h1
 ·exact h1
 ·have:=h N
  lia
theorem wL (h:(a_ A z k).length=k):∀j,a_ A z (k+j)=a_ A z k
 |0=>rfl
 |j+1=>by
  have B:=wL h j;show (match (a_ A z (k+j))[k+j]? with | none=>a_ A z (k+j) | some m=>rP A (a_ A z (k+j)) m.1)=_;rw[B,Kd.mpr (by lia)]
@[irreducible] def cO (A:List Nat->LN9) (z:List Nat):List Mem:=a_ A z 1500
theorem pr (h:(a_ A z k).length=k)(B:k<=1500):cO A z=a_ A z k:=by
 unfold cO
 have:=wL h (1500-k)
 rwa [show k+(1500-k)=1500 by lia]at this
def jD (A:List Nat->LN9)(x:List (Int×List Mem)×LN9)(q:Sq):List (Int×List Mem)×LN9:=if q.z∈x.2 then x else (x.1++[(q.c,cO A q.z)],x.2++(cO A q.z).map (·.1))
def rM (A:List Nat->LN9)(L:List Sq):List (Int×List Mem)×LN9:=L.foldl (jD A) ([],[])
theorem Ao (A:List Nat->LN9)(L:List Sq)(q:Sq):rM A (L++[q])=jD A (rM A L) q:=by
 unfold rM;rw[Ka];rfl
def sZ (lt:Addr)(H:Hp)(u:V)(x:Int×List Mem):Prop:=∃p l us,u=.ref p/\l≠lt/\H p=some (.tup [.int x.1,.ref l])/\H l=some (.lst us)/\mZ H us x.2
theorem sZ.keep (h:sZ lt H u x)(h1:H lt=some (.lst ts))(h2:H dm=some (.dK kvs))(k:∀b o,b≠lt->b≠dm->H b=some o->H' b=some o):sZ lt H' u x:=by
 obtain⟨p,l,Y,e,J,hp,G,hM⟩:=h;have O:bn H H':=fun b xs B=>k b _ (fun q=>by rw[q,h1]at B;cases B) (fun q=>by rw[q,h2]at B;cases B) B;exact⟨p,l,Y,e,J,O _ _ hp,k l _ J (fun q=>by rw[q,h2]at G;cases G) G,hM.up O⟩
abbrev tO:Stmt:=top 37
theorem dW:aE ["sheet","around","met","told","code","colour","members","member","other"] ["sheet"] (aq tO):={}
def Hv (L:List Sq)(z z':List Nat):Prop:=AM (fz (cC L)) (jm L) z z'
inductive tf  (vs:List V)(H:Hp)(Q:VK):Prop
 |mk (ps:Addr) (n:Nat) (v:V) (t:Tr) (h_0:vs=[.ref ps]) (h_1:H ps=some (.tup [.int (n:Int),v])) (h_2:cM H v t) (h_3:bc n t) (h_4:n<=40) (h_5:cnt t<=1500) (h_6:∀l us A H',ah H H'->H l=none->H' l=some (.lst us)->(∀z z',z'∈A z↔Hv (sqs [] t 0 0 n) z z')->Paired (sZ l H') us (rM A (sqs [] t 0 0 n)).1->us.length<=cnt t->Q (.ref l) H'):tf  vs H Q
def vD:Sp:=fun vs H Q _=>tf  vs H Q
theorem B7 (T:Tx K mg)(q:bS CX)(F:bD K "lands" "lands" tO f fd .none)(B:Fok P w K mg base CX 45 "alike_around" ["sheet"] [] dF)(O:Fok P w K mg base CX 43 "leaves" ["sheet"] [] iI)(G:Fok P w K mg base CX 1 "members_from" ["around","first"] [] dE):
  bB P w K mg base CX 46 f fd ["sheet"] vD:=by
 refine F.ok dW (fun vs H Q E h=>?_) (fun e8 A outer s H vs Q E hr h=>?_)
 ·obtain⟨_,_,_,_,rfl,_⟩:=h;rfl
 obtain⟨ps,n,v,t,rfl,a7,ht,gt,hn,hc,q'⟩:=h;refine⟨_,(ab (au (i:=1) dW (ai B q hr (aa (pv 0) ae))) (ab (au (i:=2) dW qr) (ab (au (i:=3) dW (bg ak)) (ab (aN II rfl (bQ (ai O q hr (aa (pv 0) ae))) (fK rfl (aX (aP (i:=4) dW) (aX (aP (i:=5) dW) dL))) (af (aT (aJ (cS hr.dic) (pv 4) (pv 2) (by with_unfolding_all rfl)) (ab (au (i:=6) dW (ai G q hr (aa (pv 1) (aa (pv 4) ae)))) (ab (ba (bH (pv 3) (aa (az (am (pv 5) (am (pv 6) ak))) ae))) (af (aN II rfl (bQ (pv 6)) (fK rfl (aX (aP (i:=7) dW) (aX (aP (i:=8) dW) dL))) (af (dZ hr.dic (pv 2) (pv 7) cX (cG rfl))))))) aF))) (af (aB (pv 3))))))),?_⟩;obtain⟨L,eL⟩:∃L,L=sqs [] t 0 0 n:=⟨_,rfl⟩;have hB:L.Pairwise eF:=by rw[eL];exact cW t [] 0 0 n gt
 have lc:L.length=cnt t:=by rw[eL];exact dD t [] 0 0 n
 have eS:lvs [] t=L.map fun q=>(q.z,q.c):=by rw[eL];exact hU t [] 0 0 n
 refine⟨ps,n,v,t,rfl,a7,ht,gt,hn,hc,fun d lo A H1 s1 hd ar c7 hN _=>?_⟩;rw[<-eL]at ar hN q';obtain⟨zs,a0⟩:∃zs,zs=L.map (·.z):=⟨_,rfl⟩;rw[<-a0]at ar;have zl:zs.length=L.length:=by rw[a0,Iq]
 have hA:∀z∈zs,∀y∈A z,y∈zs:=fun z _ y hy=>by
  obtain⟨dd,c8,_,h⟩:=(hN z y).mp hy;obtain⟨q1,h1,r1,h2,rfl,_⟩:=iM c8;rw[a0];rcases h with⟨_,e⟩|⟨_,e⟩
  ·rw[e];exact Iv.mpr ⟨r1,h2,rfl⟩
  ·rw[e];exact Iv.mpr ⟨q1,h1,rfl⟩
 refine fun J a8=>?_;have s2:=ah.new a8 (.dK []);have w2:upd H1 J (.dK []) J=some (.dK []):=ag;generalize upd H1 J (.dK [])=H2 at *;refine⟨(leZ rfl),nw fun lt H3 c9 s3 w3=>?_⟩;have w2':=s3 _ _ w2;have a9:H1 lt=none:=s2.free c9;have b0:lt≠J:=fun q=>by rw[q,w2']at w3;cases w3
 have b1:=s2.trans s3;have b2:=s1.trans b1;refine⟨.ref ps,t,n,rfl,⟨ps,v,rfl,b2 _ _ a7,ht.up b2.tups⟩,gt,hn,by lia,fun ll us H4 s4 a1 u4 a4=>⟨ll,rfl,⟨_,SqL.of u4⟩,?_⟩⟩;rw[eS]at a4;have d0:=Paired.length a4;rw[Iq]at d0;have d1:ll≠lt:=fun q=>by rw[q,w3]at a1;cases a1
 have d2:ll≠J:=fun q=>by rw[q,w2']at a1;cases a1
 refine bJ (xs:=us) (fun (i:Nat) σ H5=>i<=us.length/\ah H1 H5/\(∀b o,b≠lt->b≠J->H4 b=some o->H5 b=some o)/\(∃ts,H5 lt=some (.lst ts)/\Paired (sZ lt H5) ts (rM A (L.take i)).1/\ts.length<=i)/\Met H5 J (rM A (L.take i)).2/\(rM A (L.take i)).2.length<=i*1500/\∃o4 o5 o6 o7 o8:OW9,σ=[some (.ref ps),some (.ref d),some (.ref J),some (.ref lt),o4,o5,o6,o7,o8])
  ⟨IG _,b1.trans s4,fun _ _ _ _ e=>e,⟨[],s4 _ _ w3,.nil,Iw _⟩,⟨[],s4 _ _ w2',Iw _,fun y=>by simp[rM,vm]⟩,IG _,_,_,_,_,_,rfl⟩ (fun i σ H5 _ h=>SqL.of (h.2.2.1 _ _ d1 d2 u4)) ?_ ?_
 ·rintro i u σ H5 hu ⟨_,s5,k5,⟨ts,ut,hT,tl⟩,⟨kvs,d5,l5,m5⟩,sl,o4,o5,o6,o7,o8,rfl⟩;obtain⟨b3,_⟩:=Ix.mp hu;obtain⟨pq,b4,r,z,rfl,Y,hz,ez,lz,f0⟩:=aM a4 hu;rw[IM]at b4;obtain⟨sq,b5,rfl⟩:=IX.mp b4;have d3:V.str z=sV sq.z:=by
   have ez':dig z=sq.z:=ez;rw[<-ez',Br hz]
  have b6:sq.z∈zs:=by rw[a0];exact Iv.mpr ⟨sq,ID b5,rfl⟩
  have et:L.take (i+1)=L.take i++[sq]:=by rw[Jf,b5];rfl
  rw[et,Ao];generalize rM A (L.take i)=x at *;have d4:r≠lt:=fun q=>by rw[q,s4 _ _ w3]at Y;cases Y
  have d7:r≠J:=fun q=>by rw[q,s4 _ _ w2']at Y;cases Y
  rw[d3]at Y;refine⟨r,_,rfl,SqT.of (k5 _ _ d4 d7 Y),rfl,_,_,rfl,_,_,rfl,rfl,?_⟩;refine⟨J,_,rfl,dC.k (k:=ky sq.z) d5,ay (ci (fun c1=>?_) (fun c1=>?_))⟩
  rotate_left
  ·have c1':¬ (!(bo kvs (ky sq.z)).isSome)=true:=c1;have e0:sq.z∈x.2:=(m5 sq.z).mp (by
    cases hh:(bo kvs (ky sq.z)).isSome with
    |true=>rfl
    |false=>rw[hh]at c1';exact absurd rfl c1')
   have ea:jD A x sq=x:=by unfold jD;rw[if_pos e0]
   rw[ea];exact⟨b3,s5,k5,⟨ts,ut,hT,by lia⟩,⟨kvs,d5,l5,m5⟩,by lia,_,_,_,_,_,rfl⟩
  have c1':(!(bo kvs (ky sq.z)).isSome)=true:=c1;have e1:sq.z∉x.2:=fun h=>by
   rw[(m5 sq.z).mpr h]at c1';cases c1'
  have ea:jD A x sq=(x.1++[(sq.c,cO A sq.z)],x.2++(cO A sq.z).map (·.1)):=by unfold jD;rw[if_neg e1]
  rw[ea];refine⟨d,sq.z,zs,lo,A,rfl,ar.up s5,b6,by lia,hA,c7,fun l6 a2 k6 H6 s6 a3 u6 a5 b7=>?_⟩;have bi:=BI.bfs hA b6 k6;have bl:=bi.len;have em:=pr b7 (by lia);have f1:(cO A sq.z).length<=1500:=by rw[em];lia
  rw[<-em]at a5 bi b7;have f2:=Paired.length a5;have b8:=s6 _ _ ut;have d6:=s6 _ _ d5;refine⟨.inl ⟨rfl,_,SqL.of b8⟩,(leZ rfl),fun pp e2=>?_⟩;generalize e7:upd H6 pp _=H7;have s7:ah H6 H7:=e7▸ah.new e2 _;have w7:H7 pp=some (.tup [.int sq.c,.ref l6]):=by rw[<-e7];exact ag
  have b9:=s7 _ _ b8;refine⟨lt,ts,_,rfl,rfl,b9,IJ (by lia:ts.length<5000) (by decide),?_⟩;have c0:l6≠lt:=fun q=>by rw[q,ut]at a3;cases a3
  have c2:l6≠J:=fun q=>by rw[q,d5]at a3;cases a3
  have t8:bn H7 (upd H7 lt (.lst (ts++[.ref pp]))):=bE b9 (by intro xs q;cases q);have k8:∀b o,b≠lt->b≠J->H5 b=some o->upd H7 lt (.lst (ts++[.ref pp])) b=some o:=fun b o h1 _ h=>by rw[aA h1];exact (s6.trans s7) _ _ h
  have w8:upd H7 lt (.lst (ts++[.ref pp])) pp=some (.tup [.int sq.c,.ref l6]):=t8 _ _ w7;have u8:upd H7 lt (.lst (ts++[.ref pp])) l6=some (.lst a2):=by rw[aA c0];exact s7 _ _ u6
  have d8:upd H7 lt (.lst (ts++[.ref pp])) J=some (.dK kvs):=by rw[aA (Ne.symm b0)];exact s7 _ _ d6
  have c3:upd H7 lt (.lst (ts++[.ref pp])) lt=some (.lst (ts++[.ref pp])):=ag;have c4:=a5.up (s7.tups.trans t8);have s8:ah H1 (upd H7 lt (.lst (ts++[.ref pp]))):=ah.set (s5.trans (s6.trans s7)) a9 _;have e3:Paired (sZ lt (upd H7 lt (.lst (ts++[.ref pp])))) (ts++[.ref pp]) (x.1++[(sq.c,cO A sq.z)]):=aR (Paired.mapP hT fun _ _ h=>h.keep ut d5 k8) (.cons ⟨pp,l6,a2,rfl,c0,w8,u8,c4⟩ .nil);generalize upd H7 lt (.lst (ts++[.ref pp]))=H8 at *
  let J0:NS9:=fun (j:Nat) σ H9=>j<=a2.length/\ah H1 H9/\(∀b o,b≠J->H8 b=some o->H9 b=some o)/\Met H9 J (x.2++((cO A sq.z).take j).map (·.1))/\∃o7 o8:OW9,σ=[some (.ref ps),some (.ref d),some (.ref J),some (.ref lt),some (sV sq.z),some (.int sq.c),some (.ref l6),o7,o8]
  refine⟨l6,rfl,⟨_,SqL.of u8⟩,bJ (xs:=a2) J0
   ⟨IG _,s8,fun _ _ _ e=>e,⟨kvs,d8,by rw[Iy];assumption,fun y=>by rw[m5];simp⟩,_,_,rfl⟩ (fun j σ H9 _ h=>SqL.of (h.2.2.1 _ _ c2 u8)) ?_ ?_⟩
  ·rintro j u9 σ H9 c5 ⟨_,s9,k9,⟨e4,d9,l9,m9⟩,o7,o8,rfl⟩;obtain⟨hj,_⟩:=Ix.mp c5;obtain⟨mm,e5,pm,rfl,a6⟩:=aM c4 c5;have e6:pm≠J:=fun q=>by rw[q,d8]at a6;cases a6
   refine⟨pm,_,rfl,SqT.of (k9 _ _ e6 a6),rfl,_,_,rfl,_,_,rfl,rfl,?_⟩;have lj:((cO A sq.z).take j).length<=1500:=by rw[Jl];lia
   rw[Iy,Iq]at l9;refine⟨J,_,rfl,lV.k (k:=ky mm.1) d9 (IJ (by lia:e4.length<5000000) (by decide)),?_⟩;refine⟨hj,ah.set s9 a8 _,fun b o h1 h=>by rw[aA h1];exact k9 b o h1 h,?_,_,_,rfl⟩;have e9:((cO A sq.z).take (j+1)).map (·.1)=((cO A sq.z).take j).map (·.1)++[mm.1]:=by rw[Jf,e5,IT];rfl
   rw[e9,<-Jv];exact Met.put (by rw[Iy,Iq];exact l9) m9 mm.1 _
  ·rintro σ H9 ⟨_,s9,k9,c6,o7,o8,rfl⟩;rw[IS (by lia)]at c6;refine⟨b3,s9,fun b o h1 h2 h=>k9 b o h2 (k8 b o h1 h2 (k5 b o h1 h2 h)),⟨_,k9 _ _ b0 c3,Paired.mapP e3 fun _ _ h=>h.keep c3 d8 fun b o _ h2 h=>k9 b o h2 h,by rw[Iy,Jq];lia⟩,c6,?_,_,_,_,_,_,rfl⟩;rw[Iy,Iq]
   lia
 ·rintro σ H5 ⟨_,s5,k5,⟨ts,ut,hT,tl⟩,hm,ml,o4,o5,o6,o7,o8,rfl⟩;rw[IS (by lia)]at hT;exact (q' lt ts A H5 (s1.trans s5) (s1.free a9) ut (fun z z'=>hN z z') hT (by lia))
end
section
abbrev lh:Stmt:=top 10
theorem vG:aE ["thing"] ["thing"] (aq lh):={}
def jH (K:Frag):Sp:=fun vs H Q _=>∃x,vs=[x]/\((∃i,x=.int i/\Q (.bl true) H)\/(∃b,x=.bl b/\Q (.bl false) H)\/∃t,lR K H x t/\kitOne K t (.type "int")=some false/\Q (.bl false) H)
theorem we (T:Tx K mg)(F:bD K "is_whole" "is_whole" lh f fd .none):bB P w K mg base CX 1 f fd ["thing"] (jH K):=by
 refine F.ok vG (fun vs H Q E h=>?_) (fun B A outer s H vs Q E J h=>?_)
 ·obtain⟨x,rfl,_⟩:=h;rfl
 obtain⟨x,rfl,h⟩:=h;refine⟨_,(af (aB (qu (av (aQ "int") rfl T.b_isinstance aH (aa (pv 0) (aa (cm T.b_int fL) ae))) (qq (FG (av (aQ "bool") rfl T.b_isinstance aH (aa (pv 0) (aa (cm T.b_bool pL) ae)))))))),?_⟩
 rcases h with⟨i,rfl,q⟩|⟨b,rfl,q⟩|⟨t,ty,G,q⟩
 ·refine⟨_,_,_,rfl,.int i,uE,_,rfl,oP ?_⟩;exact⟨_,_,_,rfl,.int i,uF,_,rfl,q⟩
 ·refine⟨_,_,_,rfl,.bl b,F5,_,rfl,oP ?_⟩;exact⟨_,_,_,rfl,.bl b,F6,_,rfl,q⟩
 ·exact⟨_,_,_,rfl,ty,G,_,rfl,dv q⟩
abbrev lA:Stmt:=top 11
theorem vH:aE ["thing"] ["thing"] (aq lA):={}
def oh (K:Frag):Sp:=fun vs H Q _=>∃i,vs=[.int i]/\(0<=i/\i<=40->Q (.bl true) H)/\(¬ (0<=i/\i<=40)->Q (.bl false) H)
theorem wf (T:Tx K mg)(q:bS CX)(F:bD K "is_level" "is_level" lA f fd .none)(B:Fok P w K mg base CX 1 "is_whole" ["thing"] [] (jH K)):bB P w K mg base CX 2 f fd ["thing"] (oh K):=by
 refine F.ok vH (fun vs H Q E h=>?_) (fun G A outer s H vs Q E J h=>?_)
 ·obtain⟨x,rfl,_⟩:=h;rfl
 obtain⟨i,rfl,h1,h2⟩:=h;refine⟨_,(af (aB (qu (ai B q J (aa (pv 0) ae)) (qq (qt vZ vZ ac (pv 0) (yM T.c_MOST)))))),?_⟩;refine⟨_,rfl,.inl ⟨i,rfl,_,rfl,oP ?_⟩⟩;refine⟨_,rfl,ci (fun c=>?_) (fun c=>?_)⟩
 ·have c':(0:Int)<=i:=IZ c
  try dsimp only
  refine (cU ?_);show Q (.bl (decide (i<=40))) H;by_cases d:i<=40
  ·have e:decide (i<=40)=true:=IC d;rw[e];exact h1 ⟨c',d⟩
  ·have e:decide (i<=40)=false:=Jh d;rw[e];exact h2 fun z=>d z.2
 ·exact h2 fun z=>c (IC z.1)
abbrev dr:Stmt:=top 14
theorem rH:aE ["level","least"] ["level","least"] (aq dr):={}
inductive j_  (vs:List V)(H:Hp)(Q:VK):Prop
 |mk (l m:Int) (h_0:vs=[.int l,.int m]) (h_1:0<=l) (h_2:l<=40) (h_3:m<=l) (h_4:Q .non H):j_  vs H Q
def dA:Sp:=fun vs H Q _=>j_  vs H Q
theorem kK (T:Tx K mg)(q:bS CX)(F:bD K "need_level" "need_level" dr f fd dV)(B:Fok P w K mg base CX 2 "is_level" ["thing"] [] (oh K)):bB P w K mg base CX 3 f fd ["level","least"] dA:=by
 refine F.ok rH (fun vs H Q E h=>?_) (fun G A outer s H vs Q E J h=>?_)
 ·obtain⟨_,_,rfl,_⟩:=h;rfl
 obtain⟨l,m,rfl,O,h1,h2,Y⟩:=h;refine⟨_,(af (aT (PW.pt (g_ (ce (bL (ai B q J (aa (pv 0) ae)))) (gG (aJ oj (pv 0) (pv 1))))) (af mB) aF)),?_⟩;refine⟨l,rfl,fun _=>?_,fun z=>absurd ⟨O,h1⟩ z⟩;refine (ay (dv ?_));refine (gW (gW (cU (ay (ci (fun c=>?_) (fun _=>Y))))));have c':l<m:=IZ c;exact absurd c' (by lia)
abbrev kZ:Stmt:=top 19
theorem gZ:aE ["level","wide","step"] ["level"] (aq kZ):={}
inductive m8  (vs:List V)(H:Hp)(Q:VK):Prop
 |mk (n:Nat) (h_0:vs=[.int n]) (h_1:n<=64) (h_2:Q (.int ((2^n:Nat):Int)) H):m8  vs H Q
def gX:Sp:=fun vs H Q _=>m8  vs H Q
theorem v_ (T:Tx K mg)(F:bD K "width_of" "width_of" kZ f fd .none):bB P w K mg base CX 1 f fd ["level"] gX:=by
 refine F.ok gZ (fun vs H Q E h=>?_) (fun B A outer s H vs Q E J h=>?_)
 ·obtain⟨x,rfl,_⟩:=h;rfl
 obtain⟨n,rfl,O,G⟩:=h;refine⟨_,(ab (au (i:=1) gZ ac) (ab (aN II rfl (bx rfl T.b_range (aa (pv 0) ae)) (aP (i:=2) gZ) (af (au (i:=1) gZ (aj cH (pv 1) ac)))) (af (aB (pv 1))))),?_⟩;refine⟨_,rfl,by simp,by lia,bV (fun i σ H2=>H2=H/\∃x v,x=((2^i:Nat):Int)/\σ=[some (.int n),some (.int x),v]) ⟨rfl,1,none,rfl,rfl⟩ ?_ ?_⟩
 ·rintro i σ H2 hi ⟨rfl,x,v,rfl,rfl⟩;refine⟨.inr ⟨by decide,by decide⟩,rfl,_,_,?_,rfl⟩;rw[JG,JS];rfl
 ·rintro σ H2 ⟨rfl,x,v,rfl,rfl⟩;have e:((n:Int)).toNat=n:=Jn n
  try dsimp only
  refine (gW ?_);rw[e];exact G
abbrev i8:Stmt:=top 20
theorem ij:aE ["x","y","level","wide","along"] ["x","y","level"] (aq i8):={}
inductive j9  (vs:List V)(H:Hp)(Q:VK):Prop
 |mk (x y:Int) (n:Nat) (h_0:vs=[.int x,.int y,.int n]) (h_1:n<=40) (h_2:(0<=x/\x<((2^n:Nat):Int))) (h_3:(0<=y/\y<((2^n:Nat):Int))) (h_4:∀H',ah H H'->Q .non H'):j9  vs H Q
def kH:Sp:=fun vs H Q _=>j9  vs H Q
theorem rK (T:Tx K mg)(q:bS CX)(F:bD K "need_place" "need_place" i8 f fd .none)(B:Fok P w K mg base CX 1 "width_of" ["level"] [] gX)(G:Fok P w K mg base CX 1 "is_whole" ["thing"] [] (jH K)):
  bB P w K mg base CX 2 f fd ["x","y","level"] kH:=by
 refine F.ok ij (fun vs H Q E h=>?_) (fun a0 A outer s H vs Q E O h=>?_)
 ·obtain⟨_,_,_,rfl,_⟩:=h;rfl
 obtain⟨x,y,n,rfl,hn,hx,hy,q'⟩:=h;refine⟨_,(ab (au (i:=3) ij (ai B q O (aa (pv 2) ae))) (af (aN II rfl (tR (az (am (pv 0) (am (pv 1) ak)))) (aP (i:=4) ij) (af (aT (PW.pt (g_ (ce (bL (ai G q O (aa (pv 4) ae)))) (gG (ce (BF vZ oj ac (pv 4) (pv 3)))))) (af mB) aF))))),?_⟩;refine⟨n,rfl,by lia,?_⟩;refine⟨(leZ rfl),fun p hp=>⟨p,rfl,⟨_,SqT.of ag⟩,pF (xs:=[.int x,.int y]) (fun i σ H2=>H2=upd H p (.tup [.int x,.int y])/\∃v,σ=[some (.int x),some (.int y),some (.int n),some (.int ((2^n:Nat):Int)),v]) ⟨rfl,none,rfl⟩ (fun i σ H2 _ h2=>by rw[h2.1];exact SqT.of ag) ?_ ?_⟩⟩
 ·rintro i u σ H2 J ⟨rfl,v,rfl⟩;obtain⟨a,rfl,Y⟩:∃a,u=V.int a/\(0<=a/\a<((2^n:Nat):Int)):=by
   rcases i with _|_|i
   ·exact⟨x,(Option.some.inj J).symm,hx⟩
   ·exact⟨y,(Option.some.inj J).symm,hy⟩
   ·cases J
  refine⟨_,rfl,.inl ⟨a,rfl,ay (dv ?_)⟩⟩;refine⟨_,rfl,ci (fun _=>?_) (fun c=>absurd (IC Y.1) c)⟩;exact (gW (cU (ay (wt Y.2 ⟨rfl,_,rfl⟩))))
 ·rintro σ H2 ⟨rfl,v,rfl⟩;exact q' _ (ah.new hp _)
theorem pH (x m:Nat):x/2^m/2=x/2^(m+1):=by rw[Nat.div_div_eq_div_mul,JG]
abbrev nF:Stmt:=top 22
theorem fc:aE ["x","y","level","code","step"] ["x","y","level"] (aq nF):={}
inductive oG  (vs:List V)(H:Hp)(Q:VK):Prop
 |mk (x y n:Nat) (h_0:vs=[.int x,.int y,.int n]) (h_1:n<=40) (h_2:x<2^n) (h_3:y<2^n) (h_4:∀H',ah H H'->Q (.str (txt (low n x y))) H'):oG  vs H Q
def pV:Sp:=fun vs H Q _=>oG  vs H Q
theorem xI (T:Tx K mg)(q:bS CX)(F:bD K "code_at" "code_at" nF f fd .none)(B:Fok P w K mg base CX 3 "need_level" ["level","least"] [.int 0] dA)(G:Fok P w K mg base CX 2 "need_place" ["x","y","level"] [] kH):
  bB P w K mg base CX 4 f fd ["x","y","level"] pV:=by
 refine F.ok fc (fun vs H Q E h=>?_) (fun Y A outer s H vs Q E J h=>?_)
 ·obtain⟨_,_,_,rfl,_⟩:=h;rfl
 obtain⟨x,y,n,rfl,hn,hx,hy,q'⟩:=h;refine⟨_,(ab (ba (ai B q J (aa (pv 2) ae))) (ab (ba (ai G q J (aa (pv 0) (aa (pv 1) (aa (pv 2) ae))))) (ab (au (i:=3) fc i_) (ab (aN II rfl (bx rfl T.b_range (aa (pv 2) ae)) (aP (i:=4) fc) (ab (au (i:=3) fc (aj fh (cq mX rfl T.b_str uY (aa (aj aK (aj cH (aj bF (pv 1) ac) ac) (aj bF (pv 0) ac)) ae)) (pv 3))) (ab (au (i:=0) fc (aj bI (pv 0) ac)) (af (au (i:=1) fc (aj bI (pv 1) ac)))))) (af (aB (pv 3))))))),?_⟩;refine⟨(n:Int),0,rfl,by simp,by lia,by simp,?_⟩;refine⟨x,y,n,rfl,hn,⟨by simp,by exact_mod_cast hx⟩,⟨by simp,by exact_mod_cast hy⟩,fun H1 s1=>?_⟩
 let J0:NS9:=fun i σ H2=>H2=H1/\∃z a b v,z=txt (low i x y)/\a=((x/2^i:Nat):Int)/\b=((y/2^i:Nat):Int)/\σ=[some (.int a),some (.int b),some (.int n),some (.str z),v]
 refine⟨_,rfl,by simp,by lia,bV J0 ⟨rfl,_,_,_,none,qR,by simp,by simp,rfl⟩ ?_ ?_⟩
 ·rintro i σ H2 hi ⟨rfl,z,a,b,v,rfl,rfl,rfl,rfl⟩;have hi':i<n:=by assumption
  have ed:((y/2^i:Nat):Int)%2*2+((x/2^i:Nat):Int)%2=((dgt x y i:Nat):Int):=by
   unfold dgt;generalize x/2^i=a;generalize y/2^i=b
   lia
  have O:=uO x y i;have lg:((dgt x y i:Nat):Int).natAbs.log2<1920:=by
   rw[Int.natAbs_natCast];exact four (P:=fun d=>d.log2<1920) (by decide +kernel) (by decide +kernel) (by decide +kernel) (by decide +kernel) O
  refine⟨(by show (0:Int)<2;decide),.inr ⟨by decide,by decide⟩,(by show (0:Int)<2;decide),((dgt x y i:Nat):Int),(by show [V.int _]=[V.int _];rw[ed]),lg,?_⟩;rw[yl O];refine⟨_,_,rfl,rfl,small (by rw[fj,jg];show 1+i<=1000;lia),?_⟩;refine⟨eP (by decide) (by decide),eP (by decide) (by decide),rfl,_,_,_,_,?_,?_,?_,rfl⟩
  ·rw[yO,Ck]
  ·rw[<-pH];rfl
  ·rw[<-pH];rfl
 ·rintro σ H2 ⟨rfl,z,a,b,v,rfl,rfl,rfl,rfl⟩;have e:((n:Int)).toNat=n:=Jn n
  try dsimp only
  refine (gW ?_);rw[e];exact q' _ s1
abbrev p_:Stmt:=top 21
theorem dP:aE ["code","level","x","y","sign","quarter","wide"] ["code","level"] (aq p_):={}
inductive rz  (vs:List V)(H:Hp)(Q:VK):Prop
 |mk (z:Str) (n:Nat) (h_0:vs=[.str z,.int n]) (h_1:IsC z) (h_2:z.length<=n) (h_3:n<=40) (h_4:∀p H',ah H H'->H' p=some (.tup [.int ((cxs (dig z)*2^(n-z.length):Nat):Int),.int ((cys (dig z)*2^(n-z.length):Nat):Int),.int ((2^(n-z.length):Nat):Int)])->Q (.ref p) H'):rz  vs H Q
def ki:Sp:=fun vs H Q _=>rz  vs H Q
theorem Af (T:Tx K mg)(q:bS CX)(F:bD K "corner" "corner" p_ f fd .none)(G:Fok P w K mg base CX 2 "need_code" ["code"] [] fP)(B:Fok P w K mg base CX 3 "need_level" ["level","least"] [] dA)
  (J:Fok P w K mg base CX 1 "width_of" ["level"] [] gX):bB P w K mg base CX 4 f fd ["code","level"] ki:=by
 refine F.ok dP (fun vs H Q E h=>?_) (fun a0 A outer s H vs Q E O h=>?_)
 ·obtain⟨_,_,rfl,_⟩:=h;rfl
 obtain⟨z,n,rfl,hz,hl,hn,q'⟩:=h;refine⟨_,(ab (ba (ai G q O (aa (pv 0) ae))) (ab (ba (ai B q O (aa (pv 1) (aa (av aY rfl T.b_len bN (aa (pv 0) ae)) ae)))) (ab (au (i:=2) dP ac) (ab (au (i:=3) dP ac) (ab (aN II rfl (tT (pv 0)) (aP (i:=4) dP) (ab (au (i:=5) dP (cq eA rfl T.b_int fL (aa (pv 4) ae))) (ab (au (i:=2) dP (aj aK (aj cH (pv 2) ac) (aj bF (pv 5) ac))) (af (au (i:=3) dP (aj aK (aj cH (pv 3) ac) (aj bI (pv 5) ac))))))) (ab (au (i:=6) dP (ai J q O (aa (aj cT (pv 1) (av aY rfl T.b_len bN (aa (pv 0) ae))) ae))) (af (aB (az (am (aj cH (pv 2) (pv 6)) (am (aj cH (pv 3) (pv 6)) (am (pv 6) ak)))))))))))),?_⟩;have hs:z.length<=sizeLine:=small (by lia);refine⟨z,rfl,hz,by lia,fun H1 s1=>?_⟩;refine⟨_,_,rfl,⟨hs,rfl⟩,(n:Int),(z.length:Int),rfl,by simp,by lia,by lia,?_⟩;refine⟨z,rfl,pG (fun i σ H2=>H2=H1/\∃x y Y v5,x=((cxs ((dig z).take i):Nat):Int)/\y=((cys ((dig z).take i):Nat):Int)/\σ=[some (.str z),some (.int n),some (.int x),some (.int y),Y,v5,none]) ⟨rfl,0,0,none,none,rfl,rfl,rfl⟩ ?_ ?_⟩
 ·rintro i σ H2 hi ⟨rfl,x,y,Y,v5,rfl,rfl,rfl⟩;obtain⟨d,hd,e1,e2⟩:=mr hz hi;refine⟨_,(d:Int),rfl,by rw[e1];exact mR hd,by rw[e1];show 1<=640;decide,?_⟩;refine⟨.inr ⟨by decide,by decide⟩,(by show (0:Int)<2;decide),?_⟩;refine⟨.inr ⟨by decide,by decide⟩,eP (by decide) (by decide),?_⟩;refine⟨rfl,_,_,_,_,?_,?_,rfl⟩
  ·rw[mW hi,qV,e2];rfl
  ·rw[mW hi,qU,e2];rfl
 ·rintro σ H2 ⟨rfl,x,y,Y,v5,rfl,rfl,rfl⟩;have et:(dig z).take z.length=dig z:=IS (by rw[dO];exact Iw _);rw[et];have e:(n:Int)-(z.length:Int)=((n-z.length:Nat):Int):=by lia
  refine⟨_,_,rfl,⟨hs,rfl⟩,n-z.length,(by show [V.int _]=[V.int _];rw[e]),by lia,?_⟩;have hw:=HV (k:=n-z.length) (by lia);refine⟨.inr hw,.inr hw,(leZ rfl),fun p hp=>?_⟩;refine q' p _ (s1.trans (ah.new hp _)) ?_;rw[ag,JS,JS]
end
theorem qH (h:k<n):(low n x y).take (k+1)=(low n x y).take k++[dgt x y (n-1-k)]:=by
 rw[Jf]
 congr 1
 simp[low,h]
theorem DQ (ds:List Nat)(k:Nat):pre (txt ds) k=txt (ds.take k):=by
 unfold pre txt;simp[List.map_take]
theorem uU (B:x<2^n):∀k,k<=n->cxs ((low n x y).take k)=x/2^(n-k)
 |0,_=>by rw[Lc,LN B];rfl
 |k+1,h=>by
  rw[qH (by assumption),qV,uU B k (by lia)];have e:n-k=(n-(k+1))+1:=by lia
  have G:n-1-k=n-(k+1):=by lia
  rw[e,<-pH,G];unfold dgt
  lia
theorem uQ (B:y<2^n):∀k,k<=n->cys ((low n x y).take k)=y/2^(n-k)
 |0,_=>by rw[Lc,LN B];rfl
 |k+1,h=>by
  rw[qH (by assumption),qU,uQ B k (by lia)];have e:n-k=(n-(k+1))+1:=by lia
  have G:n-1-k=n-(k+1):=by lia
  rw[e,<-pH,G];unfold dgt
  lia
section
abbrev ny:Stmt:=top 29
theorem e_:aE ["sheet","x","y","code","tree","signs"] ["sheet","x","y"] (aq ny):={}
inductive oE  (vs:List V)(H:Hp)(Q:VK):Prop
 |mk (v:V) (t:Tr) (n x y:Nat) (h_0:vs=[v,.int x,.int y]) (h_1:Hx H v n t) (h_2:bc n t) (h_3:n<=40) (h_4:x<2^n) (h_5:y<2^n) (h_6:∀(i:Nat) (c:Int) H',ah H H'->i<=n->jY t ((low n x y).take i)=some (.col c)->Q (.str (txt ((low n x y).take i))) H'):oE  vs H Q
def kW:Sp:=fun vs H Q _=>oE  vs H Q
theorem xE (T:Tx K mg)(q:bS CX)(F:bD K "leaf_at" "leaf_at" ny f fd .none)(B:Fok P w K mg base CX 4 "code_at" ["x","y","level"] [] pV):bB P w K mg base CX 5 f fd ["sheet","x","y"] kW:=by
 refine F.ok e_ (fun vs H Q E h=>?_) (fun a1 A outer s H vs Q E hr h=>?_)
 ·obtain⟨_,_,_,_,_,rfl,_⟩:=h;rfl
 obtain⟨v,t,n,x,y,rfl,⟨p,vt,rfl,hp,ht⟩,gt,hn,hx,hy,q'⟩:=h;refine⟨_,(ab (au (i:=3) e_ (ai B q hr (aa (pv 1) (aa (pv 2) (aa (aD aI (pv 0) ac) ae))))) (ab (au (i:=4) e_ (aD aI (pv 0) ac)) (ab (au (i:=5) e_ ac) (ab (jQ II (bL (av (aQ "tuple") rfl T.b_isinstance aH (aa (pv 4) (aa (cm T.b_tuple fE) ae)))) (ab (au (i:=4) e_ (aD aI (pv 4) (cq eA rfl T.b_int fL (aa (aD qL (pv 3) (pv 5)) ae)))) (af (au (i:=5) e_ (aj aK (pv 5) ac))))) (af (aB (jT xj (pv 3) mD (mC (pv 5))))))))),?_⟩
 have zs:(txt (low n x y)).length<=sizeLine:=by rw[fj,jg];exact small (by lia)
 refine⟨p,_,_,_,rfl,rfl,SqT.of hp,rfl,x,y,n,rfl,hn,hx,hy,fun H1 s1=>?_⟩;refine⟨p,_,_,_,rfl,rfl,SqT.of (s1 _ _ hp),rfl,?_⟩;refine AT (fun σ H2=>H2=H1/\∃(i:Nat) (v':V) (t':Tr),i<=n/\cM H1 v' t'/\jY t ((low n x y).take i)=some t'/\bc (n-i) t'/\σ=[some (.ref p),some (.int x),some (.int y),some (.str (txt (low n x y))),some v',some (.int (i:Int))]) (fun σ H2=>match σ with | [_,_,_,_,_,some (.int i)]=>n-i.toNat | _=>0) ⟨rfl,0,vt,t,IG _,ht.up s1.tups,rfl,gt,rfl⟩ ?_ ?_
 ·rintro σ H2 ⟨rfl,i,v',t',hi,a0,J,G,rfl⟩;cases a0 with
  |col j=>
   refine⟨_,_,_,rfl,.int j,qK,ay (dv ?_)⟩;refine⟨_,rfl,_,rfl,zs,?_⟩;rw[kj,DQ];exact q' i j H2 s1 hi J
  | @four r xa xb xc xd ta tb tc td e ja jb jc jd=>
   have O:i<n:=by
    rcases JV i n with z|z
    ·exact z
    ·rw[show n-i=0 by lia]at G;exact G.elim
   have ed:(low n x y).take (i+1)=(low n x y).take i++[dgt x y (n-1-i)]:=qH O;have hd:dgt x y (n-1-i)<4:=uO ..;have ga:(low n x y)[i]? = some (dgt x y (n-1-i)):=by simp[low,O]
   generalize dgt x y (n-1-i)=d at *;rw[show n-i=(n-(i+1))+1 by lia]at G;obtain⟨g1,g2,g3,g4,_⟩:=G;have key:∃Y,atI [xa,xb,xc,xd] (d:Int)=some Y/\cM H2 Y (qk (.four ta tb tc td) d)/\bc (n-(i+1)) (qk (.four ta tb tc td) d):=by
    rcases d with _|_|_|_|d
    ·exact⟨xa,rfl,ja,g1⟩
    ·exact⟨xb,rfl,jb,g2⟩
    ·exact⟨xc,rfl,jc,g3⟩
    ·exact⟨xd,rfl,jd,g4⟩
    ·lia
   obtain⟨Y,ex,kx,gx⟩:=key;have at':atI (txt (low n x y)).cps.toList (i:Int)=some (48+d):=bG (by show (((low n x y).map (48 + ·)).toArray).toList[i]? = _;simp[ga]);refine⟨_,_,_,rfl,.tup e,j5,ay (oP ?_)⟩;refine⟨_,i,48+d,rfl,rfl,zs,at',_,(d:Int),rfl,mR hd,by show (1:Nat)<=640;decide,r,_,_,Y,rfl,rfl,SqT.of e,ex,?_⟩;refine⟨⟨rfl,i+1,Y,_,by assumption,kx,?_,gx,by simp⟩,?_⟩
   ·rw[ed,qC,J];rfl
   ·show n-((i:Int)+1).toNat<n-((i:Int)).toNat
    lia
 ·rintro σ H2 Q1 Q2 k h;have h_:=h;obtain⟨_,e1,h_⟩:=aO h_;obtain⟨b,c,d,e2,e3,e4,h_⟩:=h_;obtain⟨_,f1,f2⟩:=mH h_;exact (aW e1 ⟨b,c,d,e2,e3,e4,B8 f1 (k _ _ f2)⟩)
end
abbrev Pt:Type:=Int×Int
abbrev LP9:=List (Pt×Nat)
abbrev PD9:=Pt->Nat->Option Pt
def ux (d:Nat):Int:=if d=0 then 1 else if d=2 then -1 else 0
def uy (d:Nat):Int:=if d=1 then 1 else if d=3 then -1 else 0
def rtx (d:Nat):Int:=if d=1\/d=2 then -1 else 0
def rty (d:Nat):Int:=if d=2\/d=3 then -1 else 0
def go (a:Pt)(k:Nat)(d:Nat):Pt:=(a.1+k*ux d,a.2+k*uy d)
def cl (C:II9)(p:Pt)(d:Nat):Prop:=C (p.1+rtx d) (p.2+rty d)
def Bd (C:II9)(p:Pt)(d:Nat):Prop:=cl C p d/\¬ cl C p ((d+3)%4)
theorem dk (h:d<4):d=0\/d=1\/d=2\/d=3:=by lia
theorem d_ (a:Pt)(d:Nat):go a 0 d=a:=by simp[go]
theorem jk (a:Pt)(k j d:Nat):go (go a k d) j d=go a (k+j) d:=by
 refine Prod.ext ?_ ?_<;>simp only[go,Ky,Int.add_mul]<;>lia
theorem jj (B:d<4)(h:go a k d=go a j d):k=j:=by
 have h1:=I_ Prod.fst h;have h2:=I_ Prod.snd h;rcases dk B with rfl | rfl | rfl | rfl<;>simp[go,ux,uy]at h1 h2<;>lia
theorem sK (h:go a k d=go b k d):a=b:=by
 have h1:=I_ Prod.fst h;have h2:=I_ Prod.snd h;simp only[go]at h1 h2;exact Prod.ext (by lia) (by lia)
theorem Gd (B:d<4)(h:go a 1 d=p):Bd C a d↔cl C p ((d+1)%4)/\¬ cl C p ((d+2)%4):=by
 subst h;unfold Bd cl;rcases dk B with rfl | rfl | rfl | rfl<;>simp[go,ux,uy,rtx,rty,Int.add_assoc]
structure Pcs (C:II9)(D:PD9):Prop where
 way:∀{a d e},D a d=some e->d<4
 len:∀{a d e},D a d=some e->∃l:Nat,0<l/\e=go a l d/\∀k<l,Bd C (go a k d) d
 all:∀{p d},d<4->Bd C p d->∃a l k,D a d=some (go a l d)/\k<l/\p=go a k d
 one:∀{a b d l m k j},D a d=some (go a l d)->D b d=some (go b m d)->k<l->j<m->go a k d=go b j d->a=b
def turn (C:II9)(p:Pt)(d:Nat)(e:Nat):Prop:=(¬ cl C p d/\e=(d+1)%4)\/(cl C p d/\¬ cl C p ((d+3)%4)/\e=d)\/(cl C p d/\cl C p ((d+3)%4)/\e=(d+3)%4)
section
theorem Pcs.last (h:Pcs C D)(e:D a d=some p):∃l b,p=go a (l+1) d/\b=go a l d/\go b 1 d=p/\(cl C p ((d+1)%4)/\¬ cl C p ((d+2)%4)):=by
 obtain⟨l,J,ep,G⟩:=h.len e;obtain⟨m,rfl⟩:∃m,l=m+1:=⟨l-1,by lia⟩;have B:go (go a m d) 1 d=p:=by rw[jk];exact ep.symm
 exact⟨m,_,ep,rfl,B,(Gd (h.way e) B).mp (G m (by simp))⟩
theorem Pcs.begins (h:Pcs C D)(B:d<4)(hb:Bd C p d)(G:¬ (cl C p ((d+1)%4)/\¬ cl C p ((d+2)%4))\/∃a,D a d=some p):(D p d).isSome=true:=by
 obtain⟨a,l,k,e,hk,ep⟩:=h.all B hb;by_cases k0:k=0
 ·subst k0;rw[ep,d_,e];rfl
 exfalso
 obtain⟨j,rfl⟩:∃j,k=j+1:=⟨k-1,by lia⟩;have O:go (go a j d) 1 d=p:=by rw[jk];exact ep.symm
 rcases G with G|⟨b,J⟩
 ·obtain⟨l',_,e2,hB⟩:=h.len e;have e3:=jj B e2;exact G ((Gd B O).mp (hB j (by lia)))
 ·obtain⟨m,b',Y,e5,e6,_⟩:=h.last J;have e7:go a j d=go b m d:=by rw[<-e5];exact sK (O.trans e6.symm)
  have e8:=h.one e (by rw[<-Y];exact J) (show j<l by lia) (show m<m+1 by simp) e7;subst e8;rw[J]at e;have e9:=jj B (Y.symm.trans (Option.some.inj e));have a0:=jj B e7
  lia
theorem Pcs.first (h:Pcs C D)(e:(D p d).isSome=true):d<4/\Bd C p d:=by
 obtain⟨q,e⟩:=I8.mp e;obtain⟨l,B,_,G⟩:=h.len e
 have:=G 0 B
 rw[d_]at this;exact⟨h.way e,this⟩
def nx (D:PD9)(x:Pt×Nat):Pt×Nat:=match D x.1 x.2 with
 |none=>x
 |some p=>if (D p ((x.2+1)%4)).isSome=true then (p,(x.2+1)%4) else if (D p x.2).isSome=true then (p,x.2) else (p,(x.2+3)%4)
theorem mI (e:D a d=some p):nx D (a,d)=if (D p ((d+1)%4)).isSome=true then (p,(d+1)%4) else if (D p d).isSome=true then (p,d) else (p,(d+3)%4):=by
 unfold nx;dsimp only;rw[e]
theorem hJ (h:Pcs C D)(e:D a d=some p):∃e',nx D (a,d)=(p,e')/\(D p e').isSome=true/\turn C p d e'/\e'<4:=by
 have B:=h.way e;obtain⟨l,b,e1,e2,e3,G,J⟩:=h.last e;rw[mI e];have O:((d+1)%4+3)%4=d:=by omega
 have m2:((d+1)%4+1)%4=(d+2)%4:=by simp
 have m3:((d+3)%4+3)%4=(d+2)%4:=by lia
 have m4:((d+3)%4+1)%4=d:=by omega
 have m5:((d+3)%4+2)%4=(d+1)%4:=by lia
 by_cases q1:(D p ((d+1)%4)).isSome=true
 ·rw[if_pos q1]
  have:=(h.first q1).2.2
  rw[O]at this;exact⟨_,rfl,q1,.inl ⟨this,rfl⟩,by lia⟩
 rw[if_neg q1];have cd:cl C p d:=Classical.byContradiction fun n=>q1 (h.begins (by lia) ⟨G,by rw[O];exact n⟩ (.inl fun k=>J (by rw[m2]at k;exact k.1)));by_cases q2:(D p d).isSome=true
 ·rw[if_pos q2];exact⟨_,rfl,q2,.inr (.inl ⟨cd,(h.first q2).2.2,rfl⟩),B⟩
 rw[if_neg q2];have Y:cl C p ((d+3)%4):=Classical.byContradiction fun n=>q2 (h.begins B ⟨cd,n⟩ (.inr ⟨a,e⟩));refine⟨_,rfl,h.begins (by lia) ⟨Y,by rw[m3];exact J⟩ (.inl fun k=>k.2 (by rw[m5];exact G)),.inr (.inr ⟨cd,Y,rfl⟩),by lia⟩
theorem zG (h:d<4)(h':d'<4)(Y:cl C p ((d+1)%4))(a2:¬ cl C p ((d+2)%4))(b1:cl C p ((d'+1)%4))(b2:¬ cl C p ((d'+2)%4))(t:turn C p d e)(t':turn C p d' e):d=d':=by
 unfold turn at t t';rcases dk h with rfl | rfl | rfl | rfl<;>rcases dk h' with rfl | rfl | rfl | rfl<;>first
  |rfl
  | (exfalso
     simp only[Nat.reduceAdd,Nat.reduceMod]at Y a2 b1 b2 t t';generalize cl C p 0=c0 at *;generalize cl C p 1=c1 at *;generalize cl C p 2=c2 at *;generalize cl C p 3=c3 at *;rcases t with⟨B,G⟩ | ⟨B,t3,G⟩ | ⟨B,t3,G⟩<;>rcases t' with⟨J,O⟩ | ⟨J,u3,O⟩ | ⟨J,u3,O⟩<;>first | contradiction | lia)
theorem xJ (h:Pcs C D)(G:(D x.1 x.2).isSome=true)(J:(D y.1 y.2).isSome=true)(e:nx D x=nx D y):x=y:=by
 obtain⟨a,d⟩:=x;obtain⟨b,d'⟩:=y;obtain⟨p,ep⟩:=I8.mp G;obtain⟨q,B⟩:=I8.mp J;dsimp only at ep B;obtain⟨e1,O,_,Y,_⟩:=hJ h ep;obtain⟨e2,n2,_,t2,_⟩:=hJ h B;rw[O,n2]at e;injection e with k1 k2;subst k1 k2;obtain⟨l,b1,f1,f2,f3,c1,c2⟩:=h.last ep;obtain⟨m,b2,g1,g2,g3,c3,c4⟩:=h.last B;have dd:=zG (h.way ep) (h.way B) c1 c2 c3 c4 Y t2;subst dd;have e7:go a l d=go b m d:=by rw[<-f2,<-g2];exact sK (f3.trans g3.symm)
 have:=h.one (by rw[<-f1];exact ep) (by rw[<-g1];exact B) (Ki l) (Ki m) e7
 rw[this]
end
def it {α:Type}(f:α->α):Nat->α->α
 |0,a=>a
 |n+1,a=>f (it f n a)
theorem cI (f:α->α)(a:α)(i:Nat):∀j,it f j (it f i a)=it f (i+j) a
 |0=>rfl
 |j+1=>by
  show f (it f j (it f i a))=f (it f (i+j) a);rw[cI f a i j]
theorem nR {α:Type}{f:α->α}{S:α->Prop}(B:∀a,S a->S (f a)){a:α}(h:S a):∀n,S (it f n a)
 |0=>h
 |n+1=>B _ (nR B h n)
theorem xU {α:Type}{f:α->α}{S:α->Prop}(B:∀a,S a->S (f a))(hi:∀a b,S a->S b->f a=f b->a=b){a b:α}(G:S a)(J:S b):∀n,it f n a=it f n b->a=b
 |0,e=>e
 |n+1,e=>xU B hi G J n (hi _ _ (nR B G n) (nR B J n) e)
theorem dt [DecidableEq α]:∀{l S:List α},l.Nodup->(∀x∈l,x∈S)->l.length<=S.length
 | [],_,_,_=>IG _
 |x::l,S,nd,h=>by
  obtain⟨J,O⟩:=JE.mp nd;have B:=h x IF
  have:=dt (l:=l) (S:=S.erase x) O fun y G=>(Lk (fun (e:y=x)=>J (by rw[<-e];exact G))).mpr (h y (IA _ G))
  rw[List.length_erase_of_mem B]at this
  have:=JI B
  simp only[Jb]
  lia
theorem Hc {P:Nat->Prop}{n:Nat}(h:P n):∃m,P m/\m<=n/\∀k<m,¬ P k:=by
 induction n using Nat.strongRecOn with
 |ind n ih=>
  by_cases c:∃k,k<n/\P k
  ·obtain⟨k,B,G⟩:=c;obtain⟨m,h1,h2,J⟩:=ih k B G;exact⟨m,h1,by lia,J⟩
  ·exact⟨n,h,Iw _,fun k B G=>c ⟨k,B,G⟩⟩
theorem EZ {α:Type}[DecidableEq α]{f:α->α}{S:List α}(G:∀a∈S,f a∈S)(hi:∀a b,a∈S->b∈S->f a=f b->a=b){a:α}(J:a∈S):
  ∃N,0<N/\N<=S.length/\(it f N a=a/\∀i j,i<j->j<N->it f i a≠it f j a):=by
 have mem:∀n,it f n a∈S:=nR (S:=(· ∈ S)) G J;have back:∀i j,i<j->it f i a=it f j a->it f (j-i) a=a:=fun i j B e=>by
  have:it f i (it f (j-i) a)=it f i a:=by rw[cI,show j-i+i=j by lia];exact e.symm
  exact xU (S:=(· ∈ S)) G hi (mem _) J i this
 have ex:∃i j,i<j/\j<=S.length/\it f i a=it f j a:=Classical.byContradiction fun no=>by
  have nd:((List.range (S.length+1)).map fun k=>it f k a).Nodup:=by
   unfold List.Nodup;rw[Jc]
   have:(List.range (S.length+1)).Pairwise fun x y=>x<y/\y<=S.length:=by
    rw[JA];intro i j hi hj B;simp at hi hj ⊢
    lia
   exact this.imp fun {x y} h e=>no ⟨x,y,h.1,h.2,e⟩
  have:=dt (S:=S) nd fun x O=>by
   obtain⟨k,_,rfl⟩:=Iv.mp O;exact mem k
  simp at this
  lia
 obtain⟨i,j,B,hj,e⟩:=ex;have Y:0<j-i/\it f (j-i) a=a:=⟨by lia,back i j B e⟩;obtain⟨N,⟨h1,h2⟩,h3,h4⟩:=Hc (P:=fun n=>0<n/\it f n a=a) Y;refine⟨N,h1,by lia,h2,fun i j B a0 e=>?_⟩;exact h4 (j-i) (by lia) ⟨by lia,back i j B e⟩
def axd (d:Nat):Bool:=decide (d=0\/d=2)
def sgd (d:Nat):Bool:=decide (d=0\/d=3)
def InS (q:Sq)(x y:Int):Prop:=(q.x:Int)<=x/\x<q.x+q.w/\(q.y:Int)<=y/\y<q.y+q.w
def tlo (q:Sq)(d:Nat):Int:=if axd d then q.x else q.y
def iw (L:List Sq)(q:Sq)(d:Nat):List Sq:=L.filter fun r=>eJ (axd d) (sgd d) q r.x r.y r.w
def cP (L:List Sq)(q:Sq)(d:Nat):List (Int×Int):=if iw L q d=[] then [(tlo q d,tlo q d+q.w)] else ((iw L q d).filter fun r=>decide (r.c≠q.c)).map fun r=>(max (tlo q d) (tlo r d),min (tlo q d+q.w) (tlo r d+r.w))
def cK (q:Sq)(d:Nat)(be:Int×Int):Pt×Pt :=
 if d=0 then ((be.1,q.y),(be.2,q.y)) else if d=1 then ((q.x+q.w,be.1),(q.x+q.w,be.2)) else if d=2 then ((be.2,q.y+q.w),(be.1,q.y+q.w)) else ((q.x,be.2),(q.x,be.1))
def gen (q:Sq)(d:Nat)(be:Int×Int):NK×Pt:=(((cK q d be).1,(d:Int)),(cK q d be).2)
def G1 (L:List Sq)(q:Sq)(d:Nat):List (NK×Pt):=(cP L q d).map (gen q d)
def GL (L M:List Sq):List (NK×Pt):=M.flatMap fun q=>(List.range 4).flatMap fun d=>G1 L q d
theorem n9:p∈GL L M↔∃q∈M,∃d,d<4/\∃B∈cP L q d,p=gen q d B:=by
 unfold GL G1;simp only[KS,Iv,Jm];constructor
 ·rintro⟨q,G,d,J,B,O,rfl⟩;exact⟨q,G,d,J,B,O,rfl⟩
 ·rintro⟨q,G,d,J,B,O,rfl⟩;exact⟨q,G,d,J,B,O,rfl⟩
def rcx (q:Sq)(d:Nat)(t:Int):Int:=if d=0\/d=2 then t else if d=1 then q.x+q.w-1 else q.x
def rcy (q:Sq)(d:Nat)(t:Int):Int:=if d=1\/d=3 then t else if d=2 then q.y+q.w-1 else q.y
def lcx (q:Sq)(d:Nat)(t:Int):Int:=if d=0\/d=2 then t else if d=1 then q.x+q.w else q.x-1
def lcy (q:Sq)(d:Nat)(t:Int):Int:=if d=1\/d=3 then t else if d=2 then q.y+q.w else q.y-1
structure Lnd (L M:List Sq)(W:Int)(col:Int):Prop where
 pos:∀q∈L,0<q.w
 apart:∀q∈L,∀r∈L,∀x y,InS q x y->InS r x y->q=r
 cover:∀x y,0<=x->x<W->0<=y->y<W->∃q∈L,InS q x y
 inside:∀q∈L,(q.x:Int)+q.w<=W/\(q.y:Int)+q.w<=W
 sub:∀q∈M,q∈L
 colour:∀q∈M,q.c=col
 closed:∀q∈M,∀r∈L,∀d,d<4->eJ (axd d) (sgd d) q r.x r.y r.w=true->r.c=col->r∈M
def CM (M:List Sq)(x y:Int):Prop:=∃q∈M,InS q x y
theorem nO (B:d<4):eJ (axd d) (sgd d) q r.x r.y r.w=true ↔
  (if d=0 then r.y+r.w=q.y else if d=1 then r.x=q.x+q.w else if d=2 then r.y=q.y+q.w else r.x+r.w=q.x)/\tlo q d<tlo r d+r.w/\tlo r d<tlo q d+q.w:=by
 unfold eJ;rw[Jd];unfold gO;rcases dk B with rfl | rfl | rfl | rfl<;>simp[axd,sgd,nC,tC',tlo]<;>omega
theorem lin (G:d<4)(B:eJ (axd d) (sgd d) q r.x r.y r.w=true)(h1:tlo r d<=t)(h2:t<tlo r d+r.w):InS r (lcx q d t) (lcy q d t):=by
 have B:=((nO G).mp B).1;unfold InS;rcases dk G with rfl | rfl | rfl | rfl<;>simp[lcx,lcy,tlo,axd]at B h1 h2 ⊢<;>lia
theorem rin (B:d<4)(h1:tlo q d<=t)(h2:t<tlo q d+q.w):InS q (rcx q d t) (rcy q d t):=by
 unfold InS;rcases dk B with rfl | rfl | rfl | rfl<;>simp[rcx,rcy,tlo,axd]at h1 h2 ⊢<;>lia
section
theorem Lnd.lies (h:Lnd L M W col)(Y:q∈L)(J:r∈L)(O:d<4)(ht:tlo q d<=t/\t<tlo q d+q.w)(hi:InS r (lcx q d t) (lcy q d t)):r∈iw L q d/\tlo r d<=t/\t<tlo r d+r.w:=by
 have hw:=h.pos q Y;have B:InS q (rcx q d t) (rcy q d t):=rin O ht.1 ht.2;have G:¬ InS r (rcx q d t) (rcy q d t):=fun c=>by
  have e:=h.apart q Y r J _ _ B c;subst e;unfold InS at hi;rcases dk O with rfl | rfl | rfl | rfl<;>simp[lcx,lcy]at hi<;>omega
 have a0:∀x y,InS q x y->¬ InS r x y:=fun x y hx c=>by
  have e:=h.apart q Y r J _ _ hx c;subst e;exact G B
 have rw':=h.pos r J;unfold iw;rw[Ji,nO O];unfold InS at hi G B;rcases dk O with rfl | rfl | rfl | rfl<;>simp[lcx,lcy,rcx,rcy,tlo,axd]at hi G ht ⊢<;>refine⟨⟨J,?_⟩,?_⟩<;>lia
theorem Lnd.bare (h:Lnd L M W col)(hq:q∈M)(O:d<4)(Y:be∈cP L q d):be.1<be.2/\∀t,be.1<=t->t<be.2->tlo q d<=t/\t<tlo q d+q.w/\CM M (rcx q d t) (rcy q d t)/\¬ CM M (lcx q d t) (lcy q d t):=by
 have hL:=h.sub q hq;have hw:=h.pos q hL;have rc:∀t,tlo q d<=t->t<tlo q d+q.w->CM M (rcx q d t) (rcy q d t):=fun t h1 h2=>⟨q,hq,rin O h1 h2⟩;unfold cP at Y
 split at Y
 ·rename_i e
  have:=Iu.mp Y
  subst this;refine⟨by dsimp only;lia,fun t h1 h2=>⟨h1,h2,rc t h1 h2,?_⟩⟩;rintro⟨r,hr,hi⟩
  have:=(h.lies hL (h.sub r hr) O ⟨h1,h2⟩ hi).1
  rw[e]at this;cases this
 ·obtain⟨r,hr,rfl⟩:=Iv.mp Y;obtain⟨B,a0⟩:=Ji.mp hr;have G:r∈L:=(Ji.mp B).1;have hl:=(nO O).mp (Ji.mp B).2;have a1:r.c≠q.c:=IZ a0;have a3:=h.pos r G;refine⟨by dsimp only;omega,fun t h1 h2=>?_⟩;dsimp only at h1 h2;have k1:=Ks (Int.le_max_left ..) h1;have k2:=Ly h2 (Int.min_le_left ..);refine⟨k1,k2,rc t k1 k2,?_⟩;rintro⟨r',J,hi⟩;have a2:=lin O (Ji.mp B).2 (Ks (Lj ..) h1) (Ly h2 (LW ..));have e:=h.apart r' (h.sub r' J) r G _ _ hi a2;subst e;exact a1 ((h.colour r' J).trans (h.colour q hq).symm)
theorem Lnd.part_one (h:Lnd L M W col)(hq:q∈M)(h4:d<4)(O:be∈cP L q d)(B:be'∈cP L q d)(ht:be.1<=t/\t<be.2)(G:be'.1<=t/\t<be'.2):be=be':=by
 have hL:=h.sub q hq;unfold cP at O B
 split at O
 ·rename_i e
  rw[if_pos e]at B;rw[Iu.mp O,Iu.mp B]
 ·rename_i e
  rw[if_neg e]at B;obtain⟨r,Y,rfl⟩:=Iv.mp O;obtain⟨r',a0,rfl⟩:=Iv.mp B;have go:∀r,r∈(iw L q d).filter (fun r=>decide (r.c≠q.c))->max (tlo q d) (tlo r d)<=t->t<min (tlo q d+q.w) (tlo r d+r.w)->r∈L/\InS r (lcx q d t) (lcy q d t):=fun r Y h1 h2=>by
   have J:=(Ji.mp Y).1;exact⟨(Ji.mp J).1,lin h4 (Ji.mp J).2 (Ks (Lj ..) h1) (Ly h2 (LW ..))⟩
  obtain⟨a1,a2⟩:=go r Y ht.1 ht.2;obtain⟨b1,b2⟩:=go r' a0 G.1 G.2;rw[h.apart r a1 r' b1 _ _ a2 b2]
theorem Lnd.part_of (h:Lnd L M W col)(G:q∈M)(B:d<4)(h1:tlo q d<=t)(h2:t<tlo q d+q.w)(hn:¬ CM M (lcx q d t) (lcy q d t)):∃be∈cP L q d,be.1<=t/\t<be.2:=by
 have J:=h.sub q G;have hw:=h.pos q J;obtain⟨i1,i2⟩:=h.inside q J;unfold cP;by_cases e:iw L q d=[]
 ·rw[if_pos e];exact⟨_,Iu.mpr rfl,h1,h2⟩
 ·rw[if_neg e];obtain⟨o,ho⟩:=List.exists_mem_of_ne_nil _ e;obtain⟨O,o2⟩:=Ji.mp ho;have ol:=(nO B).mp o2;obtain⟨j1,j2⟩:=h.inside o O;have ow:=h.pos o O;obtain⟨r,Y,hi⟩:∃r∈L,InS r (lcx q d t) (lcy q d t):=by
   refine h.cover _ _ ?_ ?_ ?_ ?_<;>rcases dk B with rfl | rfl | rfl | rfl<;>simp[lcx,lcy,tlo,axd]at ol h1 h2 ⊢<;>lia
  obtain⟨k1,k2,k3⟩:=h.lies J Y B ⟨h1,h2⟩ hi;have hc:r.c≠q.c:=fun c=>hn ⟨r,h.closed q G r Y d B (Ji.mp k1).2 (c.trans (h.colour q G)),hi⟩;exact⟨_,Iv.mpr ⟨r,Ji.mpr ⟨k1,IC hc⟩,rfl⟩,by dsimp only;lia,by dsimp only;lia⟩
def unit (d:Nat)(be:Int×Int)(k:Nat):Int:=if d=0\/d=1 then be.1+k else be.2-1-k
theorem qN (G:d<4)(B:Int×Int)(k:Nat):(go (cK q d B).1 k d).1+rtx d=rcx q d (unit d B k)/\(go (cK q d B).1 k d).2+rty d=rcy q d (unit d B k)/\(go (cK q d B).1 k d).1+rtx ((d+3)%4)=lcx q d (unit d B k)/\(go (cK q d B).1 k d).2+rty ((d+3)%4)=lcy q d (unit d B k):=by
 rcases dk G with rfl|rfl|rfl|rfl<;>simp[go,ux,uy,rtx,rty,cK,rcx,rcy,lcx,lcy,unit]<;>lia
theorem pD (B:d<4)(h:be.1<be.2):(cK q d be).2=go (cK q d be).1 (be.2-be.1).toNat d:=by
 have e:((be.2-be.1).toNat:Int)=be.2-be.1:=by lia
 rcases dk B with rfl|rfl|rfl|rfl<;>refine Prod.ext ?_ ?_<;>simp[go,ux,uy,cK,e]<;>lia
theorem tu (h:k<(be.2-be.1).toNat):be.1<=unit d be k/\unit d be k<be.2:=by
 unfold unit
 split<;>lia
theorem Gk (h:Lnd L M W col)(G:q∈M)(B:d<4)(J:be∈cP L q d)(O:k<(be.2-be.1).toNat):Bd (CM M) (go (cK q d be).1 k d) d:=by
 obtain⟨Y,e2,e3,e4⟩:=qN (q:=q) B be k;obtain⟨u1,u2⟩:=tu (d:=d) O;obtain⟨_,_,c1,c2⟩:=(h.bare G B J).2 _ u1 u2;unfold Bd cl;rw[Y,e2,e3,e4];exact⟨c1,c2⟩
theorem zc (h:Lnd L M W col)(O:q∈M)(G:q'∈M)(B:d<4)(Y:be∈cP L q d)(J:be'∈cP L q' d)(hk:k<(be.2-be.1).toNat)(hj:j<(be'.2-be'.1).toNat)(e:go (cK q d be).1 k d=go (cK q' d be').1 j d):q=q'/\be=be':=by
 obtain⟨e1,e2,_,_⟩:=qN (q:=q) B be k;obtain⟨f1,f2,_,_⟩:=qN (q:=q') B be' j;rw[e]at e1 e2;have g1:rcx q d (unit d be k)=rcx q' d (unit d be' j):=e1.symm.trans f1;have g2:rcy q d (unit d be k)=rcy q' d (unit d be' j):=e2.symm.trans f2;obtain⟨u1,u2⟩:=tu (d:=d) hk;obtain⟨v1,v2⟩:=tu (d:=d) hj;obtain⟨a1,a2,_,_⟩:=(h.bare O B Y).2 _ u1 u2;obtain⟨b1,b2,_,_⟩:=(h.bare G B J).2 _ v1 v2;have eq:=h.apart q (h.sub q O) q' (h.sub q' G) _ _ (rin B a1 a2) (by rw[g1,g2];exact rin B b1 b2);subst eq;have et:unit d be k=unit d be' j:=by
  rcases dk B with rfl|rfl|rfl|rfl<;>simp[rcx,rcy]at g1 g2<;>omega
 exact⟨rfl,h.part_one O B Y J ⟨u1,u2⟩ (et▸⟨v1,v2⟩)⟩
def DG (L M:List Sq)(a:Pt)(d:Nat):Option Pt:=((GL L M).find? fun p=>decide (p.1=(a,(d:Int)))).map (·.2)
theorem rD (h:DG L M a d=some e):((a,(d:Int)),e)∈GL L M:=by
 obtain⟨p,h1,rfl⟩:=IX.mp h;have h2:=L6 h1;have B:p.1=(a,(d:Int)):=IZ h2;rw[<-B];exact KR h1
theorem vh (h:DG L M a d=some e):d<4/\∃q∈M,∃B∈cP L q d,a=(cK q d B).1/\e=(cK q d B).2:=by
 obtain⟨q,J,d',O,B,Y,G⟩:=n9.mp (rD h);unfold gen at G;simp only[Prod.mk.injEq]at G
 have:d=d':=by lia
 subst this;exact⟨O,q,J,B,Y,G.1.1,G.2⟩
theorem go0 (a:Pt)(d:Nat):go a 0 d=a:=d_ a d
theorem Dd (h:Lnd L M W col)(h1:(k,e)∈GL L M)(h2:(k,e')∈GL L M):e=e':=by
 obtain⟨q,hq,d,J,be,hb,O⟩:=n9.mp h1;obtain⟨q',B,d',a0,a1,G,Y⟩:=n9.mp h2;unfold gen at O Y;simp only[Prod.mk.injEq]at O Y;obtain⟨rfl,rfl⟩:=O;obtain⟨e3,rfl⟩:=Y;simp only[Prod.mk.injEq]at e3
 have:d=d':=by lia
 subst this;have l1:=(h.bare hq J hb).1;have l2:=(h.bare B J G).1;obtain⟨rfl,rfl⟩:=zc h hq B J hb G (k:=0) (j:=0) (by lia) (by lia) (by rw[go0,go0];exact e3.1);rfl
theorem Hz (h:Lnd L M W col)(G:q∈M)(J:d<4)(O:be∈cP L q d):DG L M (cK q d be).1 d=some (cK q d be).2:=by
 have B:gen q d be∈GL L M:=n9.mpr ⟨q,G,d,J,be,O,rfl⟩;cases e:DG L M (cK q d be).1 d with
 |none=>
  have:=(Option.map_eq_none_iff.mp e)
  have:=List.find?_eq_none.mp this _ B
  exact absurd (IC rfl) this
 |some p=>rw[Dd h (rD e) B]
theorem EM {q:Sq}{p:Pt}{d:Nat}(G:d<4){t:Int}(O:t=if d=0 then p.1 else if d=1 then p.2 else if d=2 then p.1-1 else p.2-1)(Y:if d=0 then p.2=q.y else if d=1 then p.1=q.x+q.w else if d=2 then p.2=q.y+q.w else p.1=q.x){B:Int×Int}(h1:B.1<=t)(h2:t<B.2):∃k,k<(B.2-B.1).toNat/\p=go (cK q d B).1 k d:=by
 obtain⟨k,J⟩:∃k:Nat,k=(if d=0\/d=1 then t-B.1 else B.2-1-t).toNat:=⟨_,rfl⟩;refine⟨k,?_,Prod.ext ?_ ?_⟩
 ·rcases dk G with rfl|rfl|rfl|rfl<;>simp at J ⊢<;>lia
 ·rcases dk G with rfl|rfl|rfl|rfl<;>simp[go,ux,cK]at J O Y ⊢<;>lia
 ·rcases dk G with rfl|rfl|rfl|rfl<;>simp[go,uy,cK]at J O Y ⊢<;>lia
theorem pcs (h:Lnd L M W col):Pcs (CM M) (DG L M) where
 way:=fun e=>(vh e).1
 len:=fun {a d e} he=>by
  obtain⟨B,q,J,G,O,rfl,rfl⟩:=vh he;have l1:=(h.bare J B O).1;exact⟨(G.2-G.1).toNat,by lia,pD B l1,fun k hk=>Gk h J B O hk⟩
 all:=fun {p d} B O=>by
  obtain⟨⟨q,J,hi⟩,hn⟩:=O;have hL:=h.sub q J;have hw:=h.pos q hL;have a0:¬ InS q (p.1+rtx ((d+3)%4)) (p.2+rty ((d+3)%4)):=fun c=>hn ⟨q,J,c⟩;unfold cl CM at hn;obtain⟨t,et⟩:∃t,t=if d=0 then p.1 else if d=1 then p.2 else if d=2 then p.1-1 else p.2-1:=⟨_,rfl⟩
  have key:tlo q d<=t/\t<tlo q d+q.w/\p.1+rtx ((d+3)%4)=lcx q d t/\p.2+rty ((d+3)%4)=lcy q d t/\(if d=0 then p.2=q.y else if d=1 then p.1=q.x+q.w else if d=2 then p.2=q.y+q.w else p.1=q.x):=by
   unfold InS at hi a0;subst et;rcases dk B with rfl | rfl | rfl | rfl<;>simp[rtx,rty,tlo,axd,lcx,lcy]at hi a0 ⊢<;>lia
  obtain⟨t1,t2,t3,t4,t6⟩:=key;have t5:∀G:Int×Int,G.1<=t->t<G.2->∃k,k<(G.2-G.1).toNat/\p=go (cK q d G).1 k d:=fun G h1 h2=>EM B et t6 h1 h2;rw[t3,t4]at hn;obtain⟨G,O,b1,b2⟩:=h.part_of J B t1 t2 hn;obtain⟨k,hk,ep⟩:=t5 G b1 b2;have l1:=(h.bare J B O).1;exact⟨_,_,k,(Hz h J B O).trans (by rw[pD B l1]),hk,ep⟩
 one:=fun {a b d l m k j} ha O hk hj e=>by
  obtain⟨B,q,J,G,a1,rfl,e1⟩:=vh ha;obtain⟨_,q',a2,a3,Y,rfl,e2⟩:=vh O;have l1:=(h.bare J B a1).1;have l2:=(h.bare a2 B Y).1;rw[pD B l1]at e1;rw[pD B l2]at e2;have n1:=jj B e1;have n2:=jj B e2;obtain⟨rfl,rfl⟩:=zc h J a2 B a1 Y (k:=k) (j:=j) (by lia) (by lia) e;rfl
end
structure bw (L:List Sq)(A:List Nat->LN9)(zs:LN9):Prop where
 ez:zs=L.map (·.z)
 hB:L.Pairwise eF
 len:zs.length<=1500
 near:∀z z',z'∈A z↔Hv L z z'
section
theorem bw.cl (C:bw L A zs):∀z∈zs,∀y∈A z,y∈zs:=fun z _ y G=>by
 obtain⟨O,B,_,h⟩:=(C.near z y).mp G;obtain⟨q1,h1,J,h2,rfl,_⟩:=iM B;rw[C.ez];rcases h with⟨_,e⟩|⟨_,e⟩
 ·rw[e];exact Iv.mpr ⟨J,h2,rfl⟩
 ·rw[e];exact Iv.mpr ⟨q1,h1,rfl⟩
theorem bw.col (C:bw L A zs)(h:y∈A z):bo (cC L) (ky y)=bo (cC L) (ky z):=by
 obtain⟨d,_,B,h⟩:=(C.near z y).mp h;have e:bo (cC L) (ky d.1)=bo (cC L) (ky d.2):=IZ B;rcases h with⟨rfl,rfl⟩|⟨rfl,rfl⟩
 ·exact e.symm
 ·exact e
theorem bw.end_ (C:bw L A zs)(hz:z∈zs):∃k,(a_ A z k).length=k/\cO A z=a_ A z k:=by
 obtain⟨k,B,e⟩:=EL (A:=A) (z:=z) (N:=1500) fun k=>IU (BI.bfs C.cl hz k).len C.len;exact⟨k,e,pr e B⟩
theorem bw.bi (C:bw L A zs)(hz:z∈zs):BI zs (cO A z):=by
 obtain⟨k,_,e⟩:=C.end_ hz;rw[e];exact BI.bfs C.cl hz k
theorem bw.closed (C:bw L A zs)(hz:z∈zs):∀m∈cO A z,∀y∈A m.1,y∈(cO A z).map (·.1):=by
 obtain⟨k,J,e⟩:=C.end_ hz;rw[e];intro m B y G;obtain⟨i,hi⟩:=Je B;exact re A z k i m (by have:=(Ix.mp hi).1;lia) hi y G
theorem bw.first (C:bw L A zs)(hz:z∈zs):z∈(cO A z).map (·.1):=by
 obtain⟨k,_,e⟩:=C.end_ hz;rw[e];exact Iv.mpr ⟨_,ID (wM A z k),rfl⟩
theorem bw.reach (C:bw L A zs)(hz:z∈zs)(S:List Nat->Prop)(B:S z)(G:∀x y,S x->y∈A x->S y):∀m∈cO A z,S m.1:=by
 obtain⟨k,_,e⟩:=C.end_ hz;rw[e];exact sY A z S B G k
end
theorem ni (q r:Sq):cB q r=cB r q:=by
 rw[JH,eZ,eZ];unfold gR;rw[j0,j0,j0,j0,jZ,jZ,jZ,jZ];have B:min ((q.x:Int)+q.w) ((r.x:Int)+r.w)=min ((r.x:Int)+r.w) ((q.x:Int)+q.w):=Int.min_comm _ _;have G:min ((q.y:Int)+q.w) ((r.y:Int)+r.w)=min ((r.y:Int)+r.w) ((q.y:Int)+q.w):=Int.min_comm _ _;have J:max (q.x:Int) (r.x:Int)=max (r.x:Int) (q.x:Int):=Int.max_comm _ _;have O:max (q.y:Int) (r.y:Int)=max (r.y:Int) (q.y:Int):=Int.max_comm _ _;rw[B,G,J,O]
def cZ (L:List Sq)(z:List Nat):Sq:=(L.find? fun q=>decide (q.z=z)).getD ⟨[],0,0,0,0⟩
theorem iY (h:L.Pairwise eF)(B:q∈L):cZ L q.z=q:=by
 unfold cZ;cases e:L.find? fun r=>decide (r.z=q.z) with
 |none=>exact absurd (IC rfl) (List.find?_eq_none.mp e q B)
 |some r=>
  have G:=L6 e;have J:r.z=q.z:=by simpa using G
  exact yc h (KR e) B J
theorem iH:∀(t:Tr) (p:List Nat) (x y k:Nat),bc k t->∀i j:Nat,x<=i->i<x+2^k->y<=j->j<y+2^k->∃q∈sqs p t x y k,q.x<=i/\i<q.x+q.w/\q.y<=j/\j<q.y+q.w
 | .col c,p,x,y,k,_,i,j,h1,h2,h3,h4=>⟨⟨p,c,x,y,2^k⟩,Iu.mpr rfl,h1,h2,h3,h4⟩
 | .four a b c d,p,x,y,0,g,_,_,_,_,_,_=>g.elim
 | .four a b c d,p,x,y,k+1,⟨ga,gb,gc,gd,_⟩,i,j,h1,h2,h3,h4=>by
  have Y:2^(k+1)=2^k+2^k:=by rw[JG];lia
  rw[Y]at h2 h4;have A:=iH a (p++[0]) x y k ga i j;have B:=iH b (p++[1]) (x+2^k) y k gb i j;have C:=iH c (p++[2]) x (y+2^k) k gc i j;have D:=iH d (p++[3]) (x+2^k) (y+2^k) k gd i j;show ∃q∈sqs (p++[0]) a x y k++(sqs (p++[1]) b (x+2^k) y k++(sqs (p++[2]) c x (y+2^k) k++sqs (p++[3]) d (x+2^k) (y+2^k) k)),_;simp only[Iz];generalize 2^k=K at *;rcases JV i (x+K) with J | J<;>rcases JV j (y+K) with O | O
  ·obtain⟨q,G,h⟩:=A h1 J h3 O;exact⟨q,.inl G,h⟩
  ·obtain⟨q,G,h⟩:=C h1 J O (by lia);exact⟨q,.inr (.inr (.inl G)),h⟩
  ·obtain⟨q,G,h⟩:=B J (by lia) h3 O;exact⟨q,.inr (.inl G),h⟩
  ·obtain⟨q,G,h⟩:=D J (by lia) O (by lia);exact⟨q,.inr (.inr (.inr G)),h⟩
theorem kE {L:List Sq}(h:L.Pairwise eF){q r:Sq}(O:q∈L)(Y:r∈L):q=r\/Sep q r\/Sep r q:=by
 induction L with
 |nil=>cases O
 |cons p L ih=>
  obtain⟨h1,h2⟩:=JK.mp h;rcases IP.mp O with eq|G
  ·rcases IP.mp Y with J|B
   ·exact .inl (eq.trans J.symm)
   ·exact .inr (.inl (eq▸(h1 r B).1))
  ·rcases IP.mp Y with J|B
   ·exact .inr (.inr (J▸(h1 q G).1))
   ·exact ih h2 G B
theorem xP (O:d<4)(B:0<q.w)(G:0<r.w)(h:eJ (axd d) (sgd d) q r.x r.y r.w=true):cB q r=true/\cB r q=true:=by
 have J:∀{q r:Sq},0<q.w->0<r.w->gF q r=true\/j6 q r=true->cB q r=true/\cB r q=true:=fun {q r} B G h=>by
  have t:cB q r=true:=by
   rw[sd B G (h.imp (fun h=>Le (fg.mp h).1.symm) fun h=>Le (fZ.mp h).1.symm)];rcases h with h | h<;>simp[h]
  exact⟨t,by rw[ni];exact t⟩
 have h':=(nO O).mp h;rcases dk O with rfl | rfl | rfl | rfl
 ·exact (J G B (.inr (fZ.mpr (by simp[tlo,axd]at h';lia)))).symm
 ·exact J B G (.inl h)
 ·exact J B G (.inr h)
 ·exact (J G B (.inl (fg.mpr (by simp[tlo,axd]at h';lia)))).symm
def bC (L:List Sq)(A:List Nat->LN9)(z:List Nat):List Sq:=(cO A z).map fun m=>cZ L m.1
theorem fB {L:List Sq}{A:List Nat->LN9}{zs:LN9}(C:bw L A zs){q0:Sq}(h0:q0∈L)(q:Sq):q∈bC L A q0.z↔q∈L/\q.z∈(cO A q0.z).map (·.1):=by
 have J:=C.hB;have z0:q0.z∈zs:=by rw[C.ez];exact Iv.mpr ⟨q0,h0,rfl⟩
 unfold bC;constructor
 ·intro G;obtain⟨m,B,rfl⟩:=Iv.mp G;have O:=(C.bi z0).sub m B;rw[C.ez]at O;obtain⟨r,Y,er⟩:=Iv.mp O;rw[<-er,iY J Y];exact⟨Y,er▸Iv.mpr ⟨m,B,rfl⟩⟩
 ·rintro⟨G,hz⟩;obtain⟨m,B,em⟩:=Iv.mp hz;exact Iv.mpr ⟨m,B,by rw[em,iY J G]⟩
theorem lJ {t:Tr}{n:Nat}(gt:bc n t){A:List Nat->LN9}{zs:LN9}(C:bw (sqs [] t 0 0 n) A zs){q0:Sq}(h0:q0∈sqs [] t 0 0 n):Lnd (sqs [] t 0 0 n) (bC (sqs [] t 0 0 n) A q0.z) ((2^n:Nat):Int) q0.c/\q0∈bC (sqs [] t 0 0 n) A q0.z:=by
 have G:=gg t [] 0 0 n gt;have Y:=iH t [] 0 0 n gt;obtain⟨L,eL⟩:∃L,L=sqs [] t 0 0 n:=⟨_,rfl⟩;rw[<-eL]at C h0 G Y ⊢;have hB:=C.hB;have z0:q0.z∈zs:=by rw[C.ez];exact Iv.mpr ⟨q0,h0,rfl⟩
 have O:∀q,q∈bC L A q0.z↔q∈L/\q.z∈(cO A q0.z).map (·.1):=fB C h0;refine⟨⟨fun q J=>(G q J).2.2.2.2,fun q J r hr x y i j=>?_,fun x y h1 h2 h3 h4=>?_,fun q J=>?_,fun q J=>((O q).mp J).1,fun q J=>?_,fun q J r hr d h4 hl hc=>?_⟩,(O q0).mpr ⟨h0,C.first z0⟩⟩
 ·rcases kE hB J hr with e|e|e
  ·exact e
  ·unfold Sep at e;unfold InS at i j
   lia
  ·unfold Sep at e;unfold InS at i j
   lia
 ·obtain⟨q,J,k1,k2,k3,k4⟩:=Y x.toNat y.toNat (IG _) (by lia) (IG _) (by lia);exact⟨q,J,by unfold InS;lia⟩
 ·obtain⟨_,i2,_,i4,_⟩:=G q J
  lia
 ·obtain⟨B,a0⟩:=(O q).mp J;obtain⟨m,hm,em⟩:=Iv.mp a0
  have:=C.reach z0 (fun y=>bo (cC L) (ky y)=bo (cC L) (ky q0.z)) rfl (fun x y h1 h2=>(C.col h2).trans h1) m hm
  rw[em,cf hB B,cf hB h0]at this;injection this with this;injection this
 ·obtain⟨B,a0⟩:=(O q).mp J;obtain⟨m,hm,em⟩:=Iv.mp a0;refine (O r).mpr ⟨hr,C.closed z0 m hm r.z ?_⟩;rw[em];have qc:q.c=q0.c:=by
   have:=C.reach z0 (fun y=>bo (cC L) (ky y)=bo (cC L) (ky q0.z)) rfl (fun x y h1 h2=>(C.col h2).trans h1) m hm
   rw[em,cf hB B,cf hB h0]at this;injection this with this;injection this
  have cc:bo (cC L) (ky q.z)=bo (cC L) (ky r.z):=by rw[cf hB B,cf hB hr,hc,qc]
  obtain⟨t1,t2⟩:=xP h4 (G q B).2.2.2.2 (G r hr).2.2.2.2 hl;obtain⟨i,hi⟩:=Je B;obtain⟨j,hj⟩:=Je hr;rw[C.near];rcases LG i j with c|c|c
  ·exact⟨_,mU hi hj c t1,IC cc,.inl ⟨rfl,rfl⟩⟩
  ·subst c;rw[hi]at hj;cases hj
   have:=(nO h4).mp hl
   have w:=(G q B).2.2.2.2
   exfalso
   rcases dk h4 with rfl|rfl|rfl|rfl<;>simp at this<;>lia
  ·exact⟨_,mU hj hi c t2,IC cc.symm,.inr ⟨rfl,rfl⟩⟩
def PtV (H:Hp)(u:V)(p:Int×Int):Prop:=∃a,u=.ref a/\H a=some (.tup [.int p.1,.int p.2])
theorem PtV.up (h:PtV H u p)(s:bn H H'):PtV H' u p:=by
 obtain⟨a,e,k⟩:=h;exact⟨a,e,s _ _ k⟩
abbrev dB (H:Hp):List V->List (Int×Int)->Prop:=Paired (PtV H)
theorem dB.up (h:dB H us ps)(s:bn H H'):dB H' us ps:=Paired.mapP h fun _ _ k=>k.up s
theorem dq (ok:oV q [] t 0 0 n):IsC (txt q.z)/\(txt q.z).length<=n/\cxs (dig (txt q.z))*2^(n-(txt q.z).length)=q.x/\cys (dig (txt q.z))*2^(n-(txt q.z).length)=q.y/\2^(n-(txt q.z).length)=q.w:=by
 obtain⟨w,B,G,_,J,ex,O,Y⟩:=ok;rw[JL]at B;subst B;rw[fU,fj];exact⟨yg G,J,by rw[ex];simp,by rw[O];simp,Y.symm⟩
def Bm (d:Nat):Str:=if d=0 then "up" else if d=1 then "right" else if d=2 then "down" else "left"
theorem Dx (B:d<4):∃(s1 s2:Str) (dx dy:Int),GX[d]? = some (.str (Bm d))/\Dir (Bm d) s1 s2 dx dy/\dig s2=iz (axd d) (sgd d)/\dx=(if axd d then 0 else if sgd d then -1 else 1)/\dy=(if axd d then (if sgd d then -1 else 1) else 0):=by
 rcases dk B with rfl|rfl|rfl|rfl
 ·exact⟨_,_,_,_,rfl,.inl ⟨rfl,rfl,rfl,rfl,rfl⟩,by decide +kernel,rfl,rfl⟩
 ·exact⟨_,_,_,_,rfl,.inr (.inl ⟨rfl,rfl,rfl,rfl,rfl⟩),by decide +kernel,rfl,rfl⟩
 ·exact⟨_,_,_,_,rfl,.inr (.inr (.inl ⟨rfl,rfl,rfl,rfl,rfl⟩)),by decide +kernel,rfl,rfl⟩
 ·exact⟨_,_,_,_,rfl,.inr (.inr (.inr ⟨rfl,rfl,rfl,rfl,rfl⟩)),by decide +kernel,rfl,rfl⟩
theorem A6 {d:Nat}(B:d<4)(q:Sq):atI [V.int (q.x:Int),V.int (q.y:Int),V.int (q.w:Int)] ((d:Int)%2)=some (V.int (tlo q d)):=by
 rcases dk B with rfl|rfl|rfl|rfl<;>rfl
section
abbrev i9:Stmt:=top 40
theorem bP:aE ["sheet","code","way","colours","square","begin","end","others","parts","other","near","start"] ["sheet","code","way","colours"] (aq i9):={}
inductive kc  (vs:List V)(H:Hp)(Q:VK):Prop
 |mk (ps cd:Addr) (n:Nat) (v:V) (t:Tr) (q:Sq) (d:Nat) (h_0:vs=[.ref ps,sV q.z,.int (d:Int),.ref cd]) (h_1:H ps=some (.tup [.int (n:Int),v])) (h_2:cM H v t) (h_3:bc n t) (h_4:n<=40) (h_5:cnt t<=1500) (h_6:q∈sqs [] t 0 0 n) (h_7:d<4) (h_8:H cd=some (.dK (cC (sqs [] t 0 0 n)))) (h_9:∀l us H',ah H H'->H l=none->H' l=some (.lst us)->dB H' us (cP (sqs [] t 0 0 n) q d)->Q (.ref l) H'):kc  vs H Q
def kI:Sp:=fun vs H Q _=>kc  vs H Q
theorem rL (T:Tx K mg)(U:Ty P w K mg)(q:bS CX)(F:bD K "bare_parts" "bare_parts" i9 f fd .none)(G:Fok P w K mg base CX 4 "corner" ["code","level"] [] ki)(B:Fok P w K mg base CX 43 "beyond_leaf" ["sheet","code","side"] [] gm):
  bB P w K mg base CX 44 f fd ["sheet","code","way","colours"] kI:=by
 refine F.ok bP (fun vs H Q E h=>?_) (fun c6 A outer s H vs Q E hr h=>?_)
 ·obtain⟨_,_,_,_,_,_,_,rfl,_⟩:=h;rfl
 obtain⟨ps,cd,n,v,t,sq,d,rfl,a1,ht,gt,hn,hc,hq,h4,a4,q'⟩:=h;obtain⟨aS,Y,kS⟩:=U.sides;refine⟨_,(ab (au (i:=4) bP (ai G q hr (aa (pv 1) (aa (aD aI (pv 0) ac) ae)))) (ab (au (i:=5) bP (aD aI (pv 4) (aj bF (pv 2) ac))) (ab (au (i:=6) bP (aj aK (pv 5) (aD aI (pv 4) ac))) (ab (au (i:=7) bP (ai B q hr (aa (pv 0) (aa (pv 1) (aa (aD aI (ko (v:=.ref _) rfl Y rfl) (pv 2)) ae))))) (ab (aT (aJ gJ (av aY rfl T.b_len bN (aa (pv 7) ae)) ac) (af (aB (bg (am (az (am (pv 5) (am (pv 6) ak))) ak)))) aF) (ab (au (i:=8) bP (bg ak)) (ab (aN II rfl (bQ (pv 7)) (aP (i:=9) bP) (af (aT (aJ mF (dM hr.dic (pv 3) (pv 9) (fun _ _=>rfl)) (dM hr.dic (pv 3) (pv 1) (fun _ _=>rfl))) (ab (au (i:=10) bP (ai G q hr (aa (pv 9) (aa (aD aI (pv 0) ac) ae)))) (ab (au (i:=11) bP (aD aI (pv 10) (aj bF (pv 2) ac))) (af (ba (bH (pv 8) (aa (az (am (av (nZ rfl) rfl T.b_max x_ (aa (pv 5) (aa (pv 11) ae))) (am (av (nY rfl) rfl T.b_min rf (aa (pv 6) (aa (aj aK (pv 11) (aD aI (pv 10) ac)) ae))) ak))) ae)))))) aF))) (af (aB (pv 8)))))))))),?_⟩;obtain⟨L,eL⟩:∃L,L=sqs [] t 0 0 n:=⟨_,rfl⟩;have hB:L.Pairwise eF:=by rw[eL];exact cW t [] 0 0 n gt
 have lc:L.length=cnt t:=by rw[eL];exact dD t [] 0 0 n
 have ok:=dQ t [] 0 0 n gt sq hq;obtain⟨ic,il,cx,cy,cw⟩:=dq ok;refine⟨ps,_,_,_,rfl,rfl,SqT.of a1,rfl,txt sq.z,n,rfl,ic,il,hn,fun p1 H1 s1 w1=>?_⟩;rw[cx,cy,cw]at w1;refine⟨(by show (0:Int)<2;decide),p1,_,_,_,rfl,rfl,SqT.of w1,A6 h4 sq,?_⟩;refine⟨p1,_,_,_,rfl,rfl,SqT.of w1,rfl,cU ?_⟩;obtain⟨b1,b2,dx,dy,b3,hd,e2,ex,ey⟩:=Dx h4;refine⟨aS,_,_,_,rfl,rfl,kS.sq,bG b3,ps,n,v,.str (Bm d),t,txt sq.z,rfl,s1 _ _ a1,ht.up s1.tups,gt,hn,by lia,ic,by lia,C3 gt ok hd e2 ex ey fun lo H2 s2 c7 u2=>?_⟩;rw[nU,<-eL]at u2;obtain⟨O,eO⟩:∃O,O=iw L sq d:=⟨_,rfl⟩;have u2':H2 lo=some (.lst (O.map fun r=>sV r.z)):=by rw[u2,eO,Jp];rfl
 have lO:O.length<=1500:=by
  have h1:=Kr (fun r:Sq=>eJ (axd d) (sgd d) sq r.x r.y r.w) L;rw[eO];unfold iw
  lia
 have J:=s1.trans s2;have c5:=J _ _ a1;have a5:=J _ _ a4;rw[<-eL]at a5 q';have b4:sq∈L:=by rw[eL];exact hq
 refine⟨_,_,rfl,.inl ⟨_,SqL.of u2',rfl⟩,rfl,ay (ci (fun c0=>?_) (fun c0=>?_))⟩
 ·have e0:O=[]:=by
   have:=IZ c0
   injection this with this;rw[Iq]at this;exact Jz (by lia)
  refine⟨(leZ rfl),fun pt b5=>⟨(leZ rfl),fun l hl=>?_⟩⟩;have s3:=ah.new b5 (.tup [.int (tlo sq d),.int (tlo sq d+(sq.w:Int))]);have w3:upd H2 pt (.tup [.int (tlo sq d),.int (tlo sq d+(sq.w:Int))]) pt=some (.tup [.int (tlo sq d),.int (tlo sq d+(sq.w:Int))]):=ag;generalize upd H2 pt (.tup [.int (tlo sq d),.int (tlo sq d+(sq.w:Int))])=H3 at *;have s4:=ah.new hl (.lst [.ref pt]);refine q' l _ _ ((J.trans s3).trans s4) ((J.trans s3).free hl) ag ?_;unfold cP;rw[if_pos (by rw[<-eO];exact e0)];exact .cons ⟨pt,rfl,s4 _ _ w3⟩ .nil
 have n0:¬ iw L sq d=[]:=fun e=>c0 (by
  rw[eO,e];exact IC rfl)
 refine⟨(leZ rfl),nw fun lp H3 a6 s3 w3=>?_⟩;have u3:=s3 _ _ u2';have a7:H lp=none:=J.free a6;have hlo':lo≠lp:=fun z=>by rw[z,a6]at u2';cases u2'
 have b6:=J.trans s3;have Od:∀i r,O[i]? = some r->r∈L:=fun i r h=>by
  rw[eO]at h;exact (Ji.mp (ID h)).1
 refine⟨lo,rfl,⟨_,SqL.of u3⟩,bJ (xs:=O.map fun r=>sV r.z) (fun (i:Nat) σ H4=>ah H H4/\(∀b o,b≠lp->H3 b=some o->H4 b=some o)/\(∃us,H4 lp=some (.lst us)/\dB H4 us (((O.take i).filter fun r=>decide (r.c≠sq.c)).map fun r=>(max (tlo sq d) (tlo r d),min (tlo sq d+sq.w) (tlo r d+r.w)))/\us.length<=i/\i<=O.length)/\∃o9 a2 a3:OW9,σ=[some (.ref ps),some (sV sq.z),some (.int (d:Int)),some (.ref cd),some (.ref p1),some (.int (tlo sq d)),some (.int (tlo sq d+(sq.w:Int))),some (.ref lo),some (.ref lp),o9,a2,a3])
  ⟨b6,fun _ _ _ e=>e,⟨[],w3,.nil,Iw _,IG _⟩,_,_,_,rfl⟩ (fun i σ H4 _ h=>SqL.of (h.2.1 _ _ hlo' u3)) ?_ ?_⟩
 ·rintro i u σ H4 hu ⟨s4,k4,⟨us,w4,hP,l4,li⟩,o9,a2,a3,rfl⟩;rw[IM]at hu;obtain⟨r,er,rfl⟩:=IX.mp hu;have hi:=(Ix.mp er).1;have a8:=Od i r er;have et:O.take (i+1)=O.take i++[r]:=by rw[Jf,er];rfl
  rw[et,Kh];have a0:=s4 _ _ a4;rw[<-eL]at a0;refine⟨cd,_,rfl,cf hB a8▸dC.k (k:=ky r.z) a0,cd,_,rfl,cf hB b4▸dC.k (k:=ky sq.z) a0,rfl,ay (ci (fun c1=>?_) (fun c1=>?_))⟩
  rotate_left
  ·have c1':r.c=sq.c:=Classical.byContradiction fun n=>c1 (by
    show (!decide (V.int r.c=V.int sq.c))=true;rw[Jh (fun e=>n (V.int.inj e))];rfl)
   rw[show [r].filter (fun r=>decide (r.c≠sq.c))=[] by simp[c1'],Jt];exact⟨s4,k4,⟨us,w4,hP,by lia,by assumption⟩,_,_,_,rfl⟩
  have c1':r.c≠sq.c:=fun e=>by
   have c2:(!decide (V.int r.c=V.int sq.c))=true:=c1;rw[e,IC rfl]at c2;cases c2
  rw[show [r].filter (fun r=>decide (r.c≠sq.c))=[r] by simp[c1'],IT];have b7:=dQ t [] 0 0 n gt r (by rw[<-eL];exact a8);obtain⟨jc,jl,b8,b9,c3⟩:=dq b7;refine⟨ps,_,_,_,rfl,rfl,SqT.of (s4 _ _ a1),rfl,txt r.z,n,rfl,jc,jl,hn,fun p5 H5 s5 w5=>?_⟩;rw[b8,b9,c3]at w5;have a9:=s5 _ _ w4;refine⟨(by show (0:Int)<2;decide),p5,_,_,_,rfl,rfl,SqT.of w5,A6 h4 r,?_⟩;refine⟨.inl ⟨rfl,_,SqL.of a9⟩,_,_,rfl,p5,_,_,_,rfl,rfl,SqT.of w5,rfl,_,_,rfl,(leZ rfl),fun p6 c4=>?_⟩;generalize e6:upd H5 p6 _=H6;have s6:ah H5 H6:=e6▸ah.new c4 _;have w6:H6 p6=some (.tup [.int (max (tlo sq d) (tlo r d)),.int (min (tlo sq d+sq.w) (tlo r d+r.w))]):=by
   rw[<-e6,ag,<-jZ,<-j0];rfl
  have b0:=s6 _ _ a9;refine⟨lp,us,_,rfl,rfl,b0,IJ (by lia:us.length<5000) (by decide),?_⟩;have t7:bn H6 (upd H6 lp (.lst (us++[.ref p6]))):=bE b0 (by intro xs q;cases q);refine⟨ah.set ((s4.trans s5).trans s6) a7 _,fun b o hb e=>by rw[aA hb];exact (s5.trans s6) _ _ (k4 b o hb e),⟨us++[.ref p6],ag,aR (hP.up ((s5.trans s6).tups.trans t7)) (.cons ⟨p6,rfl,t7 _ _ w6⟩ .nil),by rw[Iy,Jq];lia,by assumption⟩,_,_,_,rfl⟩
 ·rintro σ H4 ⟨s4,k4,⟨us,w4,hP,l4,li⟩,o9,a2,a3,rfl⟩;rw[IS (by rw[Iq];exact Iw _)]at hP;refine (q' lp us H4 s4 a7 w4 ?_);unfold cP;rw[if_neg n0,<-eO];exact hP
abbrev gC:Stmt:=top 41
theorem dJ:aE ["square","way","begin","end","x","y","wide"] ["square","way","begin","end"] (aq gC):={}
inductive iV  (vs:List V)(H:Hp)(Q:VK):Prop
 |mk (p:Addr) (q:Sq) (d:Nat) (b e:Int) (h_0:vs=[.ref p,.int (d:Int),.int b,.int e]) (h_1:H p=some (.tup [.int (q.x:Int),.int (q.y:Int),.int (q.w:Int)])) (h_2:d<4) (h_3:∀r p1 p2 H',ah H H'->H' r=some (.tup [.ref p1,.ref p2])->H' p1=some (.tup [.int (cK q d (b,e)).1.1,.int (cK q d (b,e)).1.2])->H' p2=some (.tup [.int (cK q d (b,e)).2.1,.int (cK q d (b,e)).2.2])->Q (.ref r) H'):iV  vs H Q
def js:Sp:=fun vs H Q _=>iV  vs H Q
theorem lX {H:Hp}{Q:VK}{a b c e:Int}(h:∀r B p2 H',ah H H'->H' r=some (.tup [.ref B,.ref p2])->H' B=some (.tup [.int a,.int b])->H' p2=some (.tup [.int c,.int e])->Q (.ref r) H')(B p2 r:Addr)(h1:H B=none)(h2:upd H B (.tup [.int a,.int b]) p2=none)(O:upd (upd H B (.tup [.int a,.int b])) p2 (.tup [.int c,.int e]) r=none):
  Q (.ref r) (upd (upd (upd H B (.tup [.int a,.int b])) p2 (.tup [.int c,.int e])) r (.tup [.ref B,.ref p2])):=by
 have Y:=ah.new h1 (.tup [.int a,.int b]);have J:=ah.new h2 (.tup [.int c,.int e]);have G:=ah.new O (.tup [.ref B,.ref p2]);exact h r B p2 _ ((Y.trans J).trans G) ag (G _ _ (J _ _ ag)) (G _ _ ag)
theorem oN (T:Tx K mg)(F:bD K "ends_of_part" "ends_of_part" gC f fd .none):bB P w K mg base CX 1 f fd ["square","way","begin","end"] js:=by
 refine F.ok dJ (fun vs H Q E h=>?_) (fun a0 A outer s H vs Q E hr h=>?_)
 ·obtain⟨_,_,_,_,_,rfl,_⟩:=h;rfl
 obtain⟨p,q,d,b,e,rfl,hp,h4,Y⟩:=h;refine⟨_,(ab (au (i:=4) dJ (aD aI (pv 0) ac)) (ab (au (i:=5) dJ (aD aI (pv 0) ac)) (ab (au (i:=6) dJ (aD aI (pv 0) ac)) (ab (aT (aJ gJ (pv 1) ac) (af (aB (az (am (az (am (pv 2) (am (pv 5) ak))) (am (az (am (pv 3) (am (pv 5) ak))) ak))))) aF) (ab (aT (aJ gJ (pv 1) ac) (af (aB (az (am (az (am (aj aK (pv 4) (pv 6)) (am (pv 2) ak))) (am (az (am (aj aK (pv 4) (pv 6)) (am (pv 3) ak))) ak))))) aF) (ab (aT (aJ gJ (pv 1) ac) (af (aB (az (am (az (am (pv 3) (am (aj aK (pv 5) (pv 6)) ak))) (am (az (am (pv 2) (am (aj aK (pv 5) (pv 6)) ak))) ak))))) aF) (af (aB (az (am (az (am (pv 4) (am (pv 3) ak))) (am (az (am (pv 4) (am (pv 2) ak))) ak))))))))))),?_⟩;refine⟨p,_,_,_,rfl,rfl,SqT.of hp,rfl,p,_,_,_,rfl,rfl,SqT.of hp,rfl,p,_,_,_,rfl,rfl,SqT.of hp,rfl,?_⟩;have G:2<=sizeLine:=by decide
 refine⟨rfl,ay (ci (fun c0=>?_) (fun c0=>⟨rfl,ay (ci (fun c1=>?_) (fun c1=>⟨rfl,ay (ci (fun c2=>?_) (fun c2=>?_))⟩))⟩))⟩
 ·have J:d=0:=by have:=V.int.inj (IZ c0);lia
  subst J;exact⟨G,fun B h1=>⟨G,fun p2 h2=>⟨G,fun r O=>lX (fun r B p2 H'=>Y r B p2 H') B p2 r h1 h2 O⟩⟩⟩
 ·have J:d=1:=by have:=V.int.inj (IZ c1);lia
  subst J;exact⟨G,fun B h1=>⟨G,fun p2 h2=>⟨G,fun r O=>lX (fun r B p2 H'=>Y r B p2 H') B p2 r h1 h2 O⟩⟩⟩
 ·have J:d=2:=by have:=V.int.inj (IZ c2);lia
  subst J;exact⟨G,fun B h1=>⟨G,fun p2 h2=>⟨G,fun r O=>lX (fun r B p2 H'=>Y r B p2 H') B p2 r h1 h2 O⟩⟩⟩
 ·have n0:d≠0:=fun e=>c0 (by rw[e];exact IC rfl);have n1:d≠1:=fun e=>c1 (by rw[e];exact IC rfl);have n2:d≠2:=fun e=>c2 (by rw[e];exact IC rfl);have J:d=3:=by lia
  subst J;exact⟨G,fun B h1=>⟨G,fun p2 h2=>⟨G,fun r O=>lX (fun r B p2 H'=>Y r B p2 H') B p2 r h1 h2 O⟩⟩⟩
def PN (H:Hp)(G:List (NK×Pt))(e:NE):Prop:=∃p∈G,p.1=e.1/\PtV H e.2.2 p.2
structure Pcd (P:Pg9)(w:Wd9)(H:Hp)(a:Addr)(xs:List NE)(G:List (NK×Pt)):Prop where
 dn:DN P w H a xs
 ent:∀e∈xs,PN H G e
 all:∀p∈G,(nkV xs p.1).isSome=true
 len:xs.length<=G.length
theorem PN.up (h:PN H G e)(s:bn H H')(g:∀p∈G,p∈G'):PN H' G' e:=by
 obtain⟨p,h1,h2,B⟩:=h;exact⟨p,g p h1,h2,B.up s⟩
theorem Pcd.up (h:Pcd P w H a xs G)(s:ah H H'):Pcd P w H' a xs G:=⟨h.dn.up s,fun e B=>(h.ent e B).up s.tups fun _ h=>h,h.all,h.len⟩
theorem yQ:(nkV (cY xs k a v) k').isSome=(decide (k=k')||(nkV xs k').isSome):=by
 unfold cY
 split
 ·rename_i h
  by_cases e:k=k'
  ·subst e;rw[IC rfl,Bool.true_or];obtain⟨u,B⟩:=I8.mp h;obtain⟨b,G⟩:=mJ B;unfold nkV;rw[JD,K_];exact⟨(k,b,v),Iv.mpr ⟨(k,b,u),G,by simp⟩,by simp⟩
  ·rw[Jh e,Bool.false_or];unfold nkV;rw[JD,JD,List.find?_map,JD]
   congr 2
   funext x
   by_cases c:x.1=k<;>simp[c]
 ·unfold nkV;rw[JD,JD,List.find?_append];by_cases e:k=k'<;>simp[e,Kg]
theorem Pcd.put (h:Pcd P w H a xs G)(hv:H c=some (.tup [.int p.2.1,.int p.2.2]))(hH:H'=upd H a (dN P w a (cY xs p.1 b (.ref c))))(D:DN P w H' a (cY xs p.1 b (.ref c))):Pcd P w H' a (cY xs p.1 b (.ref c)) (G++[p]):=by
 have O:bn H H':=fun d ys e=>by
  rw[hH,aA fun z=>by rw[z,h.dn.at_]at e;exact nomatch e];exact e
 refine⟨D,fun e J=>?_,fun p' B=>?_,?_⟩
 ·have me:PN H' (G++[p]) (p.1,b,.ref c):=⟨p,by simp,rfl,c,rfl,O _ _ hv⟩;unfold cY at J
  split at J
  ·obtain⟨e',Y,rfl⟩:=Iv.mp J;by_cases c1:e'.1=p.1
   ·rw[if_pos c1];exact⟨p,by simp,c1.symm,c,rfl,O _ _ hv⟩
   ·rw[if_neg c1];exact (h.ent e' Y).up O fun _ h=>Ja _ h
  ·rcases Iz.mp J with J|J
   ·exact (h.ent e J).up O fun _ h=>Ja _ h
   ·rw[Iu.mp J];exact me
 ·rw[yQ];rcases Iz.mp B with B | B
  ·rw[h.all p' B,Bool.or_true]
  ·rw[Iu.mp B,IC rfl,Bool.true_or]
 ·have:=yG xs p.1 b (.ref c)
  have:=h.len
  rw[Iy,Jq]
  lia
end
theorem Dh (h:q∈L):(G1 L q d).length<=L.length:=by
 unfold G1 cP iw;rw[Iq]
 split
 ·have:=JI h
  simp only[Jq]
  assumption
 ·rw[Iq];exact IU (Kr _ _) (Kr _ _)
theorem qQ {α β:Type}{f:α->List β}{c:Nat}:∀{l:List α},(∀x∈l,(f x).length<=c)->(l.flatMap f).length<=l.length*c
 | [],_=>by simp
 |x::l,h=>by
  have h1:=h x IF;have h2:=qQ (f:=f) (l:=l) fun y B=>h y (IA _ B);rw[K9,Iy,Jb,JZ]
  lia
theorem De {L:List Sq}{q:Sq}(h:q∈L)(j:Nat):((List.range j).flatMap (G1 L q)).length<=j*L.length:=by
 have:=qQ (f:=G1 L q) (c:=L.length) (l:=List.range j) fun d _=>Dh h
 rwa [J_]at this
theorem ya {L M:List Sq}(h:∀q∈M,q∈L):(GL L M).length<=M.length*(4*L.length):=qQ fun q B=>De (h q B) 4
theorem ER (L M:List Sq)(q:Sq):GL L (M++[q])=GL L M++(List.range 4).flatMap (G1 L q):=by
 unfold GL;rw[Jx];simp
theorem xr (f:Nat->List α)(k:Nat):(List.range (k+1)).flatMap f=(List.range k).flatMap f++f k:=by
 rw[JQ,Jx];simp
section
abbrev gr:Stmt:=top 42
theorem bt:aE ["sheet","codes","colours","pieces","code","square","way","begin","end","ends"] ["sheet","codes"] (aq gr):={}
inductive iQ  (P:Pg9)(w:Wd9)(vs:List V)(H:Hp)(Q:VK):Prop
 |mk (ps lc:Addr) (n:Nat) (v:V) (t:Tr) (M:List Sq) (h_0:vs=[.ref ps,.ref lc]) (h_1:H ps=some (.tup [.int (n:Int),v])) (h_2:cM H v t) (h_3:bc n t) (h_4:n<=40) (h_5:cnt t<=1500) (h_6:H lc=some (.lst (M.map fun q=>sV q.z))) (h_7:(∀q∈M,q∈sqs [] t 0 0 n)) (h_8:M.length<=1500) (h_9:∀d xs H',ah H H'->H d=none->Pcd P w H' d xs (GL (sqs [] t 0 0 n) M)->Q (.ref d) H'):iQ P w vs H Q
def jq  (P:Pg9)(w:Wd9):Sp:=fun vs H Q _=>iQ P w vs H Q
theorem oJ (T:Tx K mg)(q:bS CX)(F:bD K "pieces_round" "pieces_round" gr f fd .none)(O:Fok P w K mg base CX 43 "leaves" ["sheet"] [] iI)(Y:Fok P w K mg base CX 4 "corner" ["code","level"] [] ki)(J:Fok P w K mg base CX 44 "bare_parts" ["sheet","code","way","colours"] [] kI)(B:Fok P w K mg base CX 1 "ends_of_part" ["square","way","begin","end"] [] js):
  bB P w K mg base CX 45 f fd ["sheet","codes"] (jq P w):=by
 refine F.ok bt (fun vs H Q E h=>?_) (fun e0 A outer s H vs Q E hr h=>?_)
 ·obtain⟨_,_,_,_,_,_,rfl,_⟩:=h;rfl
 obtain⟨ps,lc,n,v,t,M,rfl,a3,ht,gt,hn,hc,b0,hM,lM,q'⟩:=h;refine⟨_,(ab (au (i:=2) bt (cq (q8 rfl) rfl T.b_dict zA (aa (ai O q hr (aa (pv 0) ae)) ae))) (ab (au (i:=3) bt vR) (ab (aN II rfl (bQ (pv 1)) (aP (i:=4) bt) (ab (au (i:=5) bt (ai Y q hr (aa (pv 4) (aa (aD aI (pv 0) ac) ae)))) (af (aN II rfl (bx rfl T.b_range (aa ac ae)) (aP (i:=6) bt) (af (aN II rfl (bQ (ai J q hr (aa (pv 0) (aa (pv 4) (aa (pv 6) (aa (pv 2) ae)))))) (fK rfl (aX (aP (i:=7) bt) (aX (aP (i:=8) bt) dL))) (ab (au (i:=9) bt (ai B q hr (aa (pv 5) (aa (pv 6) (aa (pv 7) (aa (pv 8) ae)))))) (af (vP hr.nest (pv 3) (az (am (aD aI (pv 9) ac) (am (pv 6) ak))) (aD aI (pv 9) ac) (cG rfl)))))))))) (af (aB (pv 3)))))),?_⟩;obtain⟨L,eL⟩:∃L,L=sqs [] t 0 0 n:=⟨_,rfl⟩;have hB:L.Pairwise eF:=by rw[eL];exact cW t [] 0 0 n gt
 have lL:L.length=cnt t:=by rw[eL];exact dD t [] 0 0 n
 have eS:lvs [] t=L.map fun q=>(q.z,q.c):=by rw[eL];exact hU t [] 0 0 n
 have c1:∀q∈L,oV q [] t 0 0 n:=by rw[eL];exact dQ t [] 0 0 n gt
 rw[<-eL]at hM q';refine⟨.ref ps,t,n,rfl,⟨ps,v,rfl,a3,ht⟩,gt,hn,by lia,fun l us H1 s1 hl u1 b1=>?_⟩;rw[eS]at b1;obtain⟨as,c2,b2⟩:=nJ b1;have hpr':mY H1 as (cC L):=by
  unfold cC;rw[Jp]at b2;exact b2
 refine⟨l,as,cC L,rfl,SqL.of (by rw[u1,c2]),hpr',lQ hB,nw fun dc H2 e1 s2 u2=>?_⟩;refine fun G a4=>?_;have s3:=ah.new a4 (dN P w G []);have u3:upd H2 G (dN P w G []) G=some (dN P w G []):=ag;have u2':=s3 _ _ u2;have c3:dc≠G:=fun z=>by rw[z,a4]at u2;cases u2
 have b3:=s1.trans s2;have b4:H G=none:=b3.free a4
 change A_ _ _ _ _ (upd H2 G (dN P w G []))
 generalize upd H2 G (dN P w G [])=H3 at *;have b5:=b3.trans s3
 let J0:NS9:=fun (i:Nat) σ H4=>i<=M.length/\ah H H4/\H4 dc=some (.dK (cC L))/\(∃xs,Pcd P w H4 G xs (GL L (M.take i)))/\∃o4 o5 o6 o7 o8 o9:OW9,σ=[some (.ref ps),some (.ref lc),some (.ref dc),some (.ref G),o4,o5,o6,o7,o8,o9]
 refine⟨lc,rfl,⟨_,SqL.of (b5 _ _ b0)⟩,bJ (xs:=M.map fun q=>sV q.z) J0
  ⟨IG _,b5,u2',⟨[],⟨u3,fun e he=>absurd he (by simp)⟩,fun e he=>absurd he (by simp),fun p hp=>absurd hp (by simp[GL]),IG _⟩,_,_,_,_,_,_,rfl⟩ (fun i σ H4 _ h=>SqL.of (h.2.1 _ _ b0)) ?_ ?_⟩
 ·rintro i u σ H4 hu ⟨_,s4,d4,⟨xs,c4⟩,o4,o5,o6,o7,o8,o9,rfl⟩;rw[IM]at hu;obtain⟨sq,er,rfl⟩:=IX.mp hu;have hi:=(Ix.mp er).1;have c5:=ID er;have a2:=hM sq c5;have et:M.take (i+1)=M.take i++[sq]:=by rw[Jf,er];rfl
  have lG:(GL L (M.take i)).length<=1500*6000:=by
   have h1:=ya (L:=L) (M:=M.take i) fun q hq=>hM q (JU hq);have h2:(M.take i).length<=1499:=by rw[Jl];lia
   have h3:(M.take i).length*(4*L.length)<=1499*(4*1500):=KF h2 (by lia)
   lia
  have lG':(GL L (M.take i)).length+4*1500<=9000000:=by
   have h1:=ya (L:=L) (M:=M.take i) fun q hq=>hM q (JU hq);have h2:(M.take i).length<=1499:=by rw[Jl];lia
   have h3:(M.take i).length*(4*L.length)<=1499*(4*1500):=KF h2 (by lia)
   lia
  obtain⟨jc,jl,c7,c9,d0⟩:=dq (c1 sq a2);refine⟨ps,_,_,_,rfl,rfl,SqT.of (s4 _ _ a3),rfl,txt sq.z,n,rfl,jc,jl,hn,fun p5 H5 s5 w5=>?_⟩;rw[c7,c9,d0]at w5
  let J1:NS9:=fun (k:Nat) σ H6=>k<=4/\ah H H6/\H6 dc=some (.dK (cC L))/\H6 p5=some (.tup [.int (sq.x:Int),.int (sq.y:Int),.int (sq.w:Int)])/\(∃xs,Pcd P w H6 G xs (GL L (M.take i)++(List.range k).flatMap (G1 L sq)))/\∃o6 o7 o8 o9:OW9,σ=[some (.ref ps),some (.ref lc),some (.ref dc),some (.ref G),some (sV sq.z),some (.ref p5),o6,o7,o8,o9]
  refine⟨4,rfl,by decide,by decide,bV (n:=4) J1
   ⟨IG _,s4.trans s5,s5 _ _ d4,w5,⟨xs,by simpa using c4.up s5⟩,_,_,_,_,rfl⟩ ?_ ?_⟩
  ·rintro k σ H6 hk ⟨_,s6,d6,w6,⟨a5,c6⟩,o6,o7,o8,o9,rfl⟩;rw[show (0:Int)+(k:Int)=k from JO _];refine⟨ps,dc,n,v,t,sq,k,rfl,s6 _ _ a3,ht.up s6.tups,gt,hn,hc,by rw[<-eL];exact a2,hk,by rw[<-eL];exact d6,fun lb ub H7 s7 b6 u7 a6=>?_⟩;rw[<-eL]at a6;have e2:ub.length=(cP L sq k).length:=Paired.length a6;have e3:(cP L sq k).length<=1500:=by
    have:=Dh (d:=k) a2
    unfold G1 at this;rw[Iq]at this
    lia
   have l6:=De a2 k;have b7:lb≠G:=fun z=>by rw[z,c6.dn.at_]at b6;cases b6
   let J2:NS9:=fun (j:Nat) σ H8=>j<=ub.length/\ah H H8/\(∀b o,b≠G->H7 b=some o->H8 b=some o)/\(∃xs,Pcd P w H8 G xs (GL L (M.take i)++(List.range k).flatMap (G1 L sq)++((cP L sq k).take j).map (gen sq k)))/\∃o7 o8 o9:OW9,σ=[some (.ref ps),some (.ref lc),some (.ref dc),some (.ref G),some (sV sq.z),some (.ref p5),some (.int (k:Int)),o7,o8,o9]
   refine⟨lb,rfl,⟨_,SqL.of u7⟩,bJ (xs:=ub) J2
    ⟨IG _,s6.trans s7,fun _ _ _ e=>e,⟨a5,by simpa using c6.up s7⟩,_,_,_,rfl⟩ (fun j σ H8 _ h=>SqL.of (h.2.2.1 _ _ b7 u7)) ?_ ?_⟩
   ·rintro j u8 σ H8 b8 ⟨_,s8,k8,⟨a0,c8⟩,o7,o8,o9,rfl⟩;have hj:=(Ix.mp b8).1;obtain⟨be,d1,pb,rfl,a7⟩:=aM a6 b8;have d2:pb≠G:=fun z=>by
     have:=s7 _ _ c6.dn.at_
     rw[z,this]at a7;exact nomatch a7
    have d3:(cP L sq k).take (j+1)=(cP L sq k).take j++[be]:=by rw[Jf,d1];rfl
    refine⟨pb,_,rfl,SqT.of (k8 _ _ d2 a7),rfl,_,_,rfl,_,_,rfl,rfl,?_⟩;have a8:p5≠G:=fun z=>by rw[z,c6.dn.at_]at w6;exact nomatch w6
    refine⟨p5,sq,k,be.1,be.2,rfl,k8 _ _ a8 (s7 _ _ w6),hk,fun r p1 p2 H9 s9 wr w1 w2=>?_⟩;refine⟨r,_,_,_,rfl,rfl,SqT.of wr,rfl,r,_,_,_,rfl,rfl,SqT.of wr,rfl,(leZ rfl),fun pk d5=>?_⟩;generalize b9:upd H9 pk _=c0;have a1:ah H9 c0:=b9▸ah.new d5 _;have d7:c0 pk=some (.tup [.ref p1,.int (k:Int)]):=by rw[<-b9];exact ag
    have a9:=c8.up (s9.trans a1);have d8:=a9.len;rw[Iy,Iy,Iq,Jl]at d8;refine⟨G,pk,(gen sq k be).1,a0,rfl,rfl,a9.dn,⟨p1,d7,a1 _ _ w1⟩,rfl,IJ (by
     have h1:k*L.length<=3*1500:=KF (by lia) (by lia)
     lia:a0.length<9000001) (by decide),fun d9=>?_⟩
    refine⟨hj,ah.set ((s8.trans s9).trans a1) b4 _,fun b o hb e=>by rw[aA hb];exact (s9.trans a1) _ _ (k8 b o hb e),⟨cY a0 (gen sq k be).1 pk (.ref p2),?_⟩,_,_,_,rfl⟩;rw[d3,IT,<-Jv];exact a9.put (p:=gen sq k be) (a1 _ _ w2) rfl d9
   ·rintro σ H8 ⟨_,s8,k8,⟨a0,c8⟩,o7,o8,o9,rfl⟩;rw[show (cP L sq k).take ub.length=cP L sq k from IS (by lia)]at c8;have a8:p5≠G:=fun z=>by rw[z,c6.dn.at_]at w6;exact nomatch w6
    refine⟨hk,s8,k8 _ _ c3 (s7 _ _ d6),k8 _ _ a8 (s7 _ _ w6),⟨a0,?_⟩,_,_,_,_,rfl⟩;rw[xr,<-Jv];exact c8
  ·rintro σ H6 ⟨_,s6,d6,w6,⟨a5,c6⟩,o6,o7,o8,o9,rfl⟩;refine⟨hi,s6,d6,⟨a5,?_⟩,_,_,_,_,_,_,rfl⟩;rw[et,ER];exact c6
 ·rintro σ H4 ⟨_,s4,d4,⟨xs,c4⟩,o4,o5,o6,o7,o8,o9,rfl⟩;rw[Iq,Jw]at c4;exact (q' G xs H4 s4 b4 c4)
end
def dw (x:Pt×Nat):NK:=(x.1,(x.2:Int))
theorem vp (h:dw x=dw y):x=y:=by
 have h1:=I_ Prod.fst h;have h2:=I_ Prod.snd h;simp only[dw]at h1 h2;exact Prod.ext h1 (by lia)
section
theorem Pcd.get (h:Pcd P w H a xs (GL L M))(J:Lnd L M W col)(O:DG L M x.1 x.2=some e):∃c,nkV xs (dw x)=some (.ref c)/\H c=some (.tup [.int e.1,.int e.2]):=by
 have B:=rD O;obtain⟨v,G⟩:=I8.mp (h.all _ B);obtain⟨b,Y⟩:=mJ G;obtain⟨p,hp,ep,c,ec,hc⟩:=h.ent _ Y;have e1:p.2=e:=Dd J (k:=p.1) hp (by rw[ep];exact B);subst e1;exact⟨c,by rw[<-ec];exact G,hc⟩
theorem Pcd.has (h:Pcd P w H a xs (GL L M))(x:Pt×Nat):(nkV xs (dw x)).isSome=(DG L M x.1 x.2).isSome:=by
 rw[JH];constructor
 ·intro B;obtain⟨v,G⟩:=I8.mp B;obtain⟨b,J⟩:=mJ G;obtain⟨p,O,ep,_⟩:=h.ent _ J;unfold DG;rw[JD,K_];exact⟨p,O,IC ep⟩
 ·intro B;obtain⟨e,Y⟩:=I8.mp B;exact h.all _ (rD Y)
end
def oT (L M:List Sq):LP9:=(GL L M).map fun p=>(p.1.1,p.1.2.toNat)
theorem fo:x∈oT L M↔(DG L M x.1 x.2).isSome=true:=by
 constructor
 ·intro h;obtain⟨p,B,rfl⟩:=Iv.mp h;obtain⟨q,O,d,Y,G,hb,rfl⟩:=n9.mp B;unfold DG;rw[JD,K_];exact⟨gen q d G,B,IC (by simp[gen])⟩
 ·intro h;obtain⟨e,J⟩:=I8.mp h;exact Iv.mpr ⟨_,rD J,by simp⟩
theorem xK (h:Lnd L M W col)(B:(DG L M x.1 x.2).isSome=true):(DG L M (nx (DG L M) x).1 (nx (DG L M) x).2).isSome=true:=by
 obtain⟨p,ep⟩:=I8.mp B;obtain⟨G,h1,h2,_⟩:=hJ (pcs h) (a:=x.1) (d:=x.2) ep;have h1':nx (DG L M) x=(p,G):=h1;rw[h1'];exact h2
theorem sf (h:Lnd L M W col)(G:(DG L M x.1 x.2).isSome=true):∃N,0<N/\N<=(GL L M).length/\(it (nx (DG L M)) N x=x/\∀i j,i<j->j<N->it (nx (DG L M)) i x≠it (nx (DG L M)) j x):=by
 obtain⟨N,h1,h2,J⟩:=EZ (f:=nx (DG L M)) (S:=oT L M) (fun a B=>fo.mpr (xK h (fo.mp B))) (fun a b B O e=>xJ (pcs h) (fo.mp B) (fo.mp O) e) (fo.mpr G);unfold oT at h2;rw[Iq]at h2;exact⟨N,h1,h2,J⟩
theorem Ct (h:Lnd L M W col)(B:(DG L M x.1 x.2).isSome=true)(i:Nat):(DG L M (it (nx (DG L M)) i x).1 (it (nx (DG L M)) i x).2).isSome=true :=
 nR (S:=fun y:Pt×Nat=>(DG L M y.1 y.2).isSome=true) (fun _ h'=>xK h h') B i
theorem Cd (h:iC H k a):Dat H (.ref a) (.tuple [.tuple [.int k.1.1,.int k.1.2],.int k.2]):=by
 obtain⟨b,h1,h2⟩:=h;exact .tup h1 (.cons (.tup h2 (.cons (.int _) (.cons (.int _) .nil))) (.cons (.int _) .nil))
theorem Cc (k l:NK):PyData.eqv (.tuple [.tuple [.int k.1.1,.int k.1.2],.int k.2]) (.tuple [.tuple [.int l.1.1,.int l.1.2],.int l.2])=decide (k=l):=by
 rw[JH,Jd];simp[PyData.eqv,PyData.eqvAll,Prod.ext_iff]
theorem sE (k:NK):SeqAt.shaped (.tuple [.tuple [.int k.1.1,.int k.1.2],.int k.2])=true:=by
 rfl
section
abbrev gw:Stmt:=top 43
theorem dG:aE ["pieces","piece","point","way","onward"] ["pieces","piece"] (aq gw):={}
inductive iR  (P:Pg9)(w:Wd9)(vs:List V)(H:Hp)(Q:VK):Prop
 |mk (dp a:Addr) (xs:List NE) (L M:List Sq) (W col:Int) (x:Pt×Nat) (h_0:vs=[.ref dp,.ref a]) (h_1:Pcd P w H dp xs (GL L M)) (h_2:Lnd L M W col) (h_3:iC H (dw x) a) (h_4:(DG L M x.1 x.2).isSome=true) (h_5:∀r H',ah H H'->iC H' (dw (nx (DG L M) x)) r->Q (.ref r) H'):iR P w vs H Q
def jr  (P:Pg9)(w:Wd9):Sp:=fun vs H Q _=>iR P w vs H Q
theorem oK (T:Tx K mg)(F:bD K "piece_behind" "piece_behind" gw f fd .none):bB P w K mg base CX 1 f fd ["pieces","piece"] (jr P w):=by
 refine F.ok dG (fun vs H Q E h=>?_) (fun a4 A outer s H vs Q E hr h=>?_)
 ·obtain⟨_,_,_,_,_,_,_,_,rfl,_⟩:=h;rfl
 obtain⟨dp,a,xs,L,M,W,col,⟨b,d⟩,rfl,hc,hl,hk,hx,q'⟩:=h;refine⟨_,(ab (au (i:=2) dG (BR hr.nest (pv 0) (pv 1) (fun _ _=>rfl))) (ab (au (i:=3) dG (aD aI (pv 1) ac)) (ab (aN II rfl (tR (az (am (aj bF (aj aK (pv 3) ac) ac) (am (pv 3) ak)))) (aP (i:=4) dG) (af (aT (aJ (FQ hr.nest) (az (am (pv 2) (am (pv 4) ak))) (pv 0) (by with_unfolding_all rfl)) (af (aB (az (am (pv 2) (am (pv 4) ak))))) aF))) (af (aB (az (am (pv 2) (am (aj bF (aj aK (pv 3) ac) ac) ak)))))))),?_⟩;obtain⟨e,he⟩:=I8.mp hx;obtain⟨c,hv,O⟩:=hc.get hl (x:=(b,d)) he;have h4:=(pcs hl).way he;obtain⟨bb,k1,k2⟩:=id hk;refine⟨dp,a,dw (b,d),xs,.ref c,rfl,rfl,hc.dn,hk,hv,?_⟩;refine⟨a,_,_,_,rfl,rfl,SqT.of k1,rfl,?_⟩;have m1:((d:Int)+1)%4=(((d+1)%4:Nat):Int):=by rfl
 have m3:((d:Int)+3)%4=(((d+3)%4:Nat):Int):=by rfl
 have z2:2<=sizeLine:=by decide
 refine⟨(by show (0:Int)<4;decide),z2,fun pt a1=>?_⟩;have w1:upd H pt (.tup [.int (((d:Int)+1)%4),.int (d:Int)]) pt=some (.tup [.int (((d:Int)+1)%4),.int (d:Int)]):=ag;have s1:=ah.new a1 (.tup [.int (((d:Int)+1)%4),.int (d:Int)])
 let J0:NS9:=fun (i:Nat) σ H2=>i<=2/\ah (upd H pt (.tup [.int (((d:Int)+1)%4),.int (d:Int)])) H2/\(0<i->¬ (DG L M e ((d+1)%4)).isSome=true)/\(1<i->¬ (DG L M e d).isSome=true)/\∃o4:OW9,σ=[some (.ref dp),some (.ref a),some (.ref c),some (.int (d:Int)),o4]
 refine⟨pt,rfl,⟨_,SqT.of w1⟩,pF (xs:=[.int (((d:Int)+1)%4),.int (d:Int)]) J0
  ⟨IG _,ah.refl _,fun h=>absurd h (Kb _),fun h=>absurd h (by decide),none,rfl⟩ (fun i σ H2 _ h=>SqT.of (h.2.1 _ _ w1)) ?_ ?_⟩
 ·rintro i u σ H2 hu ⟨_,s2,n0,n1,o4,rfl⟩;have B:=s1.trans s2;have a5:=hc.up B;obtain⟨g,a2,G,a6,a3⟩:∃g:Nat,u=.int (g:Int)/\(g=if i=0 then (d+1)%4 else d)/\i<2/\((DG L M e g).isSome=true->nx (DG L M) (b,d)=(e,g)):=by
   rcases i with _|_|i
   ·refine⟨(d+1)%4,?_,rfl,by decide,fun h=>?_⟩
    ·rw[<-m1];exact (Option.some.inj hu).symm
    ·rw[mI he,if_pos h]
   ·refine⟨d,(Option.some.inj hu).symm,rfl,by decide,fun h=>?_⟩;rw[mI he,if_neg (n0 (by decide)),if_pos h]
   ·exact absurd hu (by simp)
  subst a2;refine⟨z2,nw fun p3 H3 a7 s3 w3=>?_⟩;have J:=B.trans s3;have a0:=hc.up J;have has:=a0.has (e,g);refine⟨dp,p3,dw (e,g),xs,rfl,rfl,a0.dn,⟨c,w3,J _ _ O⟩,ay (ci (fun c1=>?_) (fun c1=>?_))⟩
  ·have c1':(nkV xs (dw (e,g))).isSome=true:=c1;rw[has]at c1';refine⟨z2,fun p4 Y=>?_⟩;have s4:=ah.new Y (.tup [.ref c,.int (g:Int)]);refine q' p4 _ (J.trans s4) ?_;rw[a3 c1'];exact⟨c,ag,(J.trans s4) _ _ O⟩
  ·have c1':¬ (nkV xs (dw (e,g))).isSome=true:=c1;rw[has]at c1';have c2:¬ (DG L M e g).isSome=true:=c1';refine⟨by assumption,s2.trans s3,fun _=>?_,fun h1=>?_,_,rfl⟩
   ·rcases i with _|i
    ·rw[if_pos rfl]at G;rw[<-G];exact c2
    ·exact n0 (Lb _)
   ·have i1:i=1:=by lia
    rw[i1]at G;rw[if_neg (by decide)]at G;rw[<-G];exact c2
 ·rintro σ H2 ⟨_,s2,n0,n1,o4,rfl⟩;have B:=s1.trans s2;refine⟨(by show (0:Int)<4;decide),z2,fun p4 Y=>?_⟩;show Q (.ref p4) (upd H2 p4 (.tup [.ref c,.int (((d:Int)+3)%4)]));rw[m3];have s4:=ah.new Y (.tup [.ref c,.int (((d+3)%4:Nat):Int)]);refine q' p4 _ (B.trans s4) ?_;rw[mI he,if_neg (n0 (Lb 1)),if_neg (n1 (Ki 1))];exact⟨c,ag,(B.trans s4) _ _ O⟩
def RkV (H:Hp)(u:V)(x:Pt×Nat):Prop:=∃a,u=.ref a/\iC H (dw x) a
theorem RkV.up (h:RkV H u x)(s:bn H H'):RkV H' u x:=by
 obtain⟨a,e,k⟩:=h;exact⟨a,e,k.up s⟩
def aL (D:PD9)(x:Pt×Nat)(N:Nat):LP9:=(List.range N).map fun i=>it (nx D) i x
theorem lC (D:PD9)(x:Pt×Nat)(N:Nat):aL D x (N+1)=aL D x N++[it (nx D) N x]:=by
 unfold aL;rw[JQ,IT];rfl
def Per (D:PD9)(x:Pt×Nat)(N:Nat):Prop:=0<N/\it (nx D) N x=x/\∀i j,i<j->j<N->it (nx D) i x≠it (nx D) j x
abbrev jJ:Stmt:=top 44
theorem fQ:aE ["pieces","first","ring","piece"] ["pieces","first"] (aq jJ):={}
inductive kP  (P:Pg9)(w:Wd9)(vs:List V)(H:Hp)(Q:VK):Prop
 |mk (dp a:Addr) (xs:List NE) (L M:List Sq) (W col:Int) (x:Pt×Nat) (h_0:vs=[.ref dp,.ref a]) (h_1:Pcd P w H dp xs (GL L M)) (h_2:Lnd L M W col) (h_3:iC H (dw x) a) (h_4:(DG L M x.1 x.2).isSome=true) (h_5:(GL L M).length<=9000000) (h_6:∀N l us H',Per (DG L M) x N->N<=(GL L M).length->ah H H'->H l=none->H' l=some (.lst us)->Paired (RkV H') us (aL (DG L M) x N)->Q (.ref l) H'):kP P w vs H Q
def md  (P:Pg9)(w:Wd9):Sp:=fun vs H Q _=>kP P w vs H Q
theorem tX (T:Tx K mg)(q:bS CX)(F:bD K "ring_from" "ring_from" jJ f fd .none)(B:Fok P w K mg base CX 1 "piece_behind" ["pieces","piece"] [] (jr P w)):bB P w K mg base CX 2 f fd ["pieces","first"] (md P w):=by
 refine F.ok fQ (fun vs H Q E h=>?_) (fun b1 A outer s H vs Q E hr h=>?_)
 ·obtain⟨_,_,_,_,_,_,_,_,rfl,_⟩:=h;rfl
 obtain⟨dp,a,xs,L,M,W,col,x,rfl,hc,hl,hk,hx,hG,q'⟩:=h;refine⟨_,(ab (au (i:=2) fQ (bg (am (pv 1) ak))) (ab (au (i:=3) fQ (ai B q hr (aa (pv 0) (aa (pv 1) ae)))) (ab (jQ II (aJ (FO hr) (pv 3) (pv 1)) (ab (ba (bH (pv 2) (aa (pv 3) ae))) (af (au (i:=3) fQ (ai B q hr (aa (pv 0) (aa (pv 3) ae))))))) (af (aB (pv 2)))))),?_⟩;obtain⟨N,hN,a3,J⟩:=sf hl hx;refine⟨(leZ rfl),fun l a0=>?_⟩;have s1:=ah.new a0 (.lst [.ref a]);have w1:upd H l (.lst [.ref a]) l=some (.lst [.ref a]):=ag
 change A_ _ _ _ _ (upd H l (.lst [.ref a]))
 generalize upd H l (.lst [.ref a])=H1 at *;have b2:dp≠l:=fun z=>by
  have:=hc.dn.at_
  rw[z,a0]at this;cases this
 refine⟨dp,a,xs,L,M,W,col,x,rfl,hc.up s1,hl,hk.up fun b ys e=>s1 _ _ e,hx,fun r H2 s2 a4=>?_⟩
 let J1:NS9:=fun m σ O=>∃(k:Nat) (G:List V) (r:Addr),m+k=N/\0<k/\k<=N/\ah H O/\O l=some (.lst G)/\Paired (RkV O) G (aL (DG L M) x k)/\iC O (dw (it (nx (DG L M)) k x)) r/\σ=[some (.ref dp),some (.ref a),some (.ref l),some (.ref r)]
 refine⟨J1,⟨N-1,1,[.ref a],r,by lia,by decide,hN,s1.trans s2,s2 _ _ w1,.cons ⟨a,rfl,hk.up fun b ys e=>(s1.trans s2) _ _ e⟩ .nil,a4,rfl⟩,?_⟩;rintro m σ O ⟨k,G,Y,hm,a5,b3,s3,w3,hP,a1,rfl⟩;have a2:=Paired.length hP;unfold aL at a2;rw[Iq,J_]at a2;have a6:=hk.up fun b ys e=>s3 _ _ e;refine⟨_,_,Cd a1,Cd a6,sE _,sE _,ay (ci (fun c=>?_) (fun c=>?_))⟩
 rotate_left
 ·have e1:it (nx (DG L M)) k x=x:=by
   have c':¬ (!PyData.eqv _ _)=true:=c;rw[Cc]at c';cases hh:decide (dw (it (nx (DG L M)) k x)=dw x) with
   |true=>exact vp (IZ hh)
   |false=>rw[hh]at c';exact absurd rfl c'
  have ek:k=N:=by
   rcases JV k N with h|h
   ·exact absurd e1.symm (J.2 0 k a5 h)
   ·lia
  subst ek;exact (q' k l G O ⟨hN,J.1,J.2⟩ a3 s3 a0 w3 hP)
 have ne:it (nx (DG L M)) k x≠x:=fun e=>by
  have c':(!PyData.eqv _ _)=true:=c;rw[Cc,e,IC rfl]at c';cases c'
 have a7:k<N:=by
  rcases JV k N with h|h
  ·exact h
  ·exact absurd (show it (nx (DG L M)) k x=x by rw[show k=N by lia];exact J.1) ne
 refine⟨fun σ' H4=>∃(G:List V) (r:Addr),ah H H4/\H4 l=some (.lst G)/\Paired (RkV H4) G (aL (DG L M) x (k+1))/\iC H4 (dw (it (nx (DG L M)) (k+1) x)) r/\σ'=[some (.ref dp),some (.ref a),some (.ref l),some (.ref r)],fun σ' H4 ⟨G,r,h1,h2,h3,h4,h5⟩=>⟨m-1,by lia,k+1,G,r,by lia,Lb _,a7,h1,h2,h3,h4,h5⟩,?_⟩;refine⟨.inl ⟨rfl,_,SqL.of w3⟩,l,G,_,rfl,rfl,w3,IJ (by lia:G.length<9000001) (by decide),?_⟩;have t4:bn O (upd O l (.lst (G++[.ref Y]))):=bE w3 (by intro xs q;cases q);have s4:ah H (upd O l (.lst (G++[.ref Y]))):=ah.set s3 a0 _;have w4:upd O l (.lst (G++[.ref Y])) l=some (.lst (G++[.ref Y])):=ag;have a8:Paired (RkV (upd O l (.lst (G++[.ref Y])))) (G++[.ref Y]) (aL (DG L M) x (k+1)):=by
  rw[lC];exact aR (Paired.mapP hP fun _ _ h=>h.up t4) (.cons ⟨Y,rfl,a1.up t4⟩ .nil)
 have a9:=a1.up t4;generalize upd O l (.lst (G++[.ref Y]))=H4 at *;refine⟨dp,Y,xs,L,M,W,col,it (nx (DG L M)) k x,rfl,hc.up s4,hl,a9,Ct hl hx k,fun r5 H5 s5 b0=>?_⟩;exact⟨G++[.ref Y],r5,s4.trans s5,s5 _ _ w4,Paired.mapP a8 fun _ _ h=>h.up s5.tups,b0,rfl⟩
end
theorem Ei (gt:bc n t)(G:∀d∈z,d<4)(h:jY t z=some (.col c)):∃q∈sqs [] t 0 0 n,q.z=z/\q.c=c:=by
 have go:∀(z:List Nat) (t:Tr) (p:List Nat) (x y k:Nat),bc k t->(∀d∈z,d<4)->jY t z=some (.col c)->∃q∈sqs p t x y k,q.z=p++z/\q.c=c:=by
  intro z
  induction z with
  |nil=>
   intro t p x y k _ _ h;have e:t=.col c:=Option.some.inj h;subst e;exact⟨⟨p,c,x,y,2^k⟩,Iu.mpr rfl,by simp,rfl⟩
  |cons d z ih=>
   intro t p x y k g G h;cases t with
   |col i=>cases h
   |four a b cc dd=>
    rcases k with _|k
    ·exact g.elim
    have Y:=G d IF;have h4':∀e∈z,e<4:=fun e O=>G e (IA _ O);have J:=g.q d;have app:∀e,p++[e]++z=p++e::z:=fun e=>by simp
    show ∃q∈sqs (p++[0]) a x y k++(sqs (p++[1]) b (x+2^k) y k++(sqs (p++[2]) cc x (y+2^k) k++sqs (p++[3]) dd (x+2^k) (y+2^k) k)),_;rcases d with _ | _ | _ | _ | d
    ·obtain⟨q,h1,h2,B⟩:=ih a (p++[0]) x y k J h4' h;exact⟨q,Ja _ h1,by rw[h2,app],B⟩
    ·obtain⟨q,h1,h2,B⟩:=ih b (p++[1]) (x+2^k) y k J h4' h;exact⟨q,IW _ (Ja _ h1),by rw[h2,app],B⟩
    ·obtain⟨q,h1,h2,B⟩:=ih cc (p++[2]) x (y+2^k) k J h4' h;exact⟨q,IW _ (IW _ (Ja _ h1)),by rw[h2,app],B⟩
    ·obtain⟨q,h1,h2,B⟩:=ih dd (p++[3]) (x+2^k) (y+2^k) k J h4' h;exact⟨q,IW _ (IW _ (IW _ h1)),by rw[h2,app],B⟩
    ·lia
 obtain⟨q,h1,h2,B⟩:=go z t [] 0 0 n gt G h;exact⟨q,h1,by rw[h2];rfl,B⟩
theorem B4 {L:List Sq}(h:L.Pairwise eF){q r:Sq}(B:q∈L)(G:r∈L){x y:Nat}(a:q.x<=x/\x<q.x+q.w/\q.y<=y/\y<q.y+q.w)(b:r.x<=x/\x<r.x+r.w/\r.y<=y/\y<r.y+r.w):q=r:=by
 rcases kE h B G with e|e|e
 ·exact e
 ·unfold Sep at e
  lia
 ·unfold Sep at e
  lia
theorem yW {t:Tr}{n X Y:Nat}(gt:bc n t)(xn:X<2^n)(yn:Y<2^n){L:List Sq}(eL:L=sqs [] t 0 0 n){q0:Sq}(a0:q0∈L)(ins:q0.x<=X/\X<q0.x+q0.w/\q0.y<=Y/\Y<q0.y+q0.w){i:Nat}{c:Int}(hi:i<=n)(B:jY t ((low n X Y).take i)=some (.col c)):(low n X Y).take i=q0.z:=by
 obtain⟨z,G⟩:∃z,z=(low n X Y).take i:=⟨_,rfl⟩;rw[<-G]at B ⊢;have z4:∀e∈z,e<4:=fun e he=>by
  rw[G]at he;have he':=JU he;unfold low at he';obtain⟨i',_,rfl⟩:=Iv.mp he';exact uO _ _ _
 have hB:L.Pairwise eF:=by rw[eL];exact cW t [] 0 0 n gt
 obtain⟨q1,J,e1,_⟩:=Ei gt z4 B;obtain⟨w1,e2,_,_,hl,ex,ey,ew⟩:=dQ t [] 0 0 n gt q1 J;rw[JL]at e2;have O:w1=z:=by rw[<-e2,e1]
 have lz:z.length=i:=by rw[G,Jl,jg];lia
 have cx:cxs z=X/2^(n-i):=by rw[G];exact uU xn i hi
 have cy:cys z=Y/2^(n-i):=by rw[G];exact uQ yn i hi
 rw[O,lz,KG]at ex ey;rw[O,lz]at ew;rw[cx]at ex;rw[cy]at ey;have pp:=Ku (n-i);have m1:=K1 X (2^(n-i));have m2:=KM X pp;have m3:=K1 Y (2^(n-i));have m4:=KM Y pp;rw[KH]at m1 m3
 have:q1=q0:=B4 hB (by rw[eL];exact J) a0 (x:=X) (y:=Y) ⟨by lia,by lia,by lia,by lia⟩ ins
 rw[<-e1,this]
theorem DU (h:Per D x N)(h':Per D x N'):N=N':=by
 rcases LG N N' with c|c|c
 ·exact absurd (h.2.1).symm (h'.2.2 0 N h.1 c)
 ·exact c
 ·exact absurd (h'.2.1).symm (h.2.2 0 N' h'.1 c)
noncomputable def per (D:PD9)(x:Pt×Nat):Nat:=open Classical in if h:∃N,Per D x N then Classical.choose h else 0
theorem BL (h:Per D x N):per D x=N:=by
 have B:∃N,Per D x N:=⟨N,h⟩;unfold per;rw[dif_pos B];exact DU (Classical.choose_spec B) h
noncomputable def bZ (D:PD9)(x:Pt×Nat):LP9:=aL D x (per D x)
def prv (N i:Nat):Nat:=if i=0 then N-1 else i-1
def cA (R:LP9)(i:Nat):Pt×Nat:=(R[i]?).getD ((0,0),0)
def dj (R:LP9)(i:Nat):Bool:=decide ((cA R i).2≠(cA R (prv R.length i)).2)
def iA (R:LP9)(j:Nat):List Pt:=((List.range j).filter (dj R)).map fun i=>(cA R i).1
def gU (R:LP9):List Pt:=iA R R.length
noncomputable def kG (D:PD9)(x:List (List Pt)×LP9)(k:Pt×Nat):List (List Pt)×LP9:=open Classical in if k∈x.2 then x else (x.1++[gU (bZ D k)],x.2++bZ D k)
noncomputable def bU (D:PD9)(ys:LP9):List (List Pt)×LP9:=ys.foldl (kG D) ([],[])
theorem mw (D:PD9)(ys:LP9)(k:Pt×Nat):bU D (ys++[k])=kG D (bU D ys) k:=by
 unfold bU;rw[Ka];rfl
def RgV (H0:Hp)(lt:Addr)(H:Hp)(u:V)(ps:List Pt):Prop:=∃l us,u=.ref l/\l≠lt/\H0 l=none/\H l=some (.lst us)/\dB H us ps
theorem RgV.keep (h:RgV H0 lt H u ps)(h1:∀b xs,b≠lt->H b=some (.lst xs)->H' b=some (.lst xs))(t:bn H H'):RgV H0 lt H' u ps:=by
 obtain⟨l,B,e,G,J,O,Y⟩:=h;exact⟨l,B,e,G,J,h1 l B G O,Y.up t⟩
structure Gon (P:Pg9)(w:Wd9)(H:Hp)(dg:Addr)(L M:List Sq)(gs:LP9)(xs:List NE):Prop where
 dn:DN P w H dg xs
 nd:(xs.map (·.1)).Nodup
 sub:∀e∈xs,∃x∈oT L M,e.1=dw x
 has:∀x,(nkV xs (dw x)).isSome=true↔x∈gs
theorem yH (xs:List NE)(k:NK)(a:Addr)(v:V):(cY xs k a v).map (·.1)=if (nkV xs k).isSome=true then xs.map (·.1) else xs.map (·.1)++[k]:=by
 unfold cY
 split
 ·rw[Jp];refine Jg fun e _=>?_;by_cases c:e.1=k<;>simp[c]
 ·simp
theorem Ce (h:¬ (nkV xs k).isSome=true):k∉xs.map (·.1):=fun B=>by
 obtain⟨e,G,J⟩:=Iv.mp B;apply h
 unfold nkV;rw[JD,K_];exact⟨e,G,IC J⟩
section
theorem Gon.len (h:Gon P w H dg L M gs xs):xs.length<=(GL L M).length:=by
 have:=dt (S:=(oT L M).map dw) h.nd fun k B=>by
  obtain⟨e,G,rfl⟩:=Iv.mp B;obtain⟨x,J,ex⟩:=h.sub e G;rw[ex];exact Iv.mpr ⟨x,J,rfl⟩
 unfold oT at this
 rwa [Iq,Iq,Iq]at this
theorem Gon.up (h:Gon P w H dg L M gs xs)(s:ah H H'):Gon P w H' dg L M gs xs:=⟨h.dn.up s,h.nd,h.sub,h.has⟩
theorem Gon.keep (h:Gon P w H dg L M gs xs)(h1:H' dg=H dg)(t:bn H H'):Gon P w H' dg L M gs xs:=⟨h.dn.keep h1 t,h.nd,h.sub,h.has⟩
theorem Gon.put (h:Gon P w H dg L M gs xs)(Y:x∈oT L M)(D:DN P w H' dg (cY xs (dw x) b v)):Gon P w H' dg L M (gs++[x]) (cY xs (dw x) b v):=by
 refine⟨D,?_,fun e he=>?_,fun y=>?_⟩
 ·rw[yH]
  split
  ·exact h.nd
  ·rename_i c
   rw[JF];refine⟨h.nd,by simp,fun a O b hb e=>?_⟩;rw[e,Iu.mp hb]at O;exact Ce c O
 ·have B:e.1∈(cY xs (dw x) b v).map (·.1):=Iv.mpr ⟨e,he,rfl⟩;rw[yH]at B;have G:e.1∈xs.map (·.1)->∃x∈oT L M,e.1=dw x:=fun B=>by
   obtain⟨e',J,ee⟩:=Iv.mp B;obtain⟨y,hy,ey⟩:=h.sub e' J;exact⟨y,hy,ee.symm.trans ey⟩
  split at B
  ·exact G B
  ·rcases Iz.mp B with B|B
   ·exact G B
   ·exact⟨x,Y,Iu.mp B⟩
 ·rw[yQ,Bool.or_eq_true,h.has,Iz,Iu,Jd];constructor
  ·rintro (e | e)
   ·exact .inr (vp e).symm
   ·exact .inl e
  ·rintro (e | e)
   ·exact .inr e
   ·exact .inl (by rw[e])
end
theorem Dz (s:cD T H H')(t:fV T H')(h:H' b=none):H b=none:=by
 cases e:H b with
 |none=>rfl
 |some o=>
  by_cases hm:b∈T.map (·.1)
  ·obtain⟨p,m,G⟩:=Iv.mp hm;obtain⟨q,B,_⟩:=t p m;rw[G,h]at B;cases B
  ·have:=s _ _ e hm
   rw[h]at this;cases this
def kx (e:NE):Pt×Nat:=(e.1.1,e.1.2.toNat)
theorem GG (h:p∈GL L M):dw (p.1.1,p.1.2.toNat)=p.1:=by
 obtain⟨q,_,d,_,B,_,rfl⟩:=n9.mp h;unfold dw gen;exact Prod.ext rfl (by simp)
theorem BG (hi:i<us.length)(h:us[prv us.length i]? = some v):atI us ((i:Int)-1)=some v:=by
 unfold prv at h;by_cases c:i=0
 ·subst c;rw[if_pos rfl]at h;have e:us=us.take (us.length-1)++[v]:=by
   have B:us.length-1<us.length:=by omega
   rw[IE B]at h;have h1:=List.take_append_getElem B;rw[Option.some.inj h,show us.length-1+1=us.length by lia,Jw]at h1;exact h1.symm
  rw[e];exact C7 _ v
 ·rw[if_neg c]at h;rw[show (i:Int)-1=((i-1:Nat):Int) by lia];exact bG h
theorem ie (R:LP9)(j:Nat):iA R (j+1)=iA R j++(if dj R j=true then [(cA R j).1] else []):=by
 unfold iA;rw[JQ,Kh,IT]
 congr 1
 by_cases h:dj R j=true
 ·simp[h]
 ·simp[h]
theorem EF {P:Pg9}{w:Wd9}{a b:Addr}{qual:Str}{xs:List NE}:oz a qual≠dN P w a xs:=fun e=>by
 have J:∀n:Nat,∃h:Heap,h.objs.size=n:=fun n=>by
  induction n with
  |zero=>exact⟨{},rfl⟩
  |succ n ih=>
   obtain⟨h,B⟩:=ih;exact⟨h.push {cls:=.none,data:=.fields #[]},by rw[PyProof.Rows.size_push',B]⟩
 obtain⟨h,B⟩:=J a;have O:(h.push {cls:=.none,data:=.fields #[.none,.str qual 0]}).CodeRec (.ref a) qual:=⟨a,_,_,0,rfl,by rw[<-B];exact IH _ rfl,rfl,rfl⟩;have Y:(h.push {cls:=.none,data:=.fields #[.none,.str qual 0]}).get? a=some {cls:=.none,data:=.fields #[.none,.str qual 0]}:=by rw[<-B];exact IH _ rfl
 unfold oz dN at e;injection e with e;have c2:=(congrFun e (h.push {cls:=.none,data:=.fields #[.none,.str qual 0]})).mp O;obtain⟨_,_,o,es,ep,G,_,k3,_⟩:=c2;rw[Y]at G;cases G;exact nomatch k3
theorem zI {P:Pg9}{w:Wd9}{T:AS9}{H H':Hp}{tl J:Addr}{O:List V}{xs:List NE}(t:fV T H)(h1:H tl=some (.lst O))(h2:H J=some (dN P w J xs))(k:∀b o,b≠tl->b≠J->H b=some o->H' b=some o):fV T H':=fun q Y=>by
 obtain⟨ps,B,g2,g3⟩:=t q Y;refine⟨ps,k _ _ (fun z=>by rw[z,h1]at B;cases B) (fun z=>by rw[z,h2]at B;exact nomatch B) B,g2,fun pos cv e=>?_⟩;obtain⟨c',e1,G⟩:=g3 pos cv e;refine⟨c',e1,k _ _ (fun z=>by rw[z,h1]at G;exact nomatch G) (fun z=>?_) G⟩;rw[z,h2]at G;exact EF (b:=J) (Option.some.inj G).symm
abbrev xu:Str:=("rings" : Str) ++ ".<locals>." ++ "<lambda>"
section
abbrev i7:Stmt:=top 45
theorem fu:aE ["sheet","x","y","first","pieces","gone","told","piece","ring","part"] ["sheet","x","y"] (aq i7):={}
inductive s_  (P:Pg9)(w:Wd9)(Tb:AS9)(vs:List V)(H:Hp)(Q:VK):Prop
 |mk (ps:Addr) (n x y:Nat) (v:V) (t:Tr) (q0:Sq) (h_0:vs=[.ref ps,.int (x:Int),.int (y:Int)]) (h_1:H ps=some (.tup [.int (n:Int),v])) (h_2:cM H v t) (h_3:bc n t) (h_4:n<=40) (h_5:cnt t<=1500) (h_6:q0∈sqs [] t 0 0 n) (h_7:(q0.x<=x/\x<q0.x+q0.w/\q0.y<=y/\y<q0.y+q0.w)) (h_8:fV Tb H) (h_9:∀A zs ys l us H',bw (sqs [] t 0 0 n) A zs->(∀k,k∈ys↔k∈oT (sqs [] t 0 0 n) (bC (sqs [] t 0 0 n) A q0.z))->ys.Pairwise (fun a b=>ltI (b.1.2,b.1.1) (a.1.2,a.1.1)=false)->cD Tb H H'->fV Tb H'->H l=none->H' l=some (.lst us)->Paired (RgV H l H') us (bU (DG (sqs [] t 0 0 n) (bC (sqs [] t 0 0 n) A q0.z)) ys).1->us.length<=9000000->Q (.ref l) H'):s_ P w Tb vs H Q
def pQ  (P:Pg9)(w:Wd9)(Tb:AS9):Sp:=fun vs H Q _=>s_ P w Tb vs H Q
theorem B6 (T:Tx K mg)(q:bS CX)(F:ES K "rings" "rings" i7 f fd .none Pa)(KX:K.In base)(hB:ng mg base)(hT:(Pa,xu)∈Tb)(j9:(Tb.map (·.1)).Nodup)(c5:Fok P w K mg base CX 5 "leaf_at" ["sheet","x","y"] [] kW)(G:Fok P w K mg base CX 45 "alike_around" ["sheet"] [] dF)(J:Fok P w K mg base CX 1 "members_from" ["around","first"] [] dE)(O:Fok P w K mg base CX 45 "pieces_round" ["sheet","codes"] [] (jq P w))(b4:Fok P w K mg base CX 2 "ring_from" ["pieces","first"] [] (md P w)):
  bB P w K mg base CX 50 f fd ["sheet","x","y"] (pQ P w Tb):=by
 refine F.ok KX fu (fun vs H Q E h=>?_) (fun c A outer s H vs Q E hC hr h=>?_)
 ·obtain⟨_,_,_,_,_,_,_,rfl,_⟩:=h;rfl
 obtain⟨ps,n,x,y,v,t,q0,rfl,f9,ht,gt,hn,hc,e3,ins,k0,q'⟩:=h;refine⟨_,(ab (au (i:=3) fu (ai c5 q hr (aa (pv 0) (aa (pv 1) (aa (pv 2) ae))))) (ab (au (i:=4) fu (ai O q hr (aa (pv 0) (aa (jU (N':=["code","other"]) [] [] [] 2 {} (bQ (ai J q hr (aa (ai G q hr (aa (pv 0) ae)) (aa (pv 3) ae)))) (fun _ _ _ _ _=>(DT (K:=K) (n:=2) rfl (aX (oi (i:=0)) (aX (oi (i:=1)) dL)))) (fun _ _ _ _ _=>(pv 0))) ae)))) (ab (au (i:=5) fu vR) (ab (au (i:=6) fu (bg ak)) (ab (aN II rfl (bQ (BN hr T.b_sorted hB hC rfl hT j9 rfl (by exact⟨rfl,rfl,rfl,by decide +kernel,by decide +kernel,by decide +kernel,by decide +kernel,by decide +kernel⟩) (aa (pv 4) ae))) (aP (i:=7) fu) (af (aT (aJ (Ab hr.nest) (pv 7) (pv 5) (by with_unfolding_all rfl)) (ab (jR (i:=8) fu.nd rfl (Or.inr rfl) (ai b4 q hr (aa (pv 4) (aa (pv 7) ae)))) (ab (ba (bH (pv 6) (aa (zY (N':=["at","ring"]) ["ring"] ["ring"] [8] 1 {} (bx rfl T.b_range (aa (av aY rfl T.b_len bN (aa (pv 8) ae)) ae)) (fun _ _ _ _ _=>(oi (i:=0))) (fun _ _ _ _ _=>(aJ mF (aD (pA (K:=K)) (aD (qM (K:=K)) (pv 1) (pv 0)) ac) (aD (pA (K:=K)) (aD (qM (K:=K)) (pv 1) (aj cT (pv 0) ac)) ac))) (fun _ _ _ _ _=>(aD (pA (K:=K)) (aD (qM (K:=K)) (pv 1) (pv 0)) ac))) ae))) (af (aN II rfl (bQ (pv 8)) (aP (i:=9) fu) (af (vP hr.nest (pv 5) (pv 9) cX (cG rfl))))))) aF))) (af (aB (pv 6)))))))),?_⟩
 obtain⟨L,eL⟩:∃L,L=sqs [] t 0 0 n:=⟨_,rfl⟩;have i3:L.Pairwise eF:=by rw[eL];exact cW t [] 0 0 n gt
 have lL:L.length=cnt t:=by rw[eL];exact dD t [] 0 0 n
 obtain⟨_,f2,_,f4,_⟩:=gg t [] 0 0 n gt q0 e3;have xn:x<2^n:=by lia
 have yn:y<2^n:=by lia
 refine⟨.ref ps,t,n,x,y,rfl,⟨ps,v,rfl,f9,ht⟩,gt,hn,xn,yn,fun i cc H1 s1 hi i4=>?_⟩;rw[yW gt xn yn eL (by rw[eL];exact e3) ins hi i4];have hz:q0.z∈L.map (·.z):=Iv.mpr ⟨q0,by rw[eL];exact e3,rfl⟩;refine⟨[],rfl,ps,n,v,t,rfl,s1 _ _ f9,ht.up s1.tups,gt,hn,hc,fun da lo A H2 s2 q6 ar k1 hN _=>?_⟩;rw[<-eL]at ar hN;have Cx:bw L A (L.map (·.z)):=⟨rfl,i3,by rw[Iq];lia,hN⟩;refine⟨da,q0.z,L.map (·.z),lo,A,rfl,ar,hz,by rw[Iq];lia,Cx.cl,k1,fun lm um k H3 s3 q7 i5 hM hk=>?_⟩;have bi:=BI.bfs Cx.cl hz k;have bl:=bi.len;rw[Iq]at bl;have em:=pr hk (by lia);rw[<-em]at hM bl hk
 clear em
 obtain⟨R,eR⟩:∃R,R=cO A q0.z:=⟨_,rfl⟩;rw[<-eR]at hM bl hk;have q8:=Paired.length hM;obtain⟨M,eM⟩:∃M,M=bC L A q0.z:=⟨_,rfl⟩;obtain⟨d2,i6⟩:=lJ gt (q0:=q0) (by rw[<-eL];exact Cx) e3;rw[<-eL,<-eM]at d2 i6;have Mz:M.map (fun q=>sV q.z)=R.map fun m=>sV m.1:=by
  rw[eM,eR];unfold bC;rw[Jp];refine Jg fun m hm=>?_;have mz:=(Cx.bi hz).sub m hm;obtain⟨r,g0,er⟩:=Iv.mp mz;show sV (cZ L m.1).z=sV m.1;rw[<-er,iY i3 g0]
 have lM:M.length<=1500:=by
  have h1:=I_ List.length Mz;rw[Iq,Iq]at h1
  lia
 refine⟨lm,rfl,⟨_,SqL.of i5⟩,lN um (fun D (j:Nat) ys H'=>ah H3 H'/\H' D=some (.lst ys)/\j<=um.length/\ys=(R.take j).map fun m=>sV m.1) (IU (by lia:um.length<=2000) (by decide)) (fun D j ys H' h=>SqL.of (h.1 _ _ i5))
  (fun D j ys H' h=>⟨h.2.1,by rw[h.2.2.2,Iq,Jl];lia⟩) (fun D hD=>⟨ah.new hD _,ag,IG _,rfl⟩) ?_ ?_ ?_ ?_⟩
 ·rintro D j u ys H4 hu hD ⟨c1,c2,c3,c4⟩;obtain⟨mm,k2,pm,rfl,k3⟩:=aM hM hu;refine⟨pm,_,rfl,SqT.of (c1 _ _ k3),rfl,_,_,rfl,_,_,rfl,rfl,rfl,c2,ah.set c1 hD _,ag,(Ix.mp hu).1,?_⟩;rw[Jf,k2,c4,IT];rfl
 rotate_left
 ·rintro x σ H' R R' k ⟨a,xs,e1,h1,h2,y1,r1,f1,y2,r2,f2,f6,h⟩;exact⟨a,xs,e1,h1,h2,y1,r1,f1,y2,r2,f2,f6,k _ _ h⟩
 ·intro σ H' R R' k h_;obtain⟨_,e,h⟩:=aO h_;exact (aW e (k _ _ h))
 rintro D q9 H4 hD ⟨c1,uD,c3,c4⟩;rw[IS (by lia),<-Mz]at c4;subst c4;have g1:=s1.trans (s2.trans (s3.trans c1));refine⟨ps,D,n,v,t,M,rfl,g1 _ _ f9,ht.up g1.tups,gt,hn,hc,uD,fun r g0=>by rw[<-eL];exact d2.sub r g0,lM,fun dp xs H5 s5 r0 pc=>?_⟩;rw[<-eL]at pc;have g2:=g1.trans s5;have lG:(GL L M).length<=9000000:=by
  have h1:=ya (L:=L) (M:=M) d2.sub;have h2:M.length*(4*L.length)<=1500*(4*1500):=KF lM (by lia)
  lia
 refine fun Y g3=>?_;have s6:=ah.new g3 (dN P w Y []);have u6:upd H5 Y (dN P w Y []) Y=some (dN P w Y []):=ag
 change A_ _ _ _ _ (upd H5 Y (dN P w Y []))
 generalize upd H5 Y (dN P w Y [])=H6 at *;refine⟨(leZ rfl),fun tl i8=>?_⟩;have s7:=ah.new i8 (.lst []);have u7:upd H6 tl (.lst []) tl=some (.lst []):=ag
 change A_ _ _ _ _ (upd H6 tl (.lst []))
 generalize upd H6 tl (.lst [])=H7 at *;have i9:=g2.trans (s6.trans s7);have c6:=pc.up (s6.trans s7);have g4:=i9.tabs k0;refine⟨dp,xs,rfl,c6.dn,g4,fun S es H8 sT j0 nS uS pm pw=>?_⟩;have g5:∀{b:Addr} {o:HO},H7 b=some o->(∀qs,o≠.tbl qs)->H8 b=some o:=fun e h=>sT.keep g4 e h;have t8:bn H7 H8:=sT.tups g4;have a0:Pcd P w H8 dp xs (GL L M):=⟨c6.dn.keep (by rw[c6.dn.at_];exact g5 c6.dn.at_ (by intro qs z;cases z)) t8,fun e he=>(c6.ent e he).up t8 fun _ h=>h,c6.all,c6.len⟩;have d3:=g5 (s7 _ _ u6) (by intro qs z;cases z);have u8:=g5 u7 (by intro qs z;cases z);have j1:cD Tb H H8:=i9.toT.trans sT;obtain⟨Dg,eD⟩:∃Dg,Dg=DG L M:=⟨_,rfl⟩;obtain⟨ks,d4⟩:∃ks,ks=es.map kx:=⟨_,rfl⟩;have r3:ks.length=es.length:=by rw[d4,Iq]
 have r4:es.length<=9000000:=by
  have h1:=pm.length_eq;have h2:=a0.len
  lia
 have j2:∀e∈es,dw (kx e)=e.1/\kx e∈oT L M/\iC H8 e.1 e.2.1:=fun e he=>by
  have hx:=pm.mem_iff.mp he;obtain⟨p,hp,ep,_⟩:=a0.ent e hx;have h1:=GG hp;rw[ep]at h1;refine⟨h1,?_,(a0.dn.keys e hx).1⟩;unfold oT;refine Iv.mpr ⟨p,hp,?_⟩;rw[ep];rfl
 have f0:Y≠tl:=fun z=>by rw[z,u8]at d3;exact nomatch d3
 have k4:dp≠Y:=fun z=>by
  have h1:=pc.dn.at_
  rw[z,g3]at h1;cases h1
 have k5:dp≠tl:=fun z=>by
  have h1:=a0.dn.at_
  rw[z,u8]at h1;exact nomatch h1
 have k6:S≠tl:=fun z=>by rw[z,u7]at nS;cases nS
 have k7:S≠Y:=fun z=>by rw[z,s7 _ _ u6]at nS;cases nS
 have j3:H tl=none:=(g2.trans s6).free i8;have k8:H Y=none:=g2.free g3;have l0:∀{H9:Hp},(∀b o,b≠tl->b≠Y->H8 b=some o->H9 b=some o)->Pcd P w H9 dp xs (GL L M)/\bn H8 H9:=fun {H9} k=>by
  have tp:bn H8 H9:=fun b ys e=>k b _ (fun z=>by rw[z,u8]at e;cases e) (fun z=>by rw[z,d3]at e;exact nomatch e) e;exact⟨⟨a0.dn.keep (by rw[a0.dn.at_];exact k _ _ k5 k4 a0.dn.at_) tp,fun e he=>(a0.ent e he).up tp fun _ h=>h,a0.all,a0.len⟩,tp⟩
 refine⟨S,rfl,⟨_,SqL.of uS⟩,bJ (xs:=es.map fun e=>V.ref e.2.1) (fun (i:Nat) σ H9=>i<=es.length/\(∀b o,b≠tl->b≠Y->H8 b=some o->H9 b=some o)/\(∃gx,Gon P w H9 Y L M (bU Dg (ks.take i)).2 gx)/\(∃us,H9 tl=some (.lst us)/\Paired (RgV H tl H9) us (bU Dg (ks.take i)).1/\us.length<=i)/\∃o7 o8 o9:OW9,σ=[some (.ref ps),some (.int (x:Int)),some (.int (y:Int)),some (sV q0.z),some (.ref dp),some (.ref Y),some (.ref tl),o7,o8,o9])
  ⟨IG _,fun _ _ _ _ e=>e,⟨[],⟨d3,fun e he=>absurd he (by simp)⟩,Km,fun e he=>absurd he (by simp),fun z=>by simp[nkV,bU]⟩,⟨[],u8,by exact .nil,Iw _⟩,_,_,_,rfl⟩ (fun i σ H9 _ h=>SqL.of (h.2.1 _ _ k6 k7 uS)) ?_ ?_⟩
 ·rintro i u σ H9 hu ⟨_,k9,⟨gx,g9⟩,⟨us,w9,hR,lu⟩,o7,o8,o9,rfl⟩;rw[IM]at hu;obtain⟨e,ee,rfl⟩:=IX.mp hu;have hi:=(Ix.mp ee).1;obtain⟨ek,ed,l1⟩:=j2 e (ID ee);obtain⟨l2,t9⟩:=l0 k9;have j4:=l1.up t9;have et:ks.take (i+1)=ks.take i++[kx e]:=by rw[Jf,d4,IM,ee];rfl
  rw[et,mw];generalize bU Dg (ks.take i)=X at *;refine⟨Y,e.2.1,e.1,gx,rfl,rfl,g9.dn,j4,ay (ci (fun c1=>?_) (fun c1=>?_))⟩
  rotate_left
  ·have c1':¬ (!(nkV gx e.1).isSome)=true:=c1;have l3:kx e∈X.2:=(g9.has (kx e)).mp (by
    rw[ek];cases hh:(nkV gx e.1).isSome with
    |true=>rfl
    |false=>rw[hh]at c1';exact absurd rfl c1')
   have eX:kG Dg X (kx e)=X:=by unfold kG;rw[if_pos l3]
   rw[eX];exact⟨hi,k9,⟨gx,g9⟩,⟨us,w9,hR,by lia⟩,_,_,_,rfl⟩
  have l4:kx e∉X.2:=fun h=>by
   have c1':(!(nkV gx e.1).isSome)=true:=c1;have h1:=(g9.has (kx e)).mpr h;rw[ek]at h1;rw[h1]at c1';cases c1'
  have eX:kG Dg X (kx e)=(X.1++[gU (bZ Dg (kx e))],X.2++bZ Dg (kx e)):=by unfold kG;rw[if_neg l4]
  rw[eX];refine⟨dp,e.2.1,xs,L,M,_,_,kx e,rfl,l2,d2,(by rw[ek];exact j4),fo.mp ed,lG,fun N lr ur g6 f3 r5 e4 e5 e6 d5=>?_⟩;rw[<-eD]at f3 d5;have g7:bZ Dg (kx e)=aL Dg (kx e) N:=by unfold bZ;rw[BL f3]
  rw[<-g7]at d5;have g8:(bZ Dg (kx e)).length=N:=by rw[g7];unfold aL;rw[Iq,J_]
  have r6:=Paired.length d5;have l5:∀z∈bZ Dg (kx e),z∈oT L M:=fun z hz=>by
   rw[g7]at hz;unfold aL at hz;obtain⟨j,_,rfl⟩:=Iv.mp hz;rw[eD];exact fo.mpr (Ct d2 (fo.mp ed) j)
  generalize bZ Dg (kx e)=Rg at *;have h0:=e4 _ _ w9;have i0:=g9.up e4;have f5:∀(j:Nat),j<N->∃(a b:Addr),ur[j]? = some (.ref a)/\g6 a=some (.tup [.ref b,.int ((cA Rg j).2:Int)])/\g6 b=some (.tup [.int (cA Rg j).1.1,.int (cA Rg j).1.2]):=fun j hj=>by
   obtain⟨u1,j5⟩:∃u1,ur[j]? = some u1:=⟨ur[j]'(by lia),IE _⟩;obtain⟨z,e7,a,e1,b,h1,h2⟩:=aM d5 j5;have ez:cA Rg j=z:=by unfold cA;rw[e7];rfl
   rw[ez,j5,e1];exact⟨a,b,rfl,h1,h2⟩
  have eN:((ur.length:Int)).toNat=N:=by rw[Jn];lia
  refine⟨.inl ⟨rfl,_,SqL.of h0⟩,[.ref lr],rfl,_,_,rfl,.inl ⟨_,SqL.of e6,rfl⟩,_,rfl,by simp,by lia,uW (fun D (j:Nat) ys H'=>j<=N/\ah g6 H'/\H' D=some (.lst ys)/\ys.length<=j/\dB H' ys (iA Rg j)) (by rw[eN];exact IU (by lia:N<=9000000) (by decide)) (fun D j ys H' h=>⟨h.2.2.1,h.2.2.2.1⟩) (fun D hD=>⟨IG _,ah.new hD _,ag,Iw _,by exact .nil⟩) ?_ ?_ (fun _ _ _ _ _ k h=>k _ _ h) ?_ ?_⟩
  ·rintro D j ys b0 hj hD ⟨_,B,d6,l6,d7⟩;rw[eN]at hj;rw[show (0:Int)+(j:Int)=j from JO _];obtain⟨a1,b1,x1,x2,x3⟩:=f5 j hj;obtain⟨a2,b2,y1,y2,y3⟩:=f5 (prv N j) (by unfold prv;split<;>lia);have c7:=B _ _ e6;have yy:atI ur ((j:Int)-1)=some (.ref a2):=BG (by lia) (by rw[show ur.length=N by lia];exact y1);refine⟨rfl,lr,_,_,_,rfl,rfl,SqL.of c7,bG x1,a1,_,_,_,rfl,rfl,SqT.of (B _ _ x2),rfl,lr,_,_,_,rfl,rfl,SqL.of c7,yy,a2,_,_,_,rfl,rfl,SqT.of (B _ _ y2),rfl,rfl,ay (ci (fun c2=>?_) (fun c2=>?_))⟩
   ·have ic:dj Rg j=true:=by
     have c2':(!decide (V.int ((cA Rg j).2:Int)=V.int ((cA Rg (prv N j)).2:Int)))=true:=c2;unfold dj;rw[g8];refine IC fun e=>?_;rw[e,IC rfl]at c2';cases c2'
    refine⟨lr,_,_,_,rfl,rfl,SqL.of c7,bG x1,a1,_,_,_,rfl,rfl,SqT.of (B _ _ x2),rfl,d6,hj,ah.set B hD _,ag,by rw[Iy,Jq];lia,?_⟩;rw[ie,if_pos ic];have c8:bn b0 (upd b0 D (.lst (ys++[.ref b1]))):=bE d6 (by intro xs q;cases q);exact aR (d7.up c8) (.cons ⟨b1,rfl,c8 _ _ (B _ _ x3)⟩ .nil)
   ·have ic:¬ dj Rg j=true:=fun h=>by
     have c2':¬ (!decide (V.int ((cA Rg j).2:Int)=V.int ((cA Rg (prv N j)).2:Int)))=true:=c2;unfold dj at h;rw[g8]at h;have h':=IZ h;refine c2' ?_;rw[Jh fun e=>h' (by have:=V.int.inj e;lia)];rfl
    rw[ie,if_neg ic,Jt];exact⟨hj,B,d6,by lia,d7⟩
  rotate_left
  ·intro σ H' R R' k h_;obtain⟨_,e1,h_⟩:=aO h_;obtain⟨_,e2,h_⟩:=aO h_;obtain⟨h1,h2,h3,h4,h5,h6,h7,h8,h9,l7,l8,l9,m0,m1,m2,m3,m4⟩:=h_;exact (aW e1 (aW e2 ⟨h1,h2,h3,h4,h5,h6,h7,h8,h9,l7,l8,l9,m0,m1,m2,m3,k _ _ m4⟩))
  ·intro σ H' R R' k h_;obtain⟨_,a1,h_⟩:=aO h_;obtain⟨_,a3,h_⟩:=aO h_;obtain⟨a4,a5,a6,a7,a8,a9,m5,m6,m7,m8,m9,n0,n1,n2,n3,n4,h_⟩:=h_;obtain⟨_,b1,h_⟩:=aO h_;obtain⟨_,b3,h_⟩:=aO h_;obtain⟨_,_,b6,b7,h_⟩:=cF h_;obtain⟨b8,b9,n5,n6,n7,n8,n9,o0,o1,o2,o3,o4,o5,o6,p0,p1,r1,h_⟩:=h_;obtain⟨_,v2,h⟩:=mH h_;exact (aW a1 (aW a3 (⟨a4,a5,a6,a7,a8,a9,m5,m6,m7,m8,m9,n0,n1,n2,n3,n4,aW b1 (aW b3 (fi b6 b7 ⟨b8,b9,n5,n6,n7,n8,n9,o0,o1,o2,o3,o4,o5,o6,p0,p1,r1,B8 v2 (k _ _ h)⟩))⟩)))
  rintro D cs b0 hD ⟨_,B,d6,l6,d7⟩;rw[eN,<-g8]at d7;have p11':dB b0 cs (gU Rg):=d7;have f7:=B _ _ h0;have i1:D≠tl:=fun z=>by rw[z,h0]at hD;cases hD
  have d8:H9 D=none:=e4.free hD;have p2:H8 D=none:=by
   cases e8:H8 D with
   |none=>rfl
   |some o=>
    have:=k9 D o i1 (fun z=>by rw[z,g9.dn.at_]at d8;cases d8) e8
    rw[d8]at this;cases this
  have p3:H D=none:=Dz j1 j0 p2;have d9:=e4.trans B;refine⟨tl,us,_,rfl,rfl,f7,IJ (by lia:us.length<9000001) (by decide),?_⟩;have c8:bn b0 (upd b0 tl (.lst (us++[.ref D]))):=bE f7 (by intro xs q;cases q);have d0:∀b o,b≠tl->b0 b=some o->upd b0 tl (.lst (us++[.ref D])) b=some o:=fun b o hb e=>by rw[aA hb];exact e
  have p4:upd b0 tl (.lst (us++[.ref D])) tl=some (.lst (us++[.ref D])):=ag;generalize upd b0 tl (.lst (us++[.ref D]))=e0 at *;have j6:bn H9 e0:=d9.tups.trans c8;have i2:=(i0.up B).keep (H':=e0) (by rw[(i0.up B).dn.at_];exact d0 _ _ f0 (i0.up B).dn.at_) c8;have j7:lr≠tl:=fun z=>by rw[z,w9]at e5;cases e5
  have p5:lr≠Y:=fun z=>by rw[z,g9.dn.at_]at e5;cases e5
  have Dg':D≠Y:=fun z=>by rw[z,g9.dn.at_]at d8;cases d8
  let J0:NS9:=fun (j:Nat) σ c9=>j<=ur.length/\(∀b o,b≠Y->e0 b=some o->c9 b=some o)/\(∃gx,Gon P w c9 Y L M (X.2++Rg.take j) gx)/\∃o9:OW9,σ=[some (.ref ps),some (.int (x:Int)),some (.int (y:Int)),some (sV q0.z),some (.ref dp),some (.ref Y),some (.ref tl),some (.ref e.2.1),some (.ref lr),o9]
  refine⟨lr,rfl,⟨_,SqL.of (d0 _ _ j7 (B _ _ e6))⟩,bJ (xs:=ur) J0
   ⟨IG _,fun _ _ _ e=>e,⟨gx,by simpa using i2⟩,_,rfl⟩ (fun j σ c9 _ h=>SqL.of (h.2.1 _ _ p5 (d0 _ _ j7 (B _ _ e6)))) ?_ ?_⟩
  ·rintro j r7 σ c9 f8 ⟨_,b5,⟨c0,d1⟩,o9,rfl⟩;have hj:=(Ix.mp f8).1;obtain⟨z,e7,a1,rfl,na⟩:=aM d5 f8;have e9:bn e0 c9:=fun b ys e=>b5 b _ (fun z=>by rw[z,i2.dn.at_]at e;exact nomatch e) e;have j8:=na.up (B.tups.trans (c8.trans e9));have gl:=d1.len;refine⟨Y,a1,dw z,c0,rfl,rfl,d1.dn,j8,rfl,IJ (by lia:c0.length<9000001) (by decide),fun p6=>?_⟩;refine⟨hj,fun b o hb e=>by rw[aA hb];exact b5 b o hb e,⟨cY c0 (dw z) a1 (.bl true),?_⟩,_,rfl⟩;rw[Jf,e7,<-Jv];exact d1.put (l5 z (ID e7)) p6
  ·rintro σ c9 ⟨_,b5,⟨c0,d1⟩,o9,rfl⟩;rw[IS (by lia)]at d1;have e9:bn e0 c9:=fun b ys e=>b5 b _ (fun z=>by rw[z,i2.dn.at_]at e;exact nomatch e) e;refine⟨hi,fun b o h1 h2 e=>b5 b o h2 (d0 b o h1 (d9 _ _ (k9 b o h1 h2 e))),⟨c0,d1⟩,⟨us++[.ref D],b5 _ _ (Ne.symm f0) p4,aR (Paired.mapP hR fun _ _ h=>h.keep (fun b xs hb e=>b5 b _ (fun z=>by rw[z,g9.dn.at_]at e;exact nomatch e) (d0 b _ hb (d9 _ _ e))) (j6.trans e9)) (.cons ⟨D,cs,rfl,i1,p3,b5 _ _ Dg' (d0 _ _ i1 d6),p11'.up (c8.trans e9)⟩ .nil),by rw[Iy,Jq];lia⟩,_,_,_,rfl⟩
 ·rintro σ H9 ⟨_,k9,⟨gx,g9⟩,⟨us,w9,hR,lu⟩,o7,o8,o9,rfl⟩;have p7:(es.map fun e=>V.ref e.2.1).length=es.length:=Iq _;rw[p7,IS (by lia)]at hR;have p8:=zI j0 u8 d3 k9;have p9:cD Tb H H9:=fun b o e hb=>k9 b o (fun z=>by rw[z,j3]at e;cases e) (fun z=>by rw[z,k8]at e;cases e) (j1 b o e hb);rw[<-eL]at q';refine (q' A (L.map (·.z)) ks tl us H9 Cx (fun kk=>?_) ?_ p9 p8 j3 w9 ?_ (by lia))
  ·rw[<-eM];constructor
   ·intro h;rw[d4]at h;obtain⟨e,he,rfl⟩:=Iv.mp h;exact (j2 e he).2.1
   ·intro h;have h1:=a0.has kk;rw[fo.mp h]at h1;obtain⟨v1,q4⟩:=I8.mp h1;obtain⟨b1,q5⟩:=mJ q4;rw[d4];refine Iv.mpr ⟨_,pm.mem_iff.mpr q5,?_⟩;show ((dw kk).1,(dw kk).2.toNat)=kk;unfold dw;exact Prod.ext rfl (by simp)
  ·rw[d4,Jc];exact pw
  ·rw[<-eM,<-eD];exact hR
end
def Seg (C:II9)(a b:Pt)(d:Nat):Prop:=d<4/\∃l:Nat,0<l/\b=go a l d/\∀k<l,Bd C (go a k d) d
theorem Seg.join (h:Seg C a b d)(k:Seg C b c d):Seg C a c d:=by
 obtain⟨B,l,O,rfl,G⟩:=h;obtain⟨_,m,Y,rfl,J⟩:=k;refine⟨B,l+m,by lia,jk a l m d,fun j hj=>?_⟩;rcases JV j l with c|c
 ·exact G j c
 ·have:=J (j-l) (by lia)
  rw[jk,show l+(j-l)=j by lia]at this;exact this
def EQ (C:II9)(a b:Pt×Nat):Prop:=Seg C a.1 b.1 a.2/\turn C b.1 a.2 b.2/\b.2≠a.2/\b.2<4
def Chn {α:Type}(R:α->α->Prop):List α->Prop
 | []=>True
 | [_]=>True
 |a::b::l=>R a b/\Chn R (b::l)
theorem Chn.snoc:∀{l:List α} {b:α},Chn R (l++[b])->R b c->Chn R (l++[b]++[c])
 | [],b,_,h=>⟨h,trivial⟩
 | [a],b,h,k=>⟨h.1,k,trivial⟩
 |a::a'::l,b,h,k=>⟨h.1,Chn.snoc (l:=a'::l) h.2 k⟩
theorem Chn.at_:∀{l:List α},Chn R l->∀{i:Nat} {a b:α},l[i]? = some a->l[i+1]? = some b->R a b
 | [],_,i,a,b,h,_=>by simp at h
 | [_],_,i,a,b,_,h=>by simp at h
 |x::y::l,h,0,a,b,h1,h2=>by
  have B:x=a:=by simpa using h1
  have G:y=b:=by simpa using h2
  subst B G;exact h.1
 |x::y::l,h,i+1,a,b,h1,h2=>Chn.at_ (l:=y::l) h.2 (i:=i) (by simpa using h1) (by simpa using h2)
section
def wC (R:LP9)(j:Nat):LP9:=((List.range j).filter (dj R)).map (cA R)
theorem EE (R:LP9)(j:Nat):(wC R j).map (·.1)=iA R j:=by
 unfold wC iA;rw[Jp];rfl
theorem zt (R:LP9)(j:Nat):wC R (j+1)=wC R j++(if dj R j=true then [cA R j] else []):=by
 unfold wC;rw[JQ,Kh,IT]
 congr 1
 by_cases h:dj R j=true
 ·simp[h]
 ·simp[h]
theorem jC (h:Pcs C D)(B:(D x.1 x.2).isSome=true):Seg C x.1 (nx D x).1 x.2/\turn C (nx D x).1 x.2 (nx D x).2/\(nx D x).2<4:=by
 obtain⟨p,ep⟩:=I8.mp B;obtain⟨G,h1,_,J,O⟩:=hJ h (a:=x.1) (d:=x.2) ep;have h1':nx D x=(p,G):=h1;obtain⟨l,Y,el,hb⟩:=h.len ep;rw[h1'];exact⟨⟨h.way ep,l,Y,el,hb⟩,J,O⟩
theorem cN (hi:i<N):cA (aL D x N) i=it (nx D) i x:=by
 unfold cA aL;rw[IM,List.getElem?_range hi];rfl
theorem dh:(aL D x N).length=N:=by unfold aL;rw[Iq,J_]
theorem qf (h:Pcs C D)(G:∀i,(D (it (nx D) i x).1 (it (nx D) i x).2).isSome=true)(O:dj (aL D x N) 0=true):∀j,0<j->j<=N->∃cs c,wC (aL D x N) j=cs++[c]/\(cs++[c])[0]? = some x/\Chn (EQ C) (cs++[c])/\Seg C c.1 (it (nx D) j x).1 c.2/\c.2=(it (nx D) (j-1) x).2
 |0,h0,_=>absurd h0 (Kb 0)
 |1,_,hN=>by
  have e:wC (aL D x N) 1=[x]:=by
   rw[zt,if_pos O,cN hN];rfl
  have st:=jC h (G 0);exact⟨[],x,e,rfl,trivial,st.1,rfl⟩
 |j+2,_,hN=>by
  obtain⟨cs,c,e,Y,ch,sg,ew⟩:=qf h G O (j+1) (Lb _) (by lia);have st:=jC h (G (j+1));have B:=jC h (G j);have ew':c.2=(it (nx D) j x).2:=ew;rw[zt,e];have ic:dj (aL D x N) (j+1)=decide ((it (nx D) (j+1) x).2≠(it (nx D) j x).2):=by
   unfold dj prv;rw[if_neg (by simp),cN (by assumption),show j+1-1=j from rfl,cN (by lia)]
  by_cases c1:(it (nx D) (j+1) x).2=(it (nx D) j x).2
  ·have J:¬ dj (aL D x N) (j+1)=true:=by rw[ic];simp[c1]
   rw[if_neg J,Jt];refine⟨cs,c,rfl,Y,ch,sg.join ?_,by rw[ew'];exact c1.symm⟩
   have:=st.1
   rw[c1,<-ew']at this;exact this
  ·have J:dj (aL D x N) (j+1)=true:=by rw[ic];simp[c1]
   rw[if_pos J,cN (by assumption)];refine⟨cs++[c],_,rfl,?_,Chn.snoc ch ⟨sg,?_,?_,B.2.2⟩,st.1,rfl⟩
   ·rw[Jj (by simp)];exact Y
   ·rw[ew'];exact B.2.1
   ·rw[ew'];exact c1
end
def leP (a b:Pt):Prop:=a.2<b.2\/(a.2=b.2/\a.1<=b.1)
theorem xR (h:ltI (b.2,b.1) (a.2,a.1)=false):leP a b:=by
 unfold ltI mM at h;unfold leP;by_cases c:b.2=a.2
 ·rw[if_pos c]at h
  have:=Ls h
  lia
 ·rw[if_neg c]at h
  have:=Ls h
  dsimp only at this
  lia
section
theorem xQ (h1:Seg C a p d)(h2:Seg C p b e)(B:turn C p d e)(la:leP p a)(lb:leP p b):(d=3/\e=0)\/(d=2/\e=1):=by
 obtain⟨d4,l,l0,G,_⟩:=h1;obtain⟨e4,m,m0,J,_⟩:=h2;have x1:=I_ Prod.fst G;have x2:=I_ Prod.snd G;have O:=I_ Prod.fst J;have Y:=I_ Prod.snd J;unfold turn at B;unfold leP at la lb;rcases dk d4 with rfl|rfl|rfl|rfl<;>simp[go,ux,uy]at x1 x2 B
 ·lia
 ·lia
 ·rcases B with⟨_,rfl⟩|⟨_,_,rfl⟩|⟨_,_,rfl⟩<;>simp[go,ux,uy]at O Y<;>first|lia|exact .inr ⟨rfl,rfl⟩
 ·rcases B with⟨_,rfl⟩|⟨_,_,rfl⟩|⟨_,_,rfl⟩<;>simp[go,ux,uy]at O Y<;>first|lia|exact .inl ⟨rfl,rfl⟩
end
section
structure eB (C:II9)(D:PD9):Prop where
 pc:Pcs C D
 dom:∀{x:Pt×Nat},(D x.1 x.2).isSome=true->(D (nx D x).1 (nx D x).2).isSome=true
 back:∀{x:Pt×Nat},(D x.1 x.2).isSome=true->∃N,Per D x N
theorem eB.go_ (W:eB C D)(B:(D x.1 x.2).isSome=true)(i:Nat):(D (it (nx D) i x).1 (it (nx D) i x).2).isSome=true :=
 nR (S:=fun y:Pt×Nat=>(D y.1 y.2).isSome=true) (fun _ h=>W.dom h) B i
theorem DV (h:Per D x N)(q:Nat):it (nx D) (N*q) x=x:=by
 induction q with
 |zero=>rfl
 |succ q ih=>
  rw[Nat.mul_succ,Lf,<-cI,h.2.1,ih]
theorem Ch (h:Per D x N):z∈aL D x N↔∃j,z=it (nx D) j x:=by
 unfold aL;constructor
 ·intro hz;obtain⟨j,_,rfl⟩:=Iv.mp hz;exact⟨j,rfl⟩
 ·rintro⟨j,rfl⟩;refine Iv.mpr ⟨j%N,Jm.mpr (KM _ h.1),?_⟩;have e:j=N*(j/N)+j%N:=(K1 j N).symm;have B:it (nx D) j x=it (nx D) (N*(j/N)+j%N) x:=I_ (fun m=>it (nx D) m x) e;rw[B,<-cI,DV h]
theorem g7 (h:Per D x N):bZ D x=aL D x N:=by unfold bZ;rw[BL h]
theorem eB.mem (W:eB C D)(B:(D x.1 x.2).isSome=true):z∈bZ D x↔∃j,z=it (nx D) j x:=by
 obtain⟨N,h⟩:=W.back B;rw[g7 h];exact Ch h
theorem eB.sym (W:eB C D)(B:(D x.1 x.2).isSome=true)(hz:z∈bZ D x):(D z.1 z.2).isSome=true/\x∈bZ D z:=by
 obtain⟨N,h⟩:=W.back B;have hz':=hz;rw[g7 h]at hz';unfold aL at hz';obtain⟨j,hj,rfl⟩:=Iv.mp hz';have G:=W.go_ B j;refine⟨G,(W.mem G).mpr ⟨N-j,?_⟩⟩;rw[cI,show j+(N-j)=N by have:=Jm.mp hj;lia,h.2.1]
theorem eB.trans (W:eB C D)(B:(D x.1 x.2).isSome=true)(G:y∈bZ D x)(hz:z∈bZ D y):z∈bZ D x:=by
 obtain⟨i,rfl⟩:=(W.mem B).mp G;obtain⟨j,rfl⟩:=(W.mem (W.go_ B i)).mp hz;exact (W.mem B).mpr ⟨i+j,cI _ _ _ _⟩
theorem eB.self (W:eB C D)(B:(D x.1 x.2).isSome=true):x∈bZ D x:=(W.mem B).mpr ⟨0,rfl⟩
structure RgI (D:PD9)(done:LP9)(ss:LP9)(X:List (List Pt)×LP9):Prop where
 told:X.1=ss.map fun s=>gU (bZ D s)
 gone:∀z,z∈X.2↔∃s∈ss,z∈bZ D s
 from_:∀s∈ss,s∈done
 all:∀z∈done,z∈X.2
 low:∀s∈ss,∀z∈bZ D s,leP s.1 z.1
 asc:ss.Pairwise fun s s'=>leP s.1 s'.1/\s'∉bZ D s
theorem rgI (W:eB C D){ys:LP9}(hd:∀k,k∈ys↔(D k.1 k.2).isSome=true)(hs:ys.Pairwise fun a b=>leP a.1 b.1):∀i,∃Y,RgI D (ys.take i) Y (bU D (ys.take i))
 |0=>⟨[],by
  rw[L_];exact⟨rfl,fun z=>by simp[bU],fun s h=>absurd h (by simp),fun z h=>absurd h (by simp),fun s h=>absurd h (by simp),List.Pairwise.nil⟩⟩
 |i+1=>by
  obtain⟨Y,I⟩:=rgI W hd hs i;cases ek:ys[i]? with
  |none=>
   have e:ys.take (i+1)=ys.take i:=by rw[Jf,ek];simp
   rw[e];exact⟨Y,I⟩
  |some k=>
   have e:ys.take (i+1)=ys.take i++[k]:=by rw[Jf,ek];rfl
   have hk:=(hd k).mp (ID ek);have G:=(Ix.mp ek);have J:∀z∈ys,z∉ys.take i->leP k.1 z.1:=fun z hz hn=>by
    obtain⟨j,hj⟩:=Je hz;have B:=Ix.mp hj;have a2:i<=j:=by
     rcases JV j i with c|c
     ·exact absurd (ID (show (ys.take i)[j]? = some z by rw[K4,if_pos c];exact hj)) hn
     ·exact c
    rcases JV i j with c|c
    ·have:=JA.mp hs i j G.1 B.1 c
     rw[G.2,B.2]at this;exact this
    ·have:i=j:=by lia
     subst this;rw[ek]at hj;cases hj;exact .inr ⟨rfl,Ko _⟩
   rw[e,mw];by_cases c:k∈(bU D (ys.take i)).2
   ·have es:kG D (bU D (ys.take i)) k=bU D (ys.take i):=by unfold kG;rw[if_pos c]
    rw[es];refine⟨Y,I.told,I.gone,fun s h=>Ja _ (I.from_ s h),fun z hz=>?_,I.low,I.asc⟩;rcases Iz.mp hz with hz | hz
    ·exact I.all z hz
    ·rw[Iu.mp hz];exact c
   ·have es:kG D (bU D (ys.take i)) k=((bU D (ys.take i)).1++[gU (bZ D k)],(bU D (ys.take i)).2++bZ D k):=by unfold kG;rw[if_neg c]
    rw[es];have kd:∀s∈Y,(D s.1 s.2).isSome=true:=fun s h=>(hd s).mp (JU (I.from_ s h));have low:∀z∈bZ D k,leP k.1 z.1:=fun z hz=>by
     obtain⟨dz,kz⟩:=W.sym hk hz;refine J z ((hd z).mpr dz) fun O=>c ?_;obtain⟨s,a0,a1⟩:=(I.gone z).mp (I.all z O);exact (I.gone k).mpr ⟨s,a0,W.trans (kd s a0) a1 kz⟩
    refine⟨Y++[k],?_,fun z=>?_,fun s h=>?_,fun z hz=>?_,fun s h=>?_,?_⟩
    ·rw[I.told,IT];rfl
    ·rw[Iz,I.gone];constructor
     ·rintro (⟨s,h1,h2⟩ | h)
      ·exact⟨s,Ja _ h1,h2⟩
      ·exact⟨k,by simp,h⟩
     ·rintro⟨s,h1,h2⟩;rcases Iz.mp h1 with h1 | h1
      ·exact .inl ⟨s,h1,h2⟩
      ·rw[Iu.mp h1]at h2;exact .inr h2
    ·rcases Iz.mp h with h|h
     ·exact Ja _ (I.from_ s h)
     ·exact IW _ h
    ·rcases Iz.mp hz with hz|hz
     ·exact Ja _ (I.all z hz)
     ·rw[Iu.mp hz];exact IW _ (W.self hk)
    ·rcases Iz.mp h with h|h
     ·exact I.low s h
     ·rw[Iu.mp h];exact low
    ·refine JB.mpr ⟨I.asc,KA _ _,fun s h k' h'=>?_⟩;rw[Iu.mp h'];refine⟨?_,fun O=>c ((I.gone k).mpr ⟨s,h,O⟩)⟩;obtain⟨j,hj⟩:=Je (I.from_ s h);rw[K4]at hj
     split at hj
     ·rename_i c1
      have B:=Ix.mp hj
      have:=JA.mp hs j i B.1 G.1 c1
      rw[G.2,B.2]at this;exact this
     ·cases hj
theorem gN (W:eB C D)(B:(D s.1 s.2).isSome=true)(low:∀z∈bZ D s,leP s.1 z.1):∃N d,Per D s N/\(it (nx D) (N-1) s).2=d/\((d=3/\s.2=0)\/(d=2/\s.2=1))/\cl C s.1 ((d+1)%4)/\¬ cl C s.1 ((d+2)%4)/\turn C s.1 d s.2:=by
 obtain⟨N,h⟩:=W.back B;have N0:=h.1;have J:=W.go_ B (N-1);have st1:=jC W.pc J;have G:=jC W.pc B;have O:nx D (it (nx D) (N-1) s)=s:=by
  have:nx D (it (nx D) (N-1) s)=it (nx D) (N-1+1) s:=rfl
  rw[this,show N-1+1=N by lia,h.2.1]
 rw[O]at st1;have lt:=xQ st1.1 G.1 st1.2.1 (low _ ((W.mem B).mpr ⟨N-1,rfl⟩)) (low _ ((W.mem B).mpr ⟨1,rfl⟩));obtain⟨p,ep⟩:=I8.mp J;obtain⟨_,_,_,_,_,Y,c2⟩:=W.pc.last ep;obtain⟨e',n1,_⟩:=hJ W.pc ep;have n2:(p,e')=s:=n1.symm.trans O;have n3:p=s.1:=I_ Prod.fst n2;rw[n3]at Y c2;exact⟨N,_,h,rfl,lt,Y,c2,st1.2.1⟩
theorem iP (W:eB C D)(hs:(D s.1 s.2).isSome=true)(O:(D s'.1 s'.2).isSome=true)(low:∀z∈bZ D s,leP s.1 z.1)(B:∀z∈bZ D s',leP s'.1 z.1)(e:s.1=s'.1):s=s':=by
 obtain⟨N,d,_,_,c,c1,c2,_⟩:=gN W hs low;obtain⟨N',d',_,_,c',G,J,_⟩:=gN W O B;refine Prod.ext e ?_;rw[<-e]at G J;rcases c with⟨rfl,Y⟩|⟨rfl,Y⟩<;>rcases c' with⟨rfl,e2⟩|⟨rfl,e2⟩
 ·rw[Y,e2]
 ·exact absurd c1 J
 ·exact absurd G c2
 ·rw[Y,e2]
end
theorem Di (h:Lnd L M W col):eB (CM M) (DG L M) :=
 ⟨pcs h,fun B=>xK h B,fun B=>by
  obtain⟨N,h1,_,G⟩:=sf h B;exact⟨N,h1,G⟩⟩
def ovl (dn:Bool)(s e line:Int)(q:Sq):Int:=if (if dn then (q.x:Int) else q.y)<=line/\line<(if dn then (q.x:Int) else q.y)+q.w then max 0 (min e ((if dn then (q.y:Int) else q.x)+q.w)-max s (if dn then (q.y:Int) else q.x)) else 0
def iB (dn:Bool)(line t:Int):Int×Int:=if dn then (line,t) else (t,line)
theorem Bh {s e a b:Int}(h:s<=e):max 0 (min (e+1) b-max s a)=max 0 (min e b-max s a)+(if a<=e/\e<b then 1 else 0):=by
 have G:=Lj s a;have B:=@Int.max_le s a e;generalize max s a=m at *;rcases Int.lt_or_le e b with c | c
 ·rw[L7 c,L7 (L9 c)];by_cases d:a<=e
  ·have:=B.mpr ⟨h,d⟩
   rw[if_pos ⟨d,c⟩,LY (by lia),LY (by lia)]
   lia
  ·rw[if_neg fun z=>d z.1,L8 (by lia),L8 (by lia)];rfl
 ·rw[LX c,LX (by lia),if_neg (by lia),Int.add_zero]
theorem y8 {A B C:Prop}[Decidable A][Decidable B][Decidable C]{X Y:Int}(h:X=Y+(if B then 1 else 0))(G:C↔A/\B):(if A then X else 0)=(if A then Y else 0)+(if C then 1 else 0):=by
 by_cases a:A
 ·rw[if_pos a,if_pos a,h];by_cases b:B
  ·rw[if_pos b,if_pos (G.mpr ⟨a,b⟩)]
  ·rw[if_neg b,if_neg fun c=>b (G.mp c).2]
 ·rw[if_neg a,if_neg a,if_neg fun c=>a (G.mp c).1];rfl
open Classical in
theorem BV (G:Bool){s e B:Int}(J:s<=e)(q:Sq)(O:0<q.w):ovl G s (e+1) B q=ovl G s e B q+(if InS q (iB G B e).1 (iB G B e).2 then 1 else 0):=by
 have st:∀b:Int,_:=fun b=>Bh (a:=b) (b:=b+q.w) J;cases G
 ·refine y8 (st q.x) ?_;exact⟨fun⟨a,b,c,d⟩=>⟨⟨c,d⟩,a,b⟩,fun⟨⟨c,d⟩,a,b⟩=>⟨a,b,c,d⟩⟩
 ·refine y8 (st q.y) ?_;exact⟨fun⟨a,b,c,d⟩=>⟨⟨a,b⟩,c,d⟩,fun⟨⟨a,b⟩,c,d⟩=>⟨a,b,c,d⟩⟩
theorem D8 (G:Bool)(s B:Int)(q:Sq):ovl G s s B q=0:=by
 have h:∀b c:Int,max 0 (min s b-max s c)=0:=by lia
 unfold ovl;rw[h,ite_self]
open Classical in
theorem yP (J:M.Nodup)(G:∀q∈M,∀r∈M,∀x y,InS q x y->InS r x y->q=r)(x y:Int):(M.map fun q=>if InS q x y then (1:Int) else 0).sum=if CM M x y then 1 else 0:=by
 induction M with
 |nil=>
  rw[if_neg (by rintro⟨q,O,_⟩;cases O)];rfl
 |cons q M Y=>
  obtain⟨n1,n2⟩:=JE.mp J;have ih':=Y n2 fun a h1 b h2=>G a (IA _ h1) b (IA _ h2);rw[IR,Kc,ih'];by_cases c:InS q x y
  ·have no:¬ CM M x y:=by
    rintro⟨r,B,hi⟩
    have:=G q IF r (IA _ B) x y c hi
    exact n1 (this▸B)
   rw[if_pos c,if_neg no,if_pos ⟨q,IF,c⟩];rfl
  ·rw[if_neg c,JO];by_cases c2:CM M x y
   ·obtain⟨r,B,hi⟩:=id c2;rw[if_pos c2,if_pos ⟨r,IA _ B,hi⟩]
   ·rw[if_neg c2,if_neg];rintro⟨r,B,hi⟩;rcases IP.mp B with e | B
    ·exact c (e▸hi)
    ·exact c2 ⟨r,B,hi⟩
theorem cE (f g:α->Int):∀l:List α,(l.map fun x=>f x+g x).sum=(l.map f).sum+(l.map g).sum
 | []=>rfl
 |a::l=>by
  simp only[IR,Kc,cE f g l]
  lia
theorem lW:∀l:List α,(l.map fun _=>(0:Int)).sum=0
 | []=>rfl
 |a::l=>by rw[IR,Kc,lW l];rfl
def com (x1 y1 w1 x2 y2 w2:Int):Int:=if mn (mn (x1+w1) (x2+w2)-mx x1 x2) (mn (y1+w1) (y2+w2)-mx y1 y2)=0 then mx (mn (x1+w1) (x2+w2)-mx x1 x2) (mn (y1+w1) (y2+w2)-mx y1 y2) else 0
def iO (q r:Sq):Int:=com q.x q.y q.w r.x r.y r.w
def vL (M:List Sq):Int:=(M.map fun q=>4*(q.w:Int)-(M.map (iO q)).sum).sum
def lnD (q:Sq)(d:Nat):Int:=if d=0 then q.y-1 else if d=1 then q.x+q.w else if d=2 then q.y+q.w else q.x-1
def dnD (d:Nat):Bool:=decide (d=1\/d=3)
def dR (q:Sq)(d:Nat)(r:Sq):Int:=ovl (dnD d) (tlo q d) (tlo q d+q.w) (lnD q d) r
theorem CU {X Y:Int}(h:X<=0):(if min X Y=0 then max X Y else 0)=if X=0 then max 0 Y else 0:=by
 split<;>split<;>lia
theorem zy {X Y:Int}(h:Y<=0):(if min X Y=0 then max X Y else 0)=if Y=0 then max 0 X else 0:=by
 split<;>split<;>lia
theorem zx (q r:Sq):iO q r=if min (min ((q.x:Int)+q.w) (r.x+r.w)-max (q.x:Int) r.x) (min ((q.y:Int)+q.w) (r.y+r.w)-max (q.y:Int) r.y)=0 then max (min ((q.x:Int)+q.w) (r.x+r.w)-max (q.x:Int) r.x) (min ((q.y:Int)+q.w) (r.y+r.w)-max (q.y:Int) r.y) else 0:=by
 unfold iO com;simp only[j0,jZ]
theorem Bn (q r:Sq):dR q 0 r=(if (r.y:Int)<=q.y-1/\(q.y:Int)-1<r.y+r.w then max 0 (min ((q.x:Int)+q.w) (r.x+r.w)-max (q.x:Int) r.x) else 0) /\
  dR q 1 r=(if (r.x:Int)<=q.x+q.w/\(q.x:Int)+q.w<r.x+r.w then max 0 (min ((q.y:Int)+q.w) (r.y+r.w)-max (q.y:Int) r.y) else 0) /\
  dR q 2 r=(if (r.y:Int)<=q.y+q.w/\(q.y:Int)+q.w<r.y+r.w then max 0 (min ((q.x:Int)+q.w) (r.x+r.w)-max (q.x:Int) r.x) else 0) /\
  dR q 3 r=(if (r.x:Int)<=q.x-1/\(q.x:Int)-1<r.x+r.w then max 0 (min ((q.y:Int)+q.w) (r.y+r.w)-max (q.y:Int) r.y) else 0):=⟨rfl,rfl,rfl,rfl⟩
theorem vY {x w y v:Int}(B:0<w)(G:0<v):min (x+w) (y+v)-max x y<=x+w-y/\min (x+w) (y+v)-max x y<=y+v-x/\(x+w<=y->min (x+w) (y+v)-max x y=x+w-y)/\(y+v<=x->min (x+w) (y+v)-max x y=y+v-x):=by
 have:=Int.min_le_left (x+w) (y+v)
 have:=LW (x+w) (y+v)
 have:=Int.le_max_left x y
 have:=Lj x y
 refine⟨by lia,by lia,fun h=>?_,fun h=>?_⟩
 ·rw[L7 (by lia),LY (by lia)]
 ·rw[LX (by lia),L8 (by lia)]
theorem AE {q r:Sq}(hq:0<q.w)(hr:0<r.w)(ha:q=r\/Sep q r\/Sep r q):iO q r=dR q 0 r+dR q 1 r+dR q 2 r+dR q 3 r:=by
 obtain⟨G,J,O,e3⟩:=Bn q r;rw[G,J,O,e3,zx]
 clear G J O e3
 have eX:=vY (x:=q.x) (w:=q.w) (y:=r.x) (v:=r.w) (by lia) (by lia);have eY:=vY (x:=q.y) (w:=q.w) (y:=r.y) (v:=r.w) (by lia) (by lia);have eS:q=r->min ((q.x:Int)+q.w) (r.x+r.w)-max (q.x:Int) r.x=q.w/\min ((q.y:Int)+q.w) (r.y+r.w)-max (q.y:Int) r.y=q.w:=by
  rintro rfl
  lia
 generalize min ((q.x:Int)+q.w) (r.x+r.w)-max (q.x:Int) r.x=X at *;generalize min ((q.y:Int)+q.w) (r.y+r.w)-max (q.y:Int) r.y=Y at *;obtain⟨x1,x2,x3,x4⟩:=eX;obtain⟨y1,y2,y3,y4⟩:=eY;rcases ha with rfl | (h | h) | (h | h)
 ·obtain⟨a,b⟩:=eS rfl;rw[if_neg (by lia),if_neg (by lia),if_neg (by simp),if_neg (by simp),if_neg (by lia)];rfl
 ·have B:X<=0:=by lia
  have xe:=x3 (by lia);rw[CU B,if_neg (c:=_<=(q.x:Int)-1/\_) (by lia),show max 0 X=0 by lia,ite_self,ite_self]
  split<;>split<;>lia
 ·have B:Y<=0:=by lia
  have xe:=y3 (by lia);rw[zy B,if_neg (c:=_<=(q.y:Int)-1/\_) (by lia),show max 0 Y=0 by lia,ite_self,ite_self]
  split<;>split<;>lia
 ·have B:X<=0:=by lia
  have xe:=x4 (by lia);rw[CU B,if_neg (c:=_<=(q.x:Int)+q.w/\_) (by lia),show max 0 X=0 by lia,ite_self,ite_self]
  split<;>split<;>lia
 ·have B:Y<=0:=by lia
  have xe:=y4 (by lia);rw[zy B,if_neg (c:=_<=(q.y:Int)+q.w/\_) (by lia),show max 0 Y=0 by lia,ite_self,ite_self]
  split<;>split<;>lia
open Classical in
theorem yN (J:M.Nodup)(O:∀q∈M,0<q.w)(Y:∀q∈M,∀r∈M,∀x y,InS q x y->InS r x y->q=r)(G:Bool)(s B:Int):∀l:Nat,(M.map (ovl G s (s+l) B)).sum=((List.range l).map fun (k:Nat)=>if CM M (iB G B (s+k)).1 (iB G B (s+k)).2 then (1:Int) else 0).sum
 |0=>by
  rw[show s+((0:Nat):Int)=s by simp]
  have:M.map (ovl G s s B)=M.map fun _=>(0:Int):=Jg fun q _=>D8 G s B q
  rw[this,lW];rfl
 |l+1=>by
  have ih:=yN J O Y G s B l;have e:M.map (ovl G s (s+((l+1:Nat):Int)) B)=M.map fun q=>ovl G s (s+l) B q+(if InS q (iB G B (s+l)).1 (iB G B (s+l)).2 then (1:Int) else 0):=Jg fun q hq=>by
   rw[show s+((l+1:Nat):Int)=s+l+1 by lia];exact BV G (by lia) q (O q hq)
  rw[e,cE,ih,yP J Y,JQ,IT,Lp];simp
theorem yV:∀l:Nat,((List.range l).map fun _=>(1:Int)).sum=l
 |0=>rfl
 |l+1=>by
  rw[JQ,IT,Lp,yV l];simp
theorem zR (G:∀q∈M,0<q.w)(B:∀q∈M,∀r∈M,q=r\/Sep q r\/Sep r q):vL M=(M.map fun q=>(q.w:Int)-(M.map (dR q 0)).sum).sum+(M.map fun q=>(q.w:Int)-(M.map (dR q 1)).sum).sum+(M.map fun q=>(q.w:Int)-(M.map (dR q 2)).sum).sum+(M.map fun q=>(q.w:Int)-(M.map (dR q 3)).sum).sum:=by
 unfold vL;rw[<-cE,<-cE,<-cE];refine I_ Md (Jg fun q J=>?_);have e:(M.map (iO q)).sum=(M.map (dR q 0)).sum+(M.map (dR q 1)).sum+(M.map (dR q 2)).sum+(M.map (dR q 3)).sum:=by
  rw[<-cE,<-cE,<-cE];exact I_ Md (Jg fun r O=>AE (G q J) (G r O) (B q J r O))
 rw[e]
 lia
theorem rZ [DecidableEq α](f:α->Int):∀{l:List α},a∈l->(l.map f).sum=f a+((l.erase a).map f).sum
 | [],h=>by cases h
 |b::l,h=>by
  by_cases e:b=a
  ·subst e;rw[List.erase_cons_head,IR,Kc]
  ·rw[List.erase_cons_tail (by simpa using e),IR,IR,Kc,Kc,rZ f ((IP.mp h).resolve_left fun c=>e c.symm)]
   lia
theorem yj [DecidableEq α](f:α->Int):∀{l M:List α},l.Nodup->M.Nodup->(∀x∈l,x∈M)->(∀x∈M,x∉l->f x=0)->(l.map f).sum=(M.map f).sum
 | [],M,_,_,_,h=>by
  rw[Jg (g:=fun _=>(0:Int)) fun x B=>h x B (by simp),lW];rfl
 |a::l,M,h1,h2,h3,h=>by
  obtain⟨J,O⟩:=JE.mp h1;rw[rZ f (h3 a IF),IR,Kc,yj f (l:=l) (M:=M.erase a) O (h2.erase a) (fun x B=>(Lk fun (e:x=a)=>J (by rw[<-e];exact B)).mpr (h3 x (IA _ B))) fun x B Y=>?_];have G:=(List.Nodup.mem_erase_iff h2).mp B;exact h x G.2 fun c=>(IP.mp c).elim G.1 Y
theorem Ef (O:L.Pairwise eF)(hw:∀q∈L,0<q.w)(C:bw L A zs)(G:q∈L)(J:r∈L)(Y:q.c=r.c)(B:cB q r=true):r.z∈A q.z:=by
 obtain⟨i,hi⟩:=Je G;obtain⟨j,hj⟩:=Je J;have lk:∀{a b:Sq},a∈L->b∈L->a.c=b.c->fz (cC L) (a.z,b.z)=true:=fun {a b} ha hb e=>by
  unfold fz;rw[cf O ha,cf O hb,e];exact IC rfl
 refine (C.near q.z r.z).mpr ?_;rcases LG i j with h | h | h
 ·exact⟨(q.z,r.z),mU hi hj h B,lk G J Y,.inl ⟨rfl,rfl⟩⟩
 ·rw[h,hj]at hi;cases hi;rw[eZ]at B
  have:=hw q G
  unfold gR mn mx at B
  repeat' split at B
  all_goals lia
 ·exact⟨(r.z,q.z),mU hj hi h (by rw[ni];exact B),lk J G Y.symm,.inr ⟨rfl,rfl⟩⟩
theorem Cf {L:List Sq}(hB:L.Pairwise eF)(hw:∀q∈L,0<q.w){A:List Nat->LN9}{zs:LN9}(C:bw L A zs)(hA:∀z,(A z).Nodup){q0:Sq}(h0:q0∈L)(B:∀q∈bC L A q0.z,q.c=q0.c){m:Mem}(hm:m∈cO A q0.z):((A m.1).map fun y=>iO (cZ L m.1) (cZ L y)).sum=((bC L A q0.z).map (iO (cZ L m.1))).sum:=by
 have hz:q0.z∈zs:=by rw[C.ez];exact Iv.mpr ⟨q0,h0,rfl⟩
 have e:(bC L A q0.z).map (iO (cZ L m.1))=((cO A q0.z).map (·.1)).map fun y=>iO (cZ L m.1) (cZ L y):=by
  unfold bC;rw[Jp,Jp];rfl
 rw[e];refine yj _ (hA _) (C.bi hz).nd (C.closed hz m hm) fun y hy hn=>?_;have sq:∀{y:List Nat},y∈(cO A q0.z).map (·.1)->∃r∈L,r.z=y/\cZ L y=r/\r.c=q0.c:=fun {y} hy=>by
  obtain⟨m',G,rfl⟩:=Iv.mp hy;have h1:=(C.bi hz).sub m' G;rw[C.ez]at h1;obtain⟨r,J,O⟩:=Iv.mp h1;have e2:cZ L m'.1=r:=by rw[<-O];exact iY hB J
  refine⟨r,J,O,e2,?_⟩;refine B r ?_;unfold bC;exact Iv.mpr ⟨m',G,e2⟩
 obtain⟨q,hq,eq,e1,c1⟩:=sq (Iv.mpr ⟨m,hm,rfl⟩);obtain⟨r,J,O,e2,c2⟩:=sq hy;rw[e1,e2];by_cases c:cB q r=true
 ·exfalso
  apply hn
  rw[<-O,<-eq];exact Ef hB hw C hq J (c1.trans c2.symm) c
 ·rw[eZ]at c;unfold gR at c;simp only[j0,jZ]at c;rw[zx]
  split
  ·rename_i h
   have h2:¬ 0<max (min ((q.x:Int)+q.w) (r.x+r.w)-max (q.x:Int) r.x) (min ((q.y:Int)+q.w) (r.y+r.w)-max (q.y:Int) r.y):=fun h2=>c ⟨h,h2⟩;generalize min ((q.x:Int)+q.w) (r.x+r.w)-max (q.x:Int) r.x=X at *;generalize min ((q.y:Int)+q.w) (r.y+r.w)-max (q.y:Int) r.y=Y at *
   lia
  ·rfl
theorem qJ {L:List Sq}{A:List Nat->LN9}{zs:LN9}(C:bw L A zs){q0:Sq}(B:q0∈L):(bC L A q0.z).Nodup:=by
 have hz:q0.z∈zs:=by rw[C.ez];exact Iv.mpr ⟨q0,B,rfl⟩
 have h:=(C.bi hz).nd;unfold bC;unfold List.Nodup at h ⊢;rw[Jc]at h ⊢;refine h.imp_of_mem fun {a b} G J O e=>O ?_;have sq:∀{m:Mem},m∈cO A q0.z->(cZ L m.1).z=m.1:=fun {m} Y=>by
  have h1:=(C.bi hz).sub m Y;rw[C.ez]at h1;obtain⟨r,hr,er⟩:=Iv.mp h1;rw[<-er,iY C.hB hr]
 rw[<-sq G,<-sq J,e]
open Classical in
theorem vA {α β:Type}(f:α->β->Int):∀(l:List α) (m:List β),(l.map fun a=>(m.map (f a)).sum).sum=(m.map fun b=>(l.map fun a=>f a b).sum).sum
 | [],m=>by
  simp only[Lh,List.sum_nil];rw[lW]
 |a::l,m=>by
  simp only[IR,Kc];rw[vA f l m,<-cE]
open Classical in
section
theorem nr {α:Type}{R:α->α->Prop}(B:∀a b,R a b->R b a->False):∀{l m:List α},l.Pairwise R->m.Pairwise R->(∀x,x∈l↔x∈m)->l=m
 | [],[],_,_,_=>rfl
 | [],b::m,_,_,h=>by
  have:=(h b).mpr IF
  cases this
 |a::l,[],_,_,h=>by
  have:=(h a).mp IF
  cases this
 |a::l,b::m,h1,h2,h=>by
  obtain⟨Y,a2⟩:=JK.mp h1;obtain⟨b1,b2⟩:=JK.mp h2;have e:a=b:=by
   rcases IP.mp ((h a).mp IF) with e|e
   ·exact e
   ·rcases IP.mp ((h b).mpr IF) with O|O
    ·exact O.symm
    ·exact (B _ _ (Y b O) (b1 a e)).elim
  subst e;have J:∀x,¬ R x x:=fun x h=>B x x h h;rw[nr B a2 b2 fun x=>?_];constructor
  ·intro G;rcases IP.mp ((h x).mp (IA _ G)) with e | e
   ·rw[e]at G;exact (J _ (Y a G)).elim
   ·exact e
  ·intro G;rcases IP.mp ((h x).mpr (IA _ G)) with e | e
   ·rw[e]at G;exact (J _ (b1 a G)).elim
   ·exact e
theorem mN (h:leP a b)(k:leP b a):a=b:=by
 unfold leP at h k;exact Prod.ext (by lia) (by lia)
end
section
abbrev nv:Stmt:=top 24
theorem xl:aE ["start","wide","other_start","other_wide"] ["start","wide","other_start","other_wide"] (aq nv):={}
inductive oD  (vs:List V)(H:Hp)(Q:VK):Prop
 |mk (a b c d:Int) (h_0:vs=[.int a,.int b,.int c,.int d]) (h_1:Q (.int (mn (a+b) (c+d)-mx a c)) H):oD  vs H Q
def pS:Sp:=fun vs H Q _=>oD  vs H Q
theorem xD (T:Tx K mg)(F:bD K "overlap" "overlap" nv f fd .none):bB P w K mg base CX 1 f fd ["start","wide","other_start","other_wide"] pS:=by
 refine F.ok xl (fun vs H Q E h=>?_) (fun B A outer s H vs Q E J h=>?_)
 ·obtain⟨_,_,_,_,rfl,_⟩:=h;rfl
 obtain⟨a,b,c,d,rfl,G⟩:=h;refine⟨_,(af (aB (aj cT (av (nY rfl) rfl T.b_min rf (aa (aj aK (pv 0) (pv 1)) (aa (aj aK (pv 2) (pv 3)) ae))) (av (nZ rfl) rfl T.b_max x_ (aa (pv 0) (aa (pv 2) ae)))))),?_⟩;exact⟨_,_,rfl,_,_,rfl,G⟩
abbrev qb:Stmt:=top 25
theorem iK:aE ["code","other","level","one","two","across","down"] ["code","other","level"] (aq qb):={}
def sqx (z:Str)(n:Nat):Int:=((cxs (dig z)*2^(n-z.length):Nat):Int)
def sqy (z:Str)(n:Nat):Int:=((cys (dig z)*2^(n-z.length):Nat):Int)
def sqw (z:Str)(n:Nat):Int:=((2^(n-z.length):Nat):Int)
inductive rA  (vs:List V)(H:Hp)(Q:VK):Prop
 |mk (z y:Str) (n:Nat) (h_0:vs=[.str z,.str y,.int n]) (h_1:IsC z) (h_2:IsC y) (h_3:z.length<=n) (h_4:y.length<=n) (h_5:n<=40) (h_6:∀H',ah H H'->Q (.int (com (sqx z n) (sqy z n) (sqw z n) (sqx y n) (sqy y n) (sqw y n))) H'):rA  vs H Q
def r9:Sp:=fun vs H Q _=>rA  vs H Q
theorem Ag (T:Tx K mg)(q:bS CX)(F:bD K "common" "common" qb f fd .none)(B:Fok P w K mg base CX 2 "need_code" ["code"] [] fP)(J:Fok P w K mg base CX 4 "corner" ["code","level"] [] ki)
  (G:Fok P w K mg base CX 1 "overlap" ["start","wide","other_start","other_wide"] [] pS):bB P w K mg base CX 5 f fd ["code","other","level"] r9:=by
 refine F.ok iK (fun vs H Q E h=>?_) (fun a0 A outer s H vs Q E O h=>?_)
 ·obtain⟨_,_,_,rfl,_⟩:=h;rfl
 obtain⟨z,y,n,rfl,hz,hy,lz,ly,hn,q'⟩:=h;refine⟨_,(ab (ba (ai B q O (aa (pv 0) ae))) (ab (ba (ai B q O (aa (pv 1) ae))) (ab (au (i:=3) iK (ai J q O (aa (pv 0) (aa (pv 2) ae)))) (ab (au (i:=4) iK (ai J q O (aa (pv 1) (aa (pv 2) ae)))) (ab (au (i:=5) iK (ai G q O (aa (aD aI (pv 3) ac) (aa (aD aI (pv 3) ac) (aa (aD aI (pv 4) ac) (aa (aD aI (pv 4) ac) ae)))))) (ab (au (i:=6) iK (ai G q O (aa (aD aI (pv 3) ac) (aa (aD aI (pv 3) ac) (aa (aD aI (pv 4) ac) (aa (aD aI (pv 4) ac) ae)))))) (ab (aT (aJ mF (av (nY rfl) rfl T.b_min rf (aa (pv 5) (aa (pv 6) ae))) ac) (af (aB ac)) aF) (af (aB (av (nZ rfl) rfl T.b_max x_ (aa (pv 5) (aa (pv 6) ae)))))))))))),?_⟩;refine⟨z,rfl,hz,by lia,fun H1 s1=>?_⟩;refine⟨y,rfl,hy,by lia,fun H2 s2=>?_⟩;refine⟨z,n,rfl,hz,lz,hn,fun p1 H3 s3 h1=>?_⟩;refine⟨y,n,rfl,hy,ly,hn,fun p2 H4 s4 h2=>?_⟩;have h1':=s4 _ _ h1;refine⟨p1,_,_,_,rfl,rfl,SqT.of h1',rfl,p1,_,_,_,rfl,rfl,SqT.of h1',rfl,p2,_,_,_,rfl,rfl,SqT.of h2,rfl,p2,_,_,_,rfl,rfl,SqT.of h2,rfl,_,_,_,_,rfl,?_⟩;refine⟨p1,_,_,_,rfl,rfl,SqT.of h1',rfl,p1,_,_,_,rfl,rfl,SqT.of h1',rfl,p2,_,_,_,rfl,rfl,SqT.of h2,rfl,p2,_,_,_,rfl,rfl,SqT.of h2,rfl,_,_,_,_,rfl,?_⟩;have sm:=s1.trans (s2.trans (s3.trans s4));have Y:=q' H4 sm;unfold com at Y;refine⟨_,_,rfl,rfl,ay (ci (fun c=>?_) (fun c=>?_))⟩
 ·rw[if_neg ?_]at Y
  ·exact Y
  ·intro e;have c':(!decide (V.int (mn (mn (sqx z n+sqw z n) (sqx y n+sqw y n)-mx (sqx z n) (sqx y n)) (mn (sqy z n+sqw z n) (sqy y n+sqw y n)-mx (sqy z n) (sqy y n)))=V.int 0))=true:=c;rw[e]at c';simp at c'
 ·rw[if_pos ?_]at Y
  ·exact⟨_,_,rfl,Y⟩
  ·have c':¬ (!decide (V.int (mn (mn (sqx z n+sqw z n) (sqx y n+sqw y n)-mx (sqx z n) (sqx y n)) (mn (sqy z n+sqw z n) (sqy y n+sqw y n)-mx (sqy z n) (sqy y n)))=V.int 0))=true:=c;simpa using c'
theorem Gw (B:oV q [] t 0 0 n)(or:oV r [] t 0 0 n):com (sqx (txt q.z) n) (sqy (txt q.z) n) (sqw (txt q.z) n) (sqx (txt r.z) n) (sqy (txt r.z) n) (sqw (txt r.z) n)=iO q r:=by
 obtain⟨_,_,G,J,O⟩:=dq B;obtain⟨_,_,Y,b2,b3⟩:=dq or;unfold sqx sqy sqw iO;rw[G,J,O,Y,b2,b3]
abbrev Bq:Stmt:=top 38
theorem i6:aE ["sheet","x","y","first","around","sides","code","other","near"] ["sheet","x","y"] (aq Bq):={}
inductive zC  (vs:List V)(H:Hp)(Q:VK):Prop
 |mk (ps:Addr) (n x y:Nat) (v:V) (t:Tr) (q0:Sq) (h_0:vs=[.ref ps,.int (x:Int),.int (y:Int)]) (h_1:H ps=some (.tup [.int (n:Int),v])) (h_2:cM H v t) (h_3:bc n t) (h_4:n<=40) (h_5:cnt t<=1500) (h_6:q0∈sqs [] t 0 0 n) (h_7:(q0.x<=x/\x<q0.x+q0.w/\q0.y<=y/\y<q0.y+q0.w)) (h_8:∀A zs H',bw (sqs [] t 0 0 n) A zs->ah H H'->Q (.int (vL (bC (sqs [] t 0 0 n) A q0.z))) H'):zC  vs H Q
def Bk:Sp:=fun vs H Q _=>zC  vs H Q
theorem FW (T:Tx K mg)(q:bS CX)(F:bD K "rim" "rim" Bq f fd .none)(O:Fok P w K mg base CX 1 "width_of" ["level"] [] gX)(a0:Fok P w K mg base CX 5 "common" ["code","other","level"] [] r9)(Y:Fok P w K mg base CX 5 "leaf_at" ["sheet","x","y"] [] kW)(B:Fok P w K mg base CX 45 "alike_around" ["sheet"] [] dF)(G:Fok P w K mg base CX 1 "members_from" ["around","first"] [] dE):
  bB P w K mg base CX 46 f fd ["sheet","x","y"] Bk:=by
 refine F.ok i6 (fun vs H Q E h=>?_) (fun c8 A outer s H vs Q E hr h=>?_)
 ·obtain⟨_,_,_,_,_,_,_,rfl,_⟩:=h;rfl
 refine⟨_,(ab (au (i:=3) i6 (ai Y q hr (aa (pv 0) (aa (pv 1) (aa (pv 2) ae))))) (ab (au (i:=4) i6 (ai B q hr (aa (pv 0) ae))) (ab (au (i:=5) i6 ac) (ab (aN II rfl (bQ (ai G q hr (aa (pv 4) (aa (pv 3) ae)))) (fK rfl (aX (aP (i:=6) i6) (aX (aP (i:=7) i6) dL))) (ab (au (i:=5) i6 (aj aK (pv 5) (aj cH ac (ai O q hr (aa (aj cT (aD aI (pv 0) ac) (av aY rfl T.b_len bN (aa (pv 6) ae))) ae))))) (af (aN II rfl (bQ (dM hr.dic (pv 4) (pv 6) (fun _ _=>rfl))) (aP (i:=8) i6) (af (au (i:=5) i6 (aj cT (pv 5) (ai a0 q hr (aa (pv 6) (aa (pv 8) (aa (aD aI (pv 0) ac) ae))))))))))) (af (aB (pv 5))))))),?_⟩;obtain⟨ps,n,x,y,v,t,q0,rfl,a4,ht,gt,hn,hc,a1,ins,q'⟩:=h;obtain⟨L,eL⟩:∃L,L=sqs [] t 0 0 n:=⟨_,rfl⟩;have a5:L.Pairwise eF:=by rw[eL];exact cW t [] 0 0 n gt
 have c2:∀q∈L,0<q.w:=fun q1 h1=>(gg t [] 0 0 n gt q1 (by rw[<-eL];exact h1)).2.2.2.2;have lL:L.length=cnt t:=by rw[eL];exact dD t [] 0 0 n
 have a7:∀q∈L,oV q [] t 0 0 n:=fun q1 h1=>dQ t [] 0 0 n gt q1 (by rw[<-eL];exact h1);obtain⟨_,f2,_,f4,_⟩:=gg t [] 0 0 n gt q0 a1;have xn:x<2^n:=by lia
 have yn:y<2^n:=by lia
 refine⟨.ref ps,t,n,x,y,rfl,⟨ps,v,rfl,a4,ht⟩,gt,hn,xn,yn,fun i cc H1 s1 hi a8=>?_⟩;rw[yW gt xn yn eL (by rw[eL];exact a1) ins hi a8];rw[<-eL]at q' a1;have hz:q0.z∈L.map (·.z):=Iv.mpr ⟨q0,a1,rfl⟩;refine⟨ps,n,v,t,rfl,s1 _ _ a4,ht.up s1.tups,gt,hn,hc,fun da lo A H2 s2 c9 ar c3 hN hA=>?_⟩;rw[<-eL]at ar hN;have Cx:bw L A (L.map (·.z)):=⟨rfl,a5,by rw[Iq];lia,hN⟩;refine⟨da,q0.z,L.map (·.z),lo,A,rfl,ar,hz,by rw[Iq];lia,Cx.cl,c3,fun lm um k H3 s3 d0 a9 hM hk=>?_⟩;have bi:=BI.bfs Cx.cl hz k;have bl:=bi.len;rw[Iq]at bl;have em:=pr hk (by lia);rw[<-em]at hM bl hk bi
 clear em
 have c4:=Paired.length hM;have b0:=s1.trans (s2.trans s3);have b1:∀q∈bC L A q0.z,q.c=q0.c:=by
  have b2:=(lJ gt (q0:=q0) (by rw[<-eL];exact Cx) (by rw[<-eL];exact a1)).1;rw[<-eL]at b2;exact b2.colour
 obtain⟨R,eR⟩:∃R,R=cO A q0.z:=⟨_,rfl⟩;have b3:∀{z:List Nat},z∈L.map (·.z)->cZ L z∈L/\(cZ L z).z=z:=fun {z} h=>by
  obtain⟨r,b4,er⟩:=Iv.mp h;rw[<-er,iY a5 b4];exact⟨b4,rfl⟩
 have fin:vL (bC L A q0.z)=(R.map fun m=>4*((cZ L m.1).w:Int)-((A m.1).map fun y=>iO (cZ L m.1) (cZ L y)).sum).sum:=by
  unfold vL;rw[show (bC L A q0.z).map (fun q=>4*(q.w:Int)-((bC L A q0.z).map (iO q)).sum)=R.map fun m=>4*((cZ L m.1).w:Int)-((bC L A q0.z).map (iO (cZ L m.1))).sum by
   rw[eR]
   conv=>lhs;arg 2;unfold bC
   rw[Jp];rfl]
  refine I_ Md (Jg fun m hm=>?_);rw[Cf a5 c2 Cx hA a1 b1 (by rw[<-eR];exact hm)]
 rw[<-eR]at hM bl hk bi c4;refine⟨lm,rfl,⟨_,SqL.of a9⟩,bJ (xs:=um) (fun (i:Nat) σ H4=>i<=um.length/\ah H3 H4/\∃o6 o7 o8:OW9,σ=[some (.ref ps),some (.int (x:Int)),some (.int (y:Int)),some (sV q0.z),some (.ref da),some (.int (((R.take i).map fun m=>4*((cZ L m.1).w:Int)-((A m.1).map fun y=>iO (cZ L m.1) (cZ L y)).sum).sum)),o6,o7,o8]) ⟨IG _,ah.refl _,_,_,_,rfl⟩ (fun i σ H4 _ h=>SqL.of (h.2.1 _ _ a9)) ?_ ?_⟩
 ·rintro i u σ H4 hu ⟨_,s4,o6,o7,o8,rfl⟩;have hi':=(Ix.mp hu).1;obtain⟨J,b5,pm,rfl,c5⟩:=aM hM hu;have a3:=bi.sub J (ID b5);obtain⟨b6,a2⟩:=b3 a3;obtain⟨q1,b7⟩:∃q1,q1=cZ L J.1:=⟨_,rfl⟩;rw[<-b7]at b6 a2;have b8:=a7 q1 b6;obtain⟨ic,il,cx,cy,cw⟩:=dq b8;have d1:sV J.1=sV q1.z:=by rw[a2]
  have b9:=b0.trans s4;refine⟨pm,_,rfl,SqT.of (s4 _ _ c5),rfl,_,_,rfl,_,_,rfl,rfl,?_⟩;have ll:(txt J.1).length<=n:=by rw[<-a2];exact il
  have hs:(txt J.1).length<=sizeLine:=small (by lia);have e0:(n:Int)-((txt J.1).length:Int)=((n-(txt J.1).length:Nat):Int):=by lia
  have ew:2^(n-(txt J.1).length)=q1.w:=by rw[<-a2];exact cw
  refine⟨ps,_,_,_,rfl,rfl,SqT.of (b9 _ _ a4),rfl,_,_,rfl,⟨hs,rfl⟩,n-(txt J.1).length,(by show [V.int _]=[V.int _];rw[e0]),by lia,.inl ⟨by decide,by decide⟩,cU ?_⟩;rw[ew];have a6:=ar.up (s3.trans s4);have et:((R.take (i+1)).map fun m=>4*((cZ L m.1).w:Int)-((A m.1).map fun y=>iO (cZ L m.1) (cZ L y)).sum).sum=((R.take i).map fun m=>4*((cZ L m.1).w:Int)-((A m.1).map fun y=>iO (cZ L m.1) (cZ L y)).sum).sum+(4*(q1.w:Int)-((A J.1).map fun y=>iO q1 (cZ L y)).sum):=by
   rw[Jf,b5,IT,Lp,b7];simp
  rw[et];generalize ((R.take i).map fun m=>4*((cZ L m.1).w:Int)-((A m.1).map fun y=>iO (cZ L m.1) (cZ L y)).sum).sum=S0 at *
  let J0:NS9:=fun (j:Nat) σ H5=>j<=(A J.1).length/\ah H4 H5/\∃o8:OW9,σ=[some (.ref ps),some (.int (x:Int)),some (.int (y:Int)),some (sV q0.z),some (.ref da),some (.int (S0+4*(q1.w:Int)-(((A J.1).take j).map fun y=>iO q1 (cZ L y)).sum)),some (sV J.1),some (FK J.2),o8]
  refine⟨da,_,rfl,a6.get a3,lo J.1,rfl,⟨_,SqL.of (a6.at_ _ a3)⟩,bJ (xs:=(A J.1).map sV) J0 ⟨IG _,ah.refl _,o8,by simp⟩ (fun i σ H5 _ h=>SqL.of (h.2.1 _ _ (a6.at_ _ a3))) ?_ ?_⟩
  ·rintro j u σ H5 hx ⟨_,s5,o8,rfl⟩;rw[IM]at hx;obtain⟨o,eo,rfl⟩:=IX.mp hx;have hj:=(Ix.mp eo).1;have c6:=Cx.cl _ a3 o (ID eo);obtain⟨c7,c0⟩:=b3 c6;have c1:=a7 _ c7;obtain⟨jc,jl,_⟩:=dq c1;rw[c0]at jc jl;have ec:=Gw b8 c1;rw[a2,c0]at ec;refine⟨ps,_,_,_,rfl,rfl,SqT.of (b9.trans s5 _ _ a4),rfl,txt J.1,txt o,n,rfl,by rw[<-a2];exact ic,jc,ll,jl,hn,fun H6 s6=>⟨hj,s5.trans s6,some (sV o),?_⟩⟩;rw[Jf,eo,IT,Lp,ec];simp only[Option.toList_some,IR,Lh,Kc,List.sum_nil,Int.add_zero,Int.sub_sub];rfl
  ·rintro σ H5 ⟨_,s5,o8,rfl⟩;rw[IS (by rw[Iq];exact Iw _)];refine⟨hi',s4.trans s5,some (sV J.1),some (FK J.2),o8,?_⟩;rw[Int.add_sub_assoc]
 ·rintro σ H4 ⟨_,s4,o6,o7,o8,rfl⟩;rw[IS (by lia),<-fin];exact (q' A (L.map (·.z)) H4 Cx (b0.trans s4))
end
section
noncomputable def D1 (C:II9)(a:Pt)(d:Nat):Option Pt:=open Classical in if d<4/\Bd C a d then some (go a 1 d) else none
theorem gQ:(D1 C a d).isSome=true↔d<4/\Bd C a d:=by
 unfold D1
 split<;>simp[*]
theorem fq:D1 C a d=some e↔(d<4/\Bd C a d)/\go a 1 d=e:=by
 unfold D1
 split<;>simp[*]
theorem FJ (C:II9):Pcs C (D1 C) where
 way:=fun h=>(fq.mp h).1.1
 len:=fun {a d e} h=>⟨1,Nat.one_pos,(fq.mp h).2.symm,fun k B=>by
  rw[show k=0 by lia,d_];exact (fq.mp h).1.2⟩
 all:=fun {p d} G J=>⟨p,1,0,fq.mpr ⟨⟨G,J⟩,rfl⟩,Nat.one_pos,(d_ p d).symm⟩
 one:=fun {a b d l m k j} h1 h2 B hj e=>by
  have O:=jj (fq.mp h1).1.1 (fq.mp h1).2;have Y:=jj (fq.mp h2).1.1 (fq.mp h2).2;rw[show k=0 by lia,show j=0 by lia,d_,d_]at e;exact e
theorem lY (h:turn C p d e)(h':turn C p d e'):e=e':=by
 unfold turn at h h';rcases h with⟨a,b⟩ | ⟨a,B,b⟩ | ⟨a,B,b⟩<;>rcases h' with⟨c,d⟩ | ⟨c,G,d⟩ | ⟨c,G,d⟩<;>first | contradiction | rw[b,d]
theorem nx1 (B:d<4)(G:Bd C a d):∃e,nx (D1 C) (a,d)=(go a 1 d,e)/\turn C (go a 1 d) d e/\e<4/\Bd C (go a 1 d) e:=by
 obtain⟨e,h1,h2,J,O⟩:=hJ (FJ C) (fq.mpr ⟨⟨B,G⟩,rfl⟩);exact⟨e,h1,J,O,(gQ.mp h2).2⟩
theorem uh (h:(D1 C x.1 x.2).isSome=true):(D1 C (nx (D1 C) x).1 (nx (D1 C) x).2).isSome=true:=by
 obtain⟨B,G⟩:=gQ.mp h;obtain⟨e,h1,_,h2,J⟩:=nx1 B G;rw[show x=(x.1,x.2) from rfl,h1];exact gQ.mpr ⟨h2,J⟩
theorem AV {S:LP9}(B:∀x,x∈S↔(D1 C x.1 x.2).isSome=true):eB C (D1 C) :=
 ⟨FJ C,uh,fun {x} J=>by
  obtain⟨N,h1,_,h2⟩:=EZ (f:=nx (D1 C)) (S:=S) (fun a G=>(B _).mpr (uh ((B a).mp G))) (fun a b G O e=>xJ (FJ C) ((B a).mp G) ((B b).mp O) e) ((B x).mpr J);exact⟨N,h1,h2⟩⟩
theorem uH (h:Pcs C D)(e:D a d=some (go a l d)):∀k,k<l->it (nx (D1 C)) k (a,d)=(go a k d,d)
 |0,_=>by rw[d_];rfl
 |k+1,hk=>by
  have B:=h.way e;obtain⟨l',_,O,G⟩:=h.len e;have Y:=jj B O;subst Y;show nx (D1 C) (it (nx (D1 C)) k (a,d))=_;rw[uH h e k (by lia)];obtain⟨e',h1,h2,_⟩:=nx1 B (G k (by lia));rw[h1,jk];rw[jk]at h2;have J:=G (k+1) hk;rw[lY h2 (.inr (.inl ⟨J.1,J.2,rfl⟩))]
theorem y9 (h:Pcs C D)(e:D a d=some (go a l d)):it (nx (D1 C)) l (a,d)=nx D (a,d):=by
 have B:=h.way e;obtain⟨l',l0,G,J⟩:=h.len e;have O:=jj B G;subst O;obtain⟨k,rfl⟩:∃k,l=k+1:=⟨l-1,by lia⟩;show nx (D1 C) (it (nx (D1 C)) k (a,d))=_;rw[uH h e k (by simp)];obtain⟨e',h1,h2,_⟩:=nx1 B (J k (by simp));obtain⟨Y,n1,_,n2,_⟩:=hJ h e;rw[h1,n1,jk];rw[jk]at h2;rw[lY h2 n2]
theorem Ea (W:eB C D)(G:(D s.1 s.2).isSome=true):∀j,∃(x:Pt×Nat) (l k:Nat),x∈bZ D s/\D x.1 x.2=some (go x.1 l x.2)/\k<l/\it (nx (D1 C)) j s=(go x.1 k x.2,x.2):=by
 have pc:∀x∈bZ D s,∃l,0<l/\D x.1 x.2=some (go x.1 l x.2):=fun x O=>by
  obtain⟨p,ep⟩:=I8.mp (W.sym G O).1;obtain⟨l,J,B,_⟩:=W.pc.len ep;exact⟨l,J,by rw[ep,B]⟩
 intro j
 induction j with
 |zero=>
  obtain⟨l,J,B⟩:=pc s (W.self G);exact⟨s,l,0,W.self G,B,J,by rw[d_];rfl⟩
 |succ j ih=>
  obtain⟨x,l,k,O,B,hk,e⟩:=ih;have e1:it (nx (D1 C)) (j+1) s=it (nx (D1 C)) (k+1) (x.1,x.2):=by
   show nx (D1 C) (it (nx (D1 C)) j s)=nx (D1 C) (it (nx (D1 C)) k (x.1,x.2));rw[e,uH W.pc B k hk]
  rw[e1];by_cases c:k+1<l
  ·exact⟨x,l,k+1,O,B,c,uH W.pc B (k+1) c⟩
  ·have ek:k+1=l:=by lia
   rw[ek,y9 W.pc B];have hx':nx D x∈bZ D s:=by
    obtain⟨i,rfl⟩:=(W.mem G).mp O;exact (W.mem G).mpr ⟨i+1,rfl⟩
   obtain⟨l',J,Y⟩:=pc _ hx';exact⟨nx D x,l',0,hx',Y,J,by rw[d_]⟩
theorem DD (W:eB C D)(B:(D s.1 s.2).isSome=true):∀i,∃j,it (nx D) i s=it (nx (D1 C)) j s:=by
 intro i
 induction i with
 |zero=>exact⟨0,rfl⟩
 |succ i ih=>
  obtain⟨j,e⟩:=ih;have h1:=W.go_ B i;obtain⟨p,ep⟩:=I8.mp h1;obtain⟨l,J,G,_⟩:=W.pc.len ep;rw[G]at ep;refine⟨j+l,?_⟩;show nx D (it (nx D) i s)=_;rw[<-cI,<-e];exact (y9 W.pc ep).symm
theorem F3 (B:d<4)(h1:leP s a)(h2:leP s (go a l d))(G:k<=l):leP s (go a k d):=by
 unfold leP at *;rcases dk B with rfl | rfl | rfl | rfl<;>simp[go,ux,uy]at h2 ⊢<;>lia
def rn (D:PD9)(s:Pt×Nat):Prop:=(D s.1 s.2).isSome=true/\∀z∈bZ D s,leP s.1 z.1
theorem Cm (W:eB C D)(G:eB C (D1 C))(s:Pt×Nat):rn D s↔rn (D1 C) s:=by
 constructor
 ·rintro⟨B,low⟩;have h1:(D1 C s.1 s.2).isSome=true:=gQ.mpr (W.pc.first B);refine⟨h1,fun z hz=>?_⟩;obtain⟨j,rfl⟩:=(G.mem h1).mp hz;obtain⟨x,l,k,J,O,hk,e⟩:=Ea W B j;rw[e];refine F3 (W.pc.way O) (low x J) (l:=l) ?_ (by lia);obtain⟨i,Y⟩:=(W.mem B).mp J;have h2:=low (nx D x) ((W.mem B).mpr ⟨i+1,by rw[Y];rfl⟩);obtain⟨e',n1,_⟩:=hJ W.pc O;have n2:nx D x=(go x.1 l x.2,e'):=n1;rw[n2]at h2;exact h2
 ·rintro⟨h1,low⟩;obtain⟨N,d,_,_,c,c1,c2,_⟩:=gN G h1 low;obtain⟨h4,hb⟩:=gQ.mp h1;have B:(D s.1 s.2).isSome=true:=by
   refine W.pc.begins h4 hb (.inl fun h=>?_);rcases c with⟨rfl,e⟩ | ⟨rfl,e⟩
   ·rw[e]at h;exact c2 h.1
   ·rw[e]at h;exact h.2 c1
  refine⟨B,fun z hz=>?_⟩;obtain⟨i,rfl⟩:=(W.mem B).mp hz;obtain⟨j,e⟩:=DD W B i;rw[e];exact low _ ((G.mem h1).mpr ⟨j,rfl⟩)
theorem wp (h:EQ C a b)(h':EQ C a b'):b=b':=by
 obtain⟨⟨h4,l,l0,e,Y⟩,t,n,_⟩:=h;obtain⟨⟨_,l',a0,O,B⟩,t',n',_⟩:=h';have no:∀{m G:Nat} {x:Pt×Nat},x.1=go a.1 m a.2->turn C x.1 a.2 x.2->x.2≠a.2->(∀k<G,Bd C (go a.1 k a.2) a.2)->¬ m<G:=fun {m G x} ex tx nx hB hm=>by
  have J:=hB m hm;rw[<-ex]at J;exact nx (lY tx (.inr (.inl ⟨J.1,J.2,rfl⟩)))
 have el:l=l':=by
  have:=no e t n B
  have:=no O t' n' Y
  lia
 subst el;have ep:b.1=b'.1:=e.trans O.symm;rw[<-ep]at t';exact Prod.ext ep (lY t t')
end
section
def Cyc (C:II9)(cw:LP9):Prop:=∀k,k<cw.length->EQ C (cA cw (prv cw.length k)) (cA cw k)
theorem km (hi:i<R.length):R[i]? = some (cA R i):=by
 unfold cA;rw[IE hi];rfl
theorem vK (W:eB C D)(hs:(D s.1 s.2).isSome=true)(low:∀z∈bZ D s,leP s.1 z.1):∃cw,gU (bZ D s)=cw.map (·.1)/\0<cw.length/\Cyc C cw/\cA cw 0=s/\cw.Nodup:=by
 obtain⟨N,d,J,O,Y,_,_,ht⟩:=gN W hs low;have N0:=J.1;have er:=g7 J;rw[er];have c0:dj (aL D s N) 0=true:=by
  unfold dj;rw[dh,cN N0];unfold prv;rw[if_pos rfl,cN (by lia),O];refine IC ?_;show s.2≠d;rcases Y with⟨rfl,e⟩ | ⟨rfl,e⟩<;>rw[e]<;>decide
 obtain⟨cs,c,e1,e0,ch,sg,ew⟩:=qf W.pc (W.go_ hs) c0 N N0 (Iw _);have B:gU (aL D s N)=(cs++[c]).map (·.1):=by
  unfold gU;rw[dh,<-EE,e1]
 have l0:0<(cs++[c]).length:=by simp
 have r0:cA (cs++[c]) 0=s:=by unfold cA;rw[e0];rfl
 refine⟨cs++[c],B,l0,fun k hk=>?_,r0,?_⟩
 ·unfold prv;by_cases k0:k=0
  ·subst k0;rw[if_pos rfl,r0];have rl:cA (cs++[c]) ((cs++[c]).length-1)=c:=by
    unfold cA;rw[Iy,Jq,Lw,Js (Iw _),L1];rfl
   rw[rl];rw[J.2.1]at sg;have s4:s.2<4:=by rcases Y with⟨_,e⟩ | ⟨_,e⟩<;>rw[e]<;>decide
   refine⟨sg,?_,?_,s4⟩
   ·rw[ew,O];exact ht
   ·rw[ew,O];rcases Y with⟨rfl,e⟩ | ⟨rfl,e⟩<;>rw[e]<;>decide
  ·rw[if_neg k0];refine ch.at_ (i:=k-1) (km (by lia)) ?_
   rw[show k-1+1=k by lia];exact km hk
 ·rw[<-e1];unfold wC List.Nodup;rw[Jc];refine (List.pairwise_lt_range.filter _).imp_of_mem fun {i j} hi hj a0=>?_;have G:=Jm.mp (Ji.mp hj).1;rw[cN (by lia),cN G];exact J.2.2 i j a0 G
theorem xW (h:Cyc C cw)(h':Cyc C cw')(B:cA cw 0=cA cw' 0):∀k,k<cw.length->k<cw'.length->cA cw k=cA cw' k
 |0,_,_=>B
 |k+1,h1,h2=>by
  have a:=h (k+1) h1;have b:=h' (k+1) h2;unfold prv at a b;rw[if_neg (by simp),Lw]at a b;rw[xW h h' B k (by lia) (by lia)]at a;exact wp a b
theorem zn (h:Cyc C cw)(h':Cyc C cw')(l0:0<cw.length)(B:cw'.Nodup)(J:cA cw 0=cA cw' 0):¬ cw.length<cw'.length:=fun O=>by
 have a:=h 0 l0;have b:=h' cw.length O;unfold prv at a b;rw[if_pos rfl]at a;rw[if_neg (by lia)]at b;rw[xW h h' J (cw.length-1) (by omega) (by lia),J]at a;have e:=wp a b;have G:=km (R:=cw') (i:=0) (by lia);have Y:=km O;rw[<-e,<-G]at Y;obtain⟨i1,f1⟩:=Ix.mp G;obtain⟨i2,f2⟩:=Ix.mp (Y.trans G)
 have:=(List.getElem_inj B).mp (f2.trans f1.symm)
 lia
theorem ED (h:Cyc C cw)(h':Cyc C cw')(O:0<cw.length)(B:0<cw'.length)(nd:cw.Nodup)(G:cw'.Nodup)(J:cA cw 0=cA cw' 0):cw=cw':=by
 have Y:=zn h h' O G J;have n2:=zn h' h B nd J.symm;have el:cw.length=cw'.length:=by lia
 refine Kx fun i=>?_;by_cases hi:i<cw.length
 ·rw[km hi,km (by lia),xW h h' J i hi (by lia)]
 ·rw[Ke (by lia),Ke (by lia)]
theorem Hs (W:eB C D)(Y:eB C (D1 C))(h:rn D s):gU (bZ D s)=gU (bZ (D1 C) s):=by
 obtain⟨h1,Cm⟩:=(Cm W Y s).mp h;obtain⟨cw,e,l0,cy,e0,nd⟩:=vK W h.1 h.2;obtain⟨a0,e',B,G,J,O⟩:=vK Y h1 Cm;rw[e,e',ED cy G l0 B nd O (e0.trans J.symm)]
theorem DE (W:eB C D)(B:∀k,k∈ys↔(D k.1 k.2).isSome=true)(O:ys.Pairwise fun a b=>leP a.1 b.1):∃G:LP9,(bU D ys).1=(G.map fun s=>gU (bZ D s))/\(∀s,s∈G↔rn D s)/\G.Pairwise fun s s'=>leP s.1 s'.1/\s.1≠s'.1:=by
 obtain⟨G,I⟩:=rgI W B O ys.length;rw[Jw]at I;refine⟨G,I.told,fun s=>⟨fun h=>⟨(B s).mp (I.from_ s h),I.low s h⟩,fun⟨h1,h2⟩=>?_⟩,?_⟩
 ·obtain⟨s0,h,hz⟩:=(I.gone s).mp (I.all s ((B s).mpr h1));have J:=(B s0).mp (I.from_ s0 h);have e:=mN (h2 s0 (W.sym J hz).2) (I.low s0 h s hz);rw[iP W h1 J h2 (I.low s0 h) e];exact h
 ·refine I.asc.imp_of_mem fun {s s'} h h' r=>⟨r.1,fun e=>r.2 ?_⟩;have h1:=(B s).mp (I.from_ s h);rw[<-iP W h1 ((B s').mp (I.from_ s' h')) (I.low s h) (I.low s' h') e];exact W.self h1
theorem Fy (W:eB C D)(B:eB C (D1 C)){ys:LP9}(O:∀k,k∈ys↔(D k.1 k.2).isSome=true)(Y:ys.Pairwise fun a b=>leP a.1 b.1){G:LP9}(J:∀s,s∈G↔rn (D1 C) s)(ha:G.Pairwise fun s s'=>leP s.1 s'.1/\s.1≠s'.1):(bU D ys).1=G.map fun s=>gU (bZ (D1 C) s):=by
 obtain⟨a0,e,m',a'⟩:=DE W O Y;rw[e,nr (fun a b h k=>h.2 (mN h.1 k.1)) a' ha fun s=>by rw[m',J];exact Cm W B s];exact Jg fun s h=>Hs W B ((Cm W B s).mpr ((J s).mp h))
end
instance (a b:Pt):Decidable (leP a b):=by unfold leP;infer_instance
def iN (f:Nat->Pt×Nat)(N j m:Nat):List Pt:=((List.range m).filter fun i=>decide ((f (j+i)).2≠(f (j+i+(N-1))).2)).map fun i=>(f (j+i)).1
theorem qW (f:Nat->Pt×Nat)(N j m k:Nat):iN f N j (m+k)=iN f N j m++iN f N (j+m) k:=by
 unfold iN;rw[List.range_add,Kh,IT,List.filter_map,Jp];simp only[Function.comp_def,LM]
theorem CT (B:∀i,f (N+i)=f i)(m:Nat):iN f N N m=iN f N 0 m:=by
 unfold iN;simp only[LM,B,KG]
theorem CS (h:Per D z N)(j:Nat):gU (aL D (it (nx D) j z) N)=iN (fun i=>it (nx D) i z) N j N:=by
 have B:=h.1;have per:∀i,it (nx D) (N+i) z=it (nx D) i z:=fun i=>by rw[<-cI,h.2.1]
 have per':∀i,it (nx D) (i+N) z=it (nx D) i z:=fun i=>by rw[Lf,per]
 unfold gU iA iN;rw[dh];have e:(List.range N).filter (dj (aL D (it (nx D) j z) N))=(List.range N).filter fun i=>decide ((it (nx D) (j+i) z).2≠(it (nx D) (j+i+(N-1)) z).2):=by
  refine List.filter_congr fun i hi=>?_;have hi:=Jm.mp hi;unfold dj prv;rw[dh,cN hi,cI];by_cases c:i=0
  ·rw[if_pos c,cN (by lia),cI,c];rfl
  ·rw[if_neg c,cN (by lia),cI,show j+i+(N-1)=j+(i-1)+N by lia,per']
 rw[e];refine Jg fun i hi=>?_;rw[cN (Jm.mp (Ji.mp hi).1),cI]
theorem wq:∀{l:LP9},l≠[]->∃a∈l,∀b∈l,leP a.1 b.1
 | [],h=>absurd rfl h
 | [a],_=>⟨a,IF,fun b G=>by rw[Iu.mp G];unfold leP;simp⟩
 |a::b::l,_=>by
  obtain⟨c,J,k⟩:=wq (l:=b::l) (by simp);by_cases h:leP a.1 c.1
  ·refine⟨a,IF,fun x B=>?_⟩;rcases IP.mp B with rfl | B
   ·unfold leP;simp
   ·have:=k x B
    unfold leP at *
    lia
  ·refine⟨c,IA _ J,fun x B=>?_⟩;rcases IP.mp B with rfl | B
   ·unfold leP at *;lia
   ·exact k x B
section
theorem Bt (W:eB C D)(hz:(D z.1 z.2).isSome=true)(h:Per D z N):∃s A B,rn D s/\s∈aL D z N/\gU (aL D z N)=A++s.1::B/\gU (bZ D s)=s.1::B++A/\s.1∉A/\∀p∈A++s.1::B,leP s.1 p:=by
 have N0:=h.1;have er:=g7 h;obtain⟨s,hs,low⟩:=wq (l:=aL D z N) (fun e=>by have:=I_ List.length e;rw[dh]at this;simp at this;lia);have hs':=hs;unfold aL at hs';obtain⟨j,hj,rfl⟩:=Iv.mp hs';have hj:=Jm.mp hj;rw[<-er]at hs low;have dz:=W.go_ hz j;have low':∀x∈bZ D (it (nx D) j z),leP (it (nx D) j z).1 x.1:=fun x hx=>low x (W.trans hz hs hx);have hP:Per D (it (nx D) j z) N:=by
  refine⟨N0,by rw[cI,Lf,<-cI,h.2.1],fun a b a0 hb e=>?_⟩;rw[cI,cI]at e;have e':=xU (f:=nx D) (S:=fun y:Pt×Nat=>(D y.1 y.2).isSome=true) (fun _ h=>W.dom h) (fun a b ha hb e=>xJ W.pc ha hb e) (W.go_ hz a) (W.go_ hz b) j (by rw[cI,cI,Lf a,Lf b];exact e);exact h.2.2 a b a0 hb e'
 have per:∀i,it (nx D) (N+i) z=it (nx D) i z:=fun i=>by rw[<-cI,h.2.1]
 obtain⟨N',d,a1,hd,hc,_,_,_⟩:=gN W dz low';have eN:N'=N:=by
  have h1:=dh (D:=D) (x:=it (nx D) j z) (N:=N);have h2:=dh (D:=D) (x:=it (nx D) j z) (N:=N');rw[<-g7 hP]at h1;rw[<-g7 a1]at h2
  lia
 subst eN;have e1:gU (aL D z N')=iN (fun i=>it (nx D) i z) N' 0 j++iN (fun i=>it (nx D) i z) N' j (N'-j):=by
  have:=qW (fun i=>it (nx D) i z) N' 0 j (N'-j)
  rw[show j+(N'-j)=N' by omega,KG]at this;rw[<-this];exact CS h 0
 have e2:=CS h j;have e3:iN (fun i=>it (nx D) i z) N' j N'=iN (fun i=>it (nx D) i z) N' j (N'-j)++iN (fun i=>it (nx D) i z) N' 0 j:=by
  rw[<-CT per j]
  have:=qW (fun i=>it (nx D) i z) N' j (N'-j) j
  rw[show j+(N'-j)=N' by omega,show N'-j+j=N' by lia]at this;exact this
 have hB:∃B,iN (fun i=>it (nx D) i z) N' j (N'-j)=(it (nx D) j z).1::B:=by
  have e4:=qW (fun i=>it (nx D) i z) N' j 1 (N'-j-1);rw[show 1+(N'-j-1)=N'-j by lia]at e4;have e5:iN (fun i=>it (nx D) i z) N' j 1=[(it (nx D) j z).1]:=by
   unfold iN;rw[show List.range 1=[0] from rfl,List.filter_cons,if_pos (IC ?_)]
   ·rfl
   ·dsimp only;rw[Lu,<-cI,hd];rcases hc with⟨rfl,e⟩ | ⟨rfl,e⟩<;>rw[e]<;>decide
  rw[e5]at e4;exact⟨_,e4⟩
 obtain⟨B,hB⟩:=hB;rw[hB]at e1 e3;have O:∀{k m:Nat} {p:Pt},p∈iN (fun i=>it (nx D) i z) N' k m->∃i,i<m/\p=(it (nx D) (k+i) z).1:=fun {k m p} G=>by
  unfold iN at G;obtain⟨i,hi,rfl⟩:=Iv.mp G;exact⟨i,Jm.mp (Ji.mp hi).1,rfl⟩
 have J:∀i,leP (it (nx D) j z).1 (it (nx D) i z).1:=fun i=>low _ ((W.mem hz).mpr ⟨i,rfl⟩);refine⟨_,iN (fun i=>it (nx D) i z) N' 0 j,B,⟨dz,low'⟩,by rw[<-er];exact hs,e1,by rw[g7 hP,e2,e3],fun a2=>?_,fun p G=>?_⟩
 ·obtain⟨i,hi,e⟩:=O a2;rw[KG]at e;have di:=W.go_ hz i;have Y:it (nx D) i z∈bZ D z:=(W.mem hz).mpr ⟨i,rfl⟩
  have:=iP W dz di low' (fun x hx=>by rw[<-e];exact low x (W.trans hz Y hx)) e
  exact h.2.2 i j hi hj this.symm
 ·rcases Iz.mp G with G|G
  ·obtain⟨i,_,rfl⟩:=O G;exact J _
  ·rw[<-hB]at G;obtain⟨i,_,rfl⟩:=O G;exact J _
end
def Ins (W:Int)(p:Pt):Prop:=0<=p.1/\p.1<W/\0<=p.2/\p.2<W
def Cls (W:Int)(R:Pt->Int)(S:Pt->Prop):Prop:=∀p d,S p->d<4->Ins W (go p 1 d)->R (go p 1 d)=R p->S (go p 1 d)
def Rch (W:Int)(R:Pt->Int)(s p:Pt):Prop:=∀S:Pt->Prop,S s->Cls W R S->S p
section
theorem Rch.refl (s:Pt):Rch W R s s:=fun _ h _=>h
theorem Rch.cls (s:Pt):Cls W R (Rch W R s):=fun p d h G hi J S O B=>B p d (h S O B) G hi J
theorem Rch.trans (h:Rch W R a b)(k:Rch W R b c):Rch W R a c:=k (Rch W R a) h (Rch.cls a)
theorem Rch.in_ (B:Ins W s)(h:Rch W R s p):Ins W p/\R p=R s:=h (fun p=>Ins W p/\R p=R s) ⟨B,rfl⟩ fun _ _ ⟨_,b⟩ _ hi G=>⟨hi,G.trans b⟩
theorem uJ (p:Pt)(B:d<4):go (go p 1 d) 1 ((d+2)%4)=p:=by
 refine Prod.ext ?_ ?_<;>rcases dk B with rfl | rfl | rfl | rfl<;>simp[go,ux,uy]<;>lia
theorem Rch.sym (B:Ins W s)(h:Rch W R s p):Rch W R p s:=by
 refine (h (fun p=>Ins W p/\Rch W R p s) ⟨B,Rch.refl s⟩ fun p d ⟨G,k⟩ J hi O=>⟨hi,Rch.trans ?_ k⟩).2
 have:=Rch.cls (W:=W) (R:=R) (go p 1 d) (go p 1 d) ((d+2)%4) (Rch.refl _) (by lia)
 rw[uJ p J]at this;exact this G O.symm
end
section
theorem Cv (h:Lnd L M W col)(B:q∈L)(G:InS q p.1 p.2):Ins W p:=by
 have:=h.inside q B
 unfold InS at G;unfold Ins
 lia
theorem Bj (h:Lnd L M W col)(G:∀q∈L,∀p:Pt,InS q p.1 p.2->R p=q.c)(B:q∈L)(J:d<4):∀(k:Nat) {p:Pt},Rch W R s p->InS q p.1 p.2->InS q (go p k d).1 (go p k d).2->Rch W R s (go p k d)
 |0,p,hs,_,_=>by rw[d_];exact hs
 |k+1,p,hs,h1,h2=>by
  have O:InS q (go p k d).1 (go p k d).2:=by
   unfold InS at *;rcases dk J with rfl | rfl | rfl | rfl<;>simp[go,ux,uy]at h2 ⊢<;>lia
  have:=Bj h G B J k hs h1 O
  rw[<-jk]at h2 ⊢;exact Rch.cls s _ d this J (Cv h B h2) (by rw[G q B _ h2,G q B _ O])
theorem xg (h:Lnd L M W col)(hR:∀q∈L,∀p:Pt,InS q p.1 p.2->R p=q.c)(hq:q∈L)(J:Rch W R s p)(h1:InS q p.1 p.2)(h2:InS q p'.1 p'.2):Rch W R s p':=by
 have B:∀{a b:Pt} (d:Nat),d<4->Rch W R s a->InS q a.1 a.2->InS q b.1 b.2->∀k:Nat,b=go a k d->Rch W R s b:=fun {a b} d h4 ha i1 O k e=>by
  rw[e]at O ⊢;exact Bj h hR hq h4 k ha i1 O
 have G:InS q p'.1 p.2:=by unfold InS at *;lia
 have Y:Rch W R s (p'.1,p.2):=by
  rcases Int.le_total p.1 p'.1 with c|c
  ·exact B 0 (by decide) J h1 (b:=(p'.1,p.2)) G (p'.1-p.1).toNat (by refine Prod.ext ?_ ?_<;>simp[go,ux,uy]<;>lia)
  ·exact B 2 (by decide) J h1 (b:=(p'.1,p.2)) G (p.1-p'.1).toNat (by refine Prod.ext ?_ ?_<;>simp[go,ux,uy]<;>lia)
 rcases Int.le_total p.2 p'.2 with c|c
 ·exact B 1 (by decide) Y G h2 (p'.2-p.2).toNat (by refine Prod.ext ?_ ?_<;>simp[go,ux,uy]<;>lia)
 ·exact B 3 (by decide) Y G h2 (p.2-p'.2).toNat (by refine Prod.ext ?_ ?_<;>simp[go,ux,uy]<;>lia)
theorem Bu (h:Lnd L M W col)(hR:∀q∈L,∀p:Pt,InS q p.1 p.2->R p=q.c){q0:Sq}(h0:q0∈M){s:Pt}(hs:InS q0 s.1 s.2){p:Pt}(hp:Rch W R s p):CM M p.1 p.2:=by
 refine hp (fun p=>CM M p.1 p.2) ⟨q0,h0,hs⟩ fun p d ⟨q,Y,hi⟩ h4 B hr=>?_;have O:=h.sub q Y;obtain⟨r,G,J⟩:=h.cover (go p 1 d).1 (go p 1 d).2 B.1 B.2.1 B.2.2.1 B.2.2.2;by_cases c:InS q (go p 1 d).1 (go p 1 d).2
 ·exact⟨q,Y,c⟩
 have key:∃t,(tlo q ((d+1)%4)<=t/\t<tlo q ((d+1)%4)+q.w/\lcx q ((d+1)%4) t=(go p 1 d).1/\lcy q ((d+1)%4) t=(go p 1 d).2):=by
  refine⟨if d%2=1 then p.1 else p.2,?_⟩;unfold InS at hi c;rcases dk h4 with rfl | rfl | rfl | rfl<;>simp[go,ux,uy,tlo,axd,lcx,lcy]at c ⊢<;>lia
 obtain⟨t,t1,t2,e1,e2⟩:=key;have hl:=(h.lies O G (show (d+1)%4<4 by lia) ⟨t1,t2⟩ (by rw[e1,e2];exact J)).1;refine⟨r,h.closed q Y r G ((d+1)%4) (by lia) (Ji.mp hl).2 ?_,J⟩;rw[<-hR r G _ J,hr,hR q O _ hi];exact h.colour q Y
end
theorem Aa (B:0<wa)(G:0<wb)(h:gR a wa b wb=0):a+wa=b\/b+wb=a:=by
 unfold gR mn mx at h
 split at h<;>split at h<;>lia
theorem D9 (B:0<wa)(G:0<wb)(h:0<gR a wa b wb):∃t:Int,a<=t/\(t<a+wa/\b<=t/\t<b+wb):=by
 have:=(qw B G).mp h
 rcases Nat.le_total a b with c|c
 ·exact⟨b,by lia⟩
 ·exact⟨a,by lia⟩
theorem zH (B:0<q.w)(G:0<r.w)(h:cB q r=true):∃(p:Pt) (d:Nat),d<4/\(InS q p.1 p.2/\InS r (go p 1 d).1 (go p 1 d).2):=by
 rw[eZ]at h;rcases (show (gR q.x q.w r.x r.w=0/\0<gR q.y q.w r.y r.w)\/(gR q.y q.w r.y r.w=0/\0<gR q.x q.w r.x r.w) by lia) with⟨z,o⟩ | ⟨z,o⟩<;>obtain⟨t,J⟩:=D9 B G o<;>rcases Aa B G z with z | z
 ·exact⟨(q.x+q.w-1,t),0,by decide,by simp[InS,go,ux,uy];lia⟩
 ·exact⟨(q.x,t),2,by decide,by simp[InS,go,ux,uy];lia⟩
 ·exact⟨(t,q.y+q.w-1),1,by decide,by simp[InS,go,ux,uy];lia⟩
 ·exact⟨(t,q.y),3,by decide,by simp[InS,go,ux,uy];lia⟩
section
theorem qI (gt:bc n t)(C:bw (sqs [] t 0 0 n) A zs)(Y:∀q∈sqs [] t 0 0 n,∀p:Pt,InS q p.1 p.2->R p=q.c){q0:Sq}(h0:q0∈sqs [] t 0 0 n){s:Pt}(hs:InS q0 s.1 s.2)(p:Pt):Rch ((2^n:Nat):Int) R s p↔CM (bC (sqs [] t 0 0 n) A q0.z) p.1 p.2:=by
 obtain⟨J,a0⟩:=lJ gt C h0;constructor
 ·exact Bu J Y a0 hs
 rintro⟨q,hq,hi⟩;obtain⟨m,hm,e⟩:=Iv.mp (((fB C h0 q).mp hq).2);have a1:q0.z∈zs:=by rw[C.ez];exact Iv.mpr ⟨q0,h0,rfl⟩
 have key:=C.reach a1 (fun z=>∀r∈sqs [] t 0 0 n,r.z=z->∀p:Pt,InS r p.1 p.2->Rch ((2^n:Nat):Int) R s p) (fun r hr er p hp=>?_) (fun x y hx hy r hr er p hp=>?_) m hm
 ·exact key q (J.sub q hq) e.symm p hi
 ·rw[yc C.hB hr h0 er]at hp;exact xg J Y h0 (Rch.refl s) hs hp
 ·obtain⟨dd,a2,O,a3⟩:=(C.near x y).mp hy;obtain⟨a,G,b,B,rfl,ht⟩:=iM a2;have ec:a.c=b.c:=by
   unfold fz at O
   have:=IZ O
   rw[cf C.hB G,cf C.hB B]at this;injection this with this;injection this
  have st:∀{a b:Sq},a∈sqs [] t 0 0 n->b∈sqs [] t 0 0 n->a.c=b.c->cB a b=true->a.z=x->b=r->Rch ((2^n:Nat):Int) R s p:=fun {a b} G O ec ht ea eb=>by
   subst eb;obtain⟨p1,d,h4,i1,i2⟩:=zH (J.pos a G) (J.pos b O) ht;have r1:=hx a G ea p1 i1;have r2:=Rch.cls s p1 d r1 h4 (Cv J O i2) (by rw[Y b O _ i2,Y a G _ i1,ec]);exact xg J Y O r2 i2 hp
  rcases a3 with⟨e1,e2⟩|⟨e1,e2⟩
  ·exact st G B ec ht e1.symm (yc C.hB B hr (e2.symm.trans er.symm))
  ·exact st B G ec.symm (by rw[ni];exact ht) e1.symm (yc C.hB G hr (e2.symm.trans er.symm))
end
def zo:Nat->Nat->Nat->List Pt
 |0,x,y=>[((x:Int),(y:Int))]
 |k+1,x,y=>zo k x y++(zo k (x+2^k) y++(zo k x (y+2^k)++zo k (x+2^k) (y+2^k)))
theorem ti:∀k x y,∃r,zo k x y=((x:Int),(y:Int))::r
 |0,_,_=>⟨[],rfl⟩
 |k+1,x,y=>by
  obtain⟨r,e⟩:=ti k x y;unfold zo;rw[e];exact⟨_,rfl⟩
theorem AR:∀(k x y:Nat) (p:Pt),p∈zo k x y->(x:Int)<=p.1/\p.1<x+(2^k:Nat)/\(y:Int)<=p.2/\p.2<y+(2^k:Nat)
 |0,x,y,p,h=>by
  rw[Iu.mp h];simp
  lia
 |k+1,x,y,p,h=>by
  have B:2^(k+1)=2^k+2^k:=by rw[JG];lia
  unfold zo at h;simp only[Iz]at h;rw[B];rcases h with h | h | h | h<;>have:=AR k _ _ p h<;>generalize 2^k=K at *<;>omega
def plc (q:Sq):List Pt:=zo q.w.log2 q.x q.y
theorem ke:∀(t:Tr) (p:List Nat) (x y k:Nat),bc k t->(sqs p t x y k).flatMap plc=zo k x y
 | .col c,p,x,y,k,_=>by
  show plc ⟨p,c,x,y,2^k⟩++[]=_;unfold plc;rw[Jt,Nat.log2_two_pow]
 | .four a b c d,p,x,y,0,g=>g.elim
 | .four a b c d,p,x,y,k+1,⟨ga,gb,gc,gd,_⟩=>by
  show (sqs (p++[0]) a x y k++(sqs (p++[1]) b (x+2^k) y k++(sqs (p++[2]) c x (y+2^k) k++sqs (p++[3]) d (x+2^k) (y+2^k) k))).flatMap plc=_;rw[Jx,Jx,Jx,ke a _ x y k ga,ke b _ (x+2^k) y k gb,ke c _ x (y+2^k) k gc,ke d _ (x+2^k) (y+2^k) k gd];rfl
theorem xy (gt:bc n t)(G:q∈sqs [] t 0 0 n):(∃r,plc q=((q.x:Int),(q.y:Int))::r)/\∀p∈plc q,InS q p.1 p.2:=by
 refine⟨ti _ _ _,fun p J=>?_⟩;have h:=AR _ _ _ p J;obtain⟨_,_,_,_,_,_,_,B⟩:=dQ t [] 0 0 n gt q G;rw[B,Nat.log2_two_pow]at h;unfold InS;rw[B];omega
noncomputable def iX (W:Int)(R:Pt->Int)(st:List Pt)(p:Pt):List Pt:=open Classical in if ∃s∈st,Rch W R s p then st else st++[p]
theorem Bg {st:List Pt}(h:∃s∈st,Rch W R s p):iX W R st p=st:=by unfold iX;rw[if_pos h]
theorem tE {st:List Pt}:∀{l:List Pt},(∀p∈l,∃s∈st,Rch W R s p)->l.foldl (iX W R) st=st
 | [],_=>rfl
 |a::l,h=>by
  rw[Kf,Bg (h a IF)];exact tE fun p B=>h p (IA _ B)
def pt0 (q:Sq):Pt:=((q.x:Int),(q.y:Int))
section
theorem ql (gt:bc n t)(B:q∈sqs [] t 0 0 n):InS q (pt0 q).1 (pt0 q).2:=by
 obtain⟨⟨r,e⟩,h⟩:=xy gt B;exact h _ (by rw[e];exact IF)
theorem nj (gt:bc n t)(C:bw (sqs [] t 0 0 n) A zs)(hR:∀q∈sqs [] t 0 0 n,∀p:Pt,InS q p.1 p.2->R p=q.c):∀(m:List Sq) (x:List (Int×List Mem)×LN9) (qs:List Sq),(∀q∈m,q∈sqs [] t 0 0 n)->(∀q∈qs,q∈sqs [] t 0 0 n)->x.1=qs.map (fun q=>(q.c,cO A q.z))->(∀z,z∈x.2↔∃q∈qs,z∈(cO A q.z).map (·.1)) ->
  ∃qs':List Sq,(m.foldl (jD A) x).1=qs'.map (fun q=>(q.c,cO A q.z))/\(∀q∈qs',q∈sqs [] t 0 0 n)/\(m.flatMap plc).foldl (iX ((2^n:Nat):Int) R) (qs.map pt0)=qs'.map pt0
 | [],x,qs,_,hq,h1,_=>⟨qs,h1,hq,rfl⟩
 |q::m,x,qs,hm,hq,h1,h2=>by
  have B:=hm q IF;obtain⟨⟨r,er⟩,a0⟩:=xy gt B;have reach:∀s∈qs,∀p:Pt,InS q p.1 p.2->(Rch ((2^n:Nat):Int) R (pt0 s) p↔q.z∈(cO A s.z).map (·.1)):=fun s G p Y=>by
   have J:=hq s G;obtain⟨hl,_⟩:=lJ gt C J;rw[qI gt C hR J (ql gt J) p];constructor
   ·rintro⟨O,a1,hi⟩
    have:=hl.apart O (hl.sub O a1) q B _ _ hi Y
    rw[<-this];exact ((fB C J O).mp a1).2
   ·intro hz;exact⟨q,(fB C J q).mpr ⟨B,hz⟩,Y⟩
  rw[Kf,K9,Ka];by_cases c:q.z∈x.2
  ·have e1:jD A x q=x:=by unfold jD;rw[if_pos c]
   obtain⟨s,G,hz⟩:=(h2 q.z).mp c;rw[e1,tE fun p Y=>⟨pt0 s,Iv.mpr ⟨s,G,rfl⟩,(reach s G p (a0 p Y)).mpr hz⟩];exact nj gt C hR m x qs (fun O h=>hm O (IA _ h)) hq h1 h2
  ·have e1:jD A x q=(x.1++[(q.c,cO A q.z)],x.2++(cO A q.z).map (·.1)):=by unfold jD;rw[if_neg c]
   obtain⟨hl,_⟩:=lJ gt C B;have e2:(plc q).foldl (iX ((2^n:Nat):Int) R) (qs.map pt0)=(qs++[q]).map pt0:=by
    rw[er,Kf];have e3:iX ((2^n:Nat):Int) R (qs.map pt0) ((q.x:Int),(q.y:Int))=(qs++[q]).map pt0:=by
     unfold iX;rw[if_neg ?_,IT]
     ·rfl
     ·rintro⟨p,Y,k⟩;obtain⟨s,G,rfl⟩:=Iv.mp Y;exact c ((h2 q.z).mpr ⟨s,G,(reach s G _ (ql gt B)).mp k⟩)
    rw[e3];refine tE fun p Y=>⟨pt0 q,Iv.mpr ⟨q,by simp,rfl⟩,?_⟩;exact xg hl hR B (Rch.refl _) (ql gt B) (a0 p (by rw[er];exact IA _ Y))
   rw[e1,e2];refine nj gt C hR m _ (qs++[q]) (fun O h=>hm O (IA _ h)) (fun O h=>?_) ?_ (fun z=>?_)
   ·rcases Iz.mp h with h|h
    ·exact hq O h
    ·rw[Iu.mp h];exact B
   ·rw[IT,h1];rfl
   ·rw[Iz,h2];simp only[Iz,Iu];constructor
    ·rintro (⟨s,G,h⟩ | h)
     ·exact⟨s,.inl G,h⟩
     ·exact⟨q,.inr rfl,h⟩
    ·rintro⟨s,G | rfl,h⟩
     ·exact .inl ⟨s,G,h⟩
     ·exact .inr h
theorem zK (gt:bc n t)(C:bw (sqs [] t 0 0 n) A zs)(J:∀q∈sqs [] t 0 0 n,∀p:Pt,InS q p.1 p.2->R p=q.c):∃B:List Sq,(rM A (sqs [] t 0 0 n)).1=B.map (fun q=>(q.c,cO A q.z))/\(∀q∈B,q∈sqs [] t 0 0 n)/\(zo n 0 0).foldl (iX ((2^n:Nat):Int) R) []=B.map pt0:=by
 obtain⟨B,h1,h2,G⟩:=nj gt C J (sqs [] t 0 0 n) ([],[]) [] (fun _ h=>h) (fun _ h=>by cases h) rfl (fun z=>by simp);rw[ke t [] 0 0 n gt]at G;exact⟨B,h1,h2,G⟩
end
def trR (R:Nat->Nat->Int):Nat->Nat->Nat->Tr
 |0,x,y=>.col (R x y)
 |k+1,x,y=>oR (trR R k x y) (trR R k (x+2^k) y) (trR R k x (y+2^k)) (trR R k (x+2^k) (y+2^k))
theorem iE (h:∀x y,0<=R x y/\R x y<=35):∀k x y,bc k (trR R k x y)
 |0,x,y=>h x y
 |k+1,x,y=>Az (iE h k _ _) (iE h k _ _) (iE h k _ _) (iE h k _ _)
theorem B5 (h:xB a b c d=true):∃i,a=.col i/\b=.col i/\c=.col i/\d=.col i:=by
 unfold xB at h;simp only[JC,decide_eq_true_eq]at h;obtain⟨h1,_,h2,B,G,_⟩:=h;cases a with
 |col i=>exact⟨i,rfl,h2,B,G⟩
 |four=>cases h1
theorem lZ:∀(k x y:Nat) (p:List Nat) (q:Sq),q∈sqs p (trR R k x y) x y k->∀i j:Nat,q.x<=i->i<q.x+q.w->q.y<=j->j<q.y+q.w->R i j=q.c
 |0,x,y,p,q,G,i,j,h1,h2,h3,h4=>by
  have e:q=⟨p,R x y,x,y,2^0⟩:=Iu.mp G;subst e;simp at h1 h2 h3 h4;rw[show i=x by lia,show j=y by lia]
 |k+1,x,y,p,q,G,i,j,h1,h2,h3,h4=>by
  have e2:2^(k+1)=2^k+2^k:=by rw[JG];lia
  have A:=fun p q=>lZ (R:=R) k x y p q;have B:=fun p q=>lZ (R:=R) k (x+2^k) y p q;have C:=fun p q=>lZ (R:=R) k x (y+2^k) p q;have D:=fun p q=>lZ (R:=R) k (x+2^k) (y+2^k) p q;unfold trR at G;unfold oR at G;by_cases c:xB (trR R k x y) (trR R k (x+2^k) y) (trR R k x (y+2^k)) (trR R k (x+2^k) (y+2^k))=true
  ·rw[if_pos c]at G;obtain⟨v,Y,eb,ec,ed⟩:=B5 c;rw[Y]at G;rw[Y]at A;rw[eb]at B;rw[ec]at C;rw[ed]at D;have e:q=⟨p,v,x,y,2^(k+1)⟩:=Iu.mp G;subst e;dsimp only at h1 h2 h3 h4 ⊢;rw[e2]at h2 h4;have A':=A [] ⟨[],v,x,y,2^k⟩ (Iu.mpr rfl) i j;have B':=B [] ⟨[],v,x+2^k,y,2^k⟩ (Iu.mpr rfl) i j;have C':=C [] ⟨[],v,x,y+2^k,2^k⟩ (Iu.mpr rfl) i j;have D':=D [] ⟨[],v,x+2^k,y+2^k,2^k⟩ (Iu.mpr rfl) i j;dsimp only at A' B' C' D'
   clear A B C D
   generalize 2^k=K at *;rcases JV i (x+K) with J | J<;>rcases JV j (y+K) with O | O
   ·exact A' h1 J h3 O
   ·exact C' h1 J O (by lia)
   ·exact B' J (by lia) h3 O
   ·exact D' J (by lia) O (by lia)
  ·rw[if_neg c]at G;have hq':q∈sqs (p++[0]) (trR R k x y) x y k++(sqs (p++[1]) (trR R k (x+2^k) y) (x+2^k) y k++(sqs (p++[2]) (trR R k x (y+2^k)) x (y+2^k) k++sqs (p++[3]) (trR R k (x+2^k) (y+2^k)) (x+2^k) (y+2^k) k)):=G;simp only[Iz]at hq';rcases hq' with h | h | h | h
   ·exact A _ q h i j h1 h2 h3 h4
   ·exact B _ q h i j h1 h2 h3 h4
   ·exact C _ q h i j h1 h2 h3 h4
   ·exact D _ q h i j h1 h2 h3 h4
theorem l8 (R:Nat->Nat->Int):∀k x y,cnt (trR R k x y)<=4^k
 |0,_,_=>Iw 1
 |k+1,x,y=>by
  have:=CW (trR R k x y) (trR R k (x+2^k) y) (trR R k x (y+2^k)) (trR R k (x+2^k) (y+2^k))
  have:=l8 R k x y
  have:=l8 R k (x+2^k) y
  have:=l8 R k x (y+2^k)
  have:=l8 R k (x+2^k) (y+2^k)
  show cnt (oR _ _ _ _)<=_;rw[JG]
  lia
def RwV (H:Hp)(l:Addr)(u:V)(r:List Int):Prop:=∃lr,u=.ref lr/\lr≠l/\H lr=some (.lst (r.map V.int))
def ve (H:Hp)(l:Addr)(rws:List (List Int)):Prop:=∃us,H l=some (.lst us)/\Paired (RwV H l) us rws
theorem RwV.up (h:RwV H l u r)(s:ah H H'):RwV H' l u r:=by
 obtain⟨B,e,n,G⟩:=h;exact⟨B,e,n,s _ _ G⟩
theorem RwV.set (h:RwV H l u r):RwV (upd H l o) l u r:=by
 obtain⟨B,e,n,G⟩:=h;exact⟨B,e,n,by rw[aA n];exact G⟩
theorem ve.up (h:ve H l rws)(s:ah H H'):ve H' l rws:=by
 obtain⟨B,h1,h2⟩:=h;exact⟨B,s _ _ h1,Paired.mapP h2 fun _ _ k=>k.up s⟩
def AL (W:Nat)(rws:List (List Int)):Prop:=rws.length=W/\∀r∈rws,r.length=W/\∀c∈r,0<=c/\c<=35
theorem Ih {d:Nat}(O:d<3){a b c:Int}(B:0<=a/\a<=35)(G:0<=b/\b<=35)(J:0<=c/\c<=35):∃x:Int,atI [V.int a,V.int b,V.int c] (d:Int)=some (.int x)/\(0<=x/\x<=35):=by
 rcases d with _|_|_|d
 ·exact⟨a,rfl,B⟩
 ·exact⟨b,rfl,G⟩
 ·exact⟨c,rfl,J⟩
 ·lia
section
abbrev pZ:Stmt:=top 47
theorem zO:aE ["_law_script","_law_k"] ["_law_script","_law_k"] (aq pZ):={}
inductive rq  (K:Frag)(vs:List V)(H:Hp)(Q:VK):Prop
 |mk (a:Addr) (ns:List Int) (k:Nat) (h_0:vs=[.ref a,.int k]) (h_1:SqL K H a (ns.map V.int)) (h_2:ns.length<=63) (h_3:Q (.int (cell ns k)) H):rq K vs H Q
def nn  (K:Frag):Sp:=fun vs H Q _=>rq K vs H Q
theorem Ae (T:Tx K mg)(F:bD K "_law_at" "_law_at" pZ f fd .none):bB P w K mg base CX 1 f fd ["_law_script","_law_k"] (nn K):=by
 refine F.ok zO (fun vs H Q E h=>?_) (fun O A outer s H vs Q E hr h=>?_)
 ·obtain⟨_,_,_,rfl,_⟩:=h;rfl
 obtain⟨a,B,k,rfl,J,hl,G⟩:=h;refine⟨_,(ab (aT (aJ oj (pv 1) (av aY rfl T.b_len bN (aa (pv 0) ae))) (af (aB (aD bh (pv 0) (pv 1)))) aF) (af (aB ac))),?_⟩;refine⟨_,_,rfl,.inl ⟨_,J,rfl⟩,cU (ay (ci (fun c=>?_) (fun c=>?_)))⟩
 ·have c':(k:Int)<(((B.map V.int).length:Nat):Int):=IZ c;rw[Iq]at c';have Y:k<B.length:=by lia
  have e:(B.map V.int)[k]? = some (.int (cell B k)):=by simp[cell,Y]
  exact⟨a,_,_,_,rfl,rfl,J,bG e,G⟩
 ·have c':¬ (k:Int)<(((B.map V.int).length:Nat):Int):=fun z=>c (IC z);rw[Iq]at c';have e:cell B k=0:=by
   have:B[k]? = none:=Ke (by lia)
   simp[cell,this]
  rw[e]at G;exact G
abbrev nA:Stmt:=top 48
theorem kY:aE ["_law_cell","_law_k","_law_value"] ["_law_cell","_law_k"] (aq nA):={}
inductive oF  (vs:List V)(H:Hp)(Q:VK):Prop
 |mk (c:Int) (k:Nat) (h_0:vs=[.int c,.int k]) (h_1:k<=100000) (h_2:∀m:Nat,m<2305843009213693951->Q (.int (m:Int)) H):oF  vs H Q
def kX:Sp:=fun vs H Q _=>oF  vs H Q
theorem xF (T:Tx K mg)(F:bD K "_law_mix" "_law_mix" nA f fd .none):bB P w K mg base CX 1 f fd ["_law_cell","_law_k"] kX:=by
 refine F.ok kY (fun vs H Q E h=>?_) (fun G A outer s H vs Q E hr h=>?_)
 ·obtain⟨_,_,rfl,_⟩:=h;rfl
 obtain⟨c,k,rfl,hk,J⟩:=h;refine⟨_,(ab (au (i:=2) kY (aj aK (aj aK (aj bF (pv 0) ac) (aj cH ac (pv 1))) ac)) (ab (au (i:=2) kY (aj bF (aj cH (pv 2) (aj aK ac (aj cH ac (pv 1)))) ac)) (af (aB (aj bF (aj cH (aj aK (aj bI (pv 2) ac) (aj cH (pv 2) ac)) ac) ac))))),?_⟩;have B:(0:Int)<2305843009213693951:=by decide
 refine⟨B,.inl ⟨by decide,by decide⟩,cU (cU ?_)⟩;dsimp only;obtain⟨v,hv,O⟩:∃v:Int,(0<=v/\v<2305843009213693951+211*100000+13)/\c%2305843009213693951+211*(k:Int)+13=v:=⟨_,by lia,rfl⟩;rw[O];refine⟨.inl ⟨by decide,by decide⟩,.inl ⟨by lia,by lia⟩,B,?_⟩;dsimp only;obtain⟨x,hx,ex⟩:∃x:Int,(0<=x/\x<2305843009213693951)/\v*(746413622384679307+2*(k:Int))%2305843009213693951=x:=⟨_,⟨KL _ (by decide),Kt _ (by decide)⟩,rfl⟩;rw[ex];refine⟨eP (by decide) (by decide),.inr ⟨by decide,by decide⟩,.inr ⟨by decide,by decide⟩,B,?_⟩;dsimp only;obtain⟨m,Y,em⟩:∃m:Nat,m<2305843009213693951/\(x/268435456+x*5)*1302034522624059749%2305843009213693951=(m:Int):=by
  have h1:=KL ((x/268435456+x*5)*1302034522624059749) (show (2305843009213693951:Int)≠0 by decide);have h2:=Kt ((x/268435456+x*5)*1302034522624059749) B;generalize (x/268435456+x*5)*1302034522624059749%2305843009213693951=y at *;exact⟨y.toNat,by lia,by lia⟩
 rw[em];exact J m Y
abbrev io:Stmt:=top 49
theorem aG:aE ["_law_script","_law_wide","_law_deed","_law_few","_law_rows","_law_base","_law_y","_law_cell","_law_row","_law_x","_law_value","_law_at_here"] ["_law_script"] (aq io):={}
inductive jy  (K:Frag)(vs:List V)(H:Hp)(Q:VK):Prop
 |mk (a:Addr) (ns:List Int) (n:Nat) (h_0:vs=[.ref a]) (h_1:SqL K H a (ns.map V.int)) (h_2:ns.length<=63) (h_3:cell ns 0%4=(n:Int)) (h_4:∀l rws H',ah H H'->H l=none->ve H' l rws->AL (2^n) rws->Q (.ref l) H'):jy K vs H Q
def jE  (K:Frag):Sp:=fun vs H Q _=>jy K vs H Q
theorem qx (T:Tx K mg)(q:bS CX)(F:bD K "_law_rows_by" "_law_rows_by" io f fd .none)(B:Fok P w K mg base CX 1 "_law_at" ["_law_script","_law_k"] [] (nn K))(J:Fok P w K mg base CX 1 "_law_mix" ["_law_cell","_law_k"] [] kX):bB P w K mg base CX 2 f fd ["_law_script"] (jE K):=by
 refine F.ok aG (fun vs H Q E h=>?_) (fun c0 A outer s H vs Q E hr h=>?_)
 ·obtain⟨_,_,_,rfl,_⟩:=h;rfl
 obtain⟨a,ns,n,rfl,hS,a0,en,q'⟩:=h;refine⟨_,(ab (au (i:=1) aG (aj BX ac (aj bF (ai B q hr (aa (pv 0) (aa ac ae))) ac))) (ab (au (i:=2) aG (aj bF (aj bI (ai B q hr (aa (pv 0) (aa ac ae))) ac) ac)) (ab (au (i:=3) aG (bg (am (aj bF (ai B q hr (aa (pv 0) (aa ac ae))) ac) (am (aj bF (ai B q hr (aa (pv 0) (aa ac ae))) ac) (am (aj bF (aj bI (ai B q hr (aa (pv 0) (aa ac ae))) ac) ac) ak))))) (ab (au (i:=4) aG (bg ak)) (ab (aT (aJ gJ (aj bF (aj bI (ai B q hr (aa (pv 0) (aa ac ae))) ac) ac) ac) (ab (au (i:=5) aG (aj aK ac (aj bF (aj bI (ai B q hr (aa (pv 0) (aa ac ae))) ac) ac))) (ab (aN II rfl (bx rfl T.b_range (aa (pv 1) ae)) (aP (i:=6) aG) (ab (au (i:=7) aG (ai B q hr (aa (pv 0) (aa (aj aK ac (pv 6)) ae)))) (ab (jS (aT (aJ oj (av C0 rfl T.b_abs GB (aa (pv 7) ae)) (aj FN ac ac)) (af (au (i:=7) aG (ai J q hr (aa (pv 7) (aa (pv 6) ae))))) aF)) (ab (au (i:=8) aG (bg ak)) (ab (aN II rfl (bx rfl T.b_range (aa (pv 1) ae)) (aP (i:=9) aG) (ab (ba (bH (pv 8) (aa (aj bF (pv 7) (pv 5)) ae))) (af (au (i:=7) aG (aj bI (pv 7) (pv 5)))))) (af (ba (bH (pv 4) (aa (pv 8) ae))))))))) (af (aB (pv 4))))) aF) (ab (aN II rfl (bx rfl T.b_range (aa (pv 1) ae)) (aP (i:=6) aG) (ab (au (i:=10) aG (ai J q hr (aa (ai B q hr (aa (pv 0) (aa (aj aK ac (pv 6)) ae))) (aa (pv 6) ae)))) (ab (au (i:=8) aG (bg ak)) (ab (aN II rfl (bx rfl T.b_range (aa (pv 1) ae)) (aP (i:=9) aG) (ab (au (i:=11) aG (av (AG rfl) rfl T.b_min rf (aa (pv 9) (aa (pv 6) (aa (aj cT (aj cT (pv 1) ac) (pv 9)) (aa (aj cT (aj cT (pv 1) ac) (pv 6)) ae)))))) (ab (jS (aT (aJ gJ (pv 2) ac) (af (au (i:=11) aG (aj aK (pv 9) (pv 6)))) aF)) (ab (jS (aT (aJ gJ (pv 2) ac) (af (au (i:=11) aG (aj aK (aj bI (pv 9) ac) (aj bI (pv 6) ac)))) aF)) (ab (jS (aT (PW.pt (g_ (aJ gJ (pv 2) ac) (gG (aJ gJ (aj bF (pv 10) ac) ac)))) (af (au (i:=11) aG (aj bF (aj bI (pv 10) ac) (aj aK ac (cq n6 rfl T.b_int fL (aa (qu (hE gJ (pv 2) ac) (qq (hE gJ (aj bF (pv 10) ac) ac))) ae)))))) aF)) (ab (ba (bH (pv 8) (aa (aD bh (pv 3) (aj bF (pv 11) (aj aK ac (aj bI (pv 2) ac)))) ae))) (af (au (i:=10) aG (aj aK (aj bI (pv 10) ac) (aj bF (ai J q hr (aa (ai B q hr (aa (pv 0) (aa (aj aK ac (pv 6)) ae))) (aa (aj aK ac (pv 9)) ae))) ac)))))))))) (af (ba (bH (pv 4) (aa (pv 8) ae)))))))) (af (aB (pv 4))))))))),?_⟩;have hn:n<4:=by lia
 have b2:2^n<=8:=IU (Kj (by decide) (show n<=3 by lia)) (by decide);have ew:(1:Int)*2^((n:Int)).toNat=((2^n:Nat):Int):=by rw[Jn];simp
 refine⟨a,ns,0,rfl,hS,a0,(rJ 3),?_⟩
 try dsimp only
 rw[en];refine⟨⟨by simp,by lia,by decide⟩,?_⟩
 try dsimp only
 rw[ew];generalize 2^n=W at b2 q';refine⟨a,ns,0,rfl,hS,a0,eP (by decide) (by decide),(rJ 3),?_⟩;obtain⟨de,c4,b3⟩:=Ew (cell ns 0/4)
 try dsimp only
 rw[b3];refine⟨a,ns,1,rfl,hS,a0,(rJ 35),a,ns,2,rfl,hS,a0,(rJ 35),a,ns,2,rfl,hS,a0,eP (by decide) (by decide),(rJ 35),(leZ rfl),fun lf b4=>?_⟩
 try dsimp only
 obtain⟨c1,b5,e1⟩:∃c:Int,(0<=c/\c<=35)/\cell ns 1%36=c:=⟨_,by lia,rfl⟩;obtain⟨c2,b6,e2⟩:∃c:Int,(0<=c/\c<=35)/\cell ns 2%36=c:=⟨_,by lia,rfl⟩;obtain⟨c3,b7,e3⟩:∃c:Int,(0<=c/\c<=35)/\cell ns 2/36%36=c:=⟨_,by lia,rfl⟩;rw[e1,e2,e3];have s1:=ah.new b4 (.lst [.int c1,.int c2,.int c3]);have u1:upd H lf (.lst [.int c1,.int c2,.int c3]) lf=some (.lst [.int c1,.int c2,.int c3]):=ag;generalize upd H lf (.lst [.int c1,.int c2,.int c3])=H1 at *;refine⟨(leZ rfl),fun lw a5=>?_⟩;have a7:H lw=none:=s1.free a5;have a6:=ah.new a5 (.lst ([]:List V));have s2:=s1.trans a6;have u2:=a6 _ _ u1;have w2:upd H1 lw (.lst []) lw=some (.lst []):=ag;generalize upd H1 lw (.lst [])=H2 at *
 let I:OW9->NS9:=fun b i σ H3=>ah H1 H3/\∃(us:List V) (O:List (List Int)) (o6 o7 o8 o9 a2 a1:OW9),H3 lw=some (.lst us)/\Paired (RwV H3 lw) us O/\O.length=i/\(∀r∈O,r.length=W/\∀c∈r,0<=c/\c<=35)/\σ=[some (.ref a),some (.int ((W:Nat):Int)),some (.int (de:Int)),some (.ref lf),some (.ref lw),b,o6,o7,o8,o9,a2,a1]
 refine⟨a,ns,0,rfl,s2.seq hS,a0,eP (by decide) (by decide),(rJ 1),rfl,ay (ci (fun _=>?_) (fun _=>?_))⟩
 ·refine⟨a,ns,0,rfl,s2.seq hS,a0,eP (by decide) (by decide),(rJ 34),cU ?_⟩;obtain⟨b,hb,eb⟩:∃b:Int,(2<=b/\b<=36)/\2+cell ns 0/32%35=b:=⟨_,by lia,rfl⟩
  try dsimp only
  rw[eb];refine⟨_,rfl,by simp,by lia,bV (I (some (.int b))) ⟨a6,[],[],none,none,none,none,none,none,w2,.nil,rfl,fun r h=>(by cases h),rfl⟩ ?_ ?_⟩
  rotate_left
  ·rintro σ H3 ⟨s3,us,O,o6,o7,o8,o9,a2,a1,w3,hP,lr,a3,rfl⟩;exact (q' lw O H3 (s1.trans s3) a7 ⟨us,w3,hP⟩ ⟨lr,a3⟩)
  rintro i σ H3 hi ⟨s3,us,O,o6,o7,o8,o9,a2,a1,w3,hP,lr,a3,rfl⟩;rw[show (0:Int)+(i:Int)=(i:Int) from JO _];refine⟨a,ns,1+i,(by show [V.ref a,V.int ((1:Int)+(i:Int))]=_;rw[show (1:Int)+(i:Int)=((1+i:Nat):Int) by rfl]),(s1.trans s3).seq hS,a0,?_⟩;refine⟨fun σ' H'=>H'=H3/\∃c:Int,σ'=[some (.ref a),some (.int ((W:Nat):Int)),some (.int (de:Int)),some (.ref lf),some (.ref lw),some (.int b),some (.int (i:Int)),some (.int c),o8,o9,a2,a1],?_,?_⟩
  ·refine⟨_,rfl,⟨by decide,by decide,by decide⟩,cU (ay (ci (fun _=>?_) (fun _=>⟨rfl,_,rfl⟩)))⟩;exact⟨_,i,rfl,by lia,fun m hm=>⟨rfl,_,rfl⟩⟩
  rintro σ' H' ⟨rfl,c,rfl⟩;refine⟨(leZ rfl),fun G Y=>?_⟩;have s4:=ah.new Y (.lst []);have w4:upd H' G (.lst []) G=some (.lst ([]:List V)):=ag;generalize upd H' G (.lst [])=H4 at *;have a4:lw≠G:=bM w3 Y
  let J0:NS9:=fun x σ H5=>ah H' H5/\∃(r:List Int) (c:Int) (o9:OW9),H5 G=some (.lst (r.map V.int))/\r.length=x/\(∀c∈r,0<=c/\c<=35)/\σ=[some (.ref a),some (.int ((W:Nat):Int)),some (.int (de:Int)),some (.ref lf),some (.ref lw),some (.int b),some (.int (i:Int)),some (.int c),some (.ref G),o9,a2,a1]
  refine⟨_,rfl,by simp,by lia,bV J0 ⟨s4,[],c,o9,w4,rfl,fun c h=>(by cases h),rfl⟩ ?_ ?_⟩
  rotate_left
  ·rintro σ H5 ⟨s5,r,c',a8,w5,lx,hc,rfl⟩;have w5':=s5 _ _ w3;refine⟨.inl ⟨rfl,_,SqL.of w5'⟩,lw,us,_,rfl,rfl,w5',cQ (by rw[Paired.length hP];lia),ah.set (s3.trans s5) a5 _,us++[V.ref G],O++[r],_,_,_,_,_,_,ag,?_,by rw[Iy,lr];rfl,fun r' a9=>?_,rfl⟩
   ·exact Paired.snoc (Paired.mapP hP fun _ _ k=>(k.up s5).set) ⟨G,rfl,a4.symm,by rw[aA a4.symm];exact w5⟩
   ·rcases Iz.mp a9 with h|h
    ·exact a3 r' h
    ·rw[Iu.mp h];exact⟨by assumption,hc⟩
  rintro x σ H5 hx ⟨s5,r,c',a8,w5,lx,hc,rfl⟩;refine⟨.inl ⟨rfl,_,SqL.of w5⟩,(by show (0:Int)<b;lia),G,_,_,rfl,rfl,w5,cQ (by rw[Iq];lia),?_⟩;refine⟨eP (by lia) (by lia),ah.set s5 Y _,r++[c'%b],_,_,?_,by rw[Iy,lx];rfl,fun z hz=>?_,rfl⟩
  ·rw[ag,IT];rfl
  ·rcases Iz.mp hz with h|h
   ·exact hc z h
   ·rw[Iu.mp h]
    have:=KL c' (show b≠0 by lia)
    have:=Kt c' (show 0<b by lia)
    lia
 ·refine⟨_,rfl,by simp,by lia,bV (I none) ⟨a6,[],[],none,none,none,none,none,none,w2,.nil,rfl,fun r h=>(by cases h),rfl⟩ ?_ ?_⟩
  rotate_left
  ·rintro σ H3 ⟨s3,us,O,o6,o7,o8,o9,a2,a1,w3,hP,lr,a3,rfl⟩;exact (q' lw O H3 (s1.trans s3) a7 ⟨us,w3,hP⟩ ⟨lr,a3⟩)
  rintro i σ H3 hi ⟨s3,us,O,o6,o7,o8,o9,a2,a1,w3,hP,lr,a3,rfl⟩;rw[show (0:Int)+(i:Int)=(i:Int) from JO _];have b0:∀{H:Hp},(fun _=>[V.ref a,V.int ((3:Int)+(i:Int))]) H=[V.ref a,V.int ((3+i:Nat):Int)]:=fun {H}=>by show [V.ref a,V.int ((3:Int)+(i:Int))]=_;rw[show (3:Int)+(i:Int)=((3+i:Nat):Int) by rfl]
  refine⟨a,ns,3+i,b0 (H:=H3),(s1.trans s3).seq hS,a0,_,i,rfl,by lia,fun m hm=>?_⟩;refine⟨(leZ rfl),fun G Y=>?_⟩;have s4:=ah.new Y (.lst []);have w4:upd H3 G (.lst []) G=some (.lst ([]:List V)):=ag;generalize upd H3 G (.lst [])=H4 at *;have a4:lw≠G:=bM w3 Y
  let J1:NS9:=fun x σ H5=>ah H3 H5/\∃(r:List Int) (v:Int) (o9 a1:OW9),H5 G=some (.lst (r.map V.int))/\r.length=x/\(∀c∈r,0<=c/\c<=35)/\σ=[some (.ref a),some (.int ((W:Nat):Int)),some (.int (de:Int)),some (.ref lf),some (.ref lw),none,some (.int (i:Int)),o7,some (.ref G),o9,some (.int v),a1]
  refine⟨_,rfl,by simp,by lia,bV J1 ⟨s4,[],(m:Int),o9,a1,w4,rfl,fun c h=>(by cases h),rfl⟩ ?_ ?_⟩
  rotate_left
  ·rintro σ H5 ⟨s5,r,v,a8,b1,w5,lx,hc,rfl⟩;have w5':=s5 _ _ w3;refine⟨.inl ⟨rfl,_,SqL.of w5'⟩,lw,us,_,rfl,rfl,w5',cQ (by rw[Paired.length hP];lia),ah.set (s3.trans s5) a5 _,us++[V.ref G],O++[r],_,_,_,_,_,_,ag,?_,by rw[Iy,lr];rfl,fun r' a9=>?_,rfl⟩
   ·exact Paired.snoc (Paired.mapP hP fun _ _ k=>(k.up s5).set) ⟨G,rfl,a4.symm,by rw[aA a4.symm];exact w5⟩
   ·rcases Iz.mp a9 with h|h
    ·exact a3 r' h
    ·rw[Iu.mp h];exact⟨by assumption,hc⟩
  rintro x σ H5 hx ⟨s5,r,v,a8,b1,w5,lx,hc,rfl⟩;rw[show (0:Int)+(x:Int)=(x:Int) from JO _];refine⟨_,_,_,_,rfl,fun k0=>?_⟩
  let C:Hp->SP9:=fun H0 σ' H'=>H'=H0/\∃k:Int,σ'=[some (.ref a),some (.int ((W:Nat):Int)),some (.int (de:Int)),some (.ref lf),some (.ref lw),none,some (.int (i:Int)),o7,some (.ref G),some (.int (x:Int)),some (.int v),some (.int k)]
  refine⟨C H5,?_,?_⟩
  ·refine⟨rfl,ay (ci (fun _=>?_) (fun _=>⟨rfl,_,rfl⟩))⟩;exact⟨rfl,_,rfl⟩
  rintro σ' H' ⟨rfl,k1,rfl⟩;refine⟨C H',?_,?_⟩
  ·refine⟨rfl,ay (ci (fun _=>?_) (fun _=>⟨rfl,_,rfl⟩))⟩;exact⟨eP (by decide) (by decide),eP (by decide) (by decide),rfl,_,rfl⟩
  rintro σ' b8 ⟨rfl,k2,rfl⟩;refine⟨C b8,?_,?_⟩
  ·refine⟨rfl,ay (ci (fun _=>oP ?_) (fun _=>⟨(rJ 6),rfl,ay (ci (fun _=>?_) (fun _=>⟨rfl,_,rfl⟩))⟩))⟩
   all_goals
    exact⟨eP (by decide) (by decide),rfl,_,rfl,ci (fun _=>⟨(rJ 4),rfl,.inr ⟨_,rfl,(by show (0:Int)<2+_;split<;>lia),rfl,_,rfl⟩⟩) (fun _=>.inr ⟨_,rfl,(by show (0:Int)<2+_;split<;>lia),rfl,_,rfl⟩)⟩
  rintro σ' H' ⟨rfl,k3,rfl⟩;have pm:(0:Int)<2+(de:Int)/3:=by lia
  obtain⟨d,hd,ed⟩:∃d:Nat,d<3/\k3%(2+(de:Int)/3)=(d:Int):=by
   have h1:=KL k3 (show 2+(de:Int)/3≠0 by lia);have h2:=Kt k3 pm;exact⟨(k3%(2+(de:Int)/3)).toNat,by lia,by lia⟩
  obtain⟨cc,ec,b9⟩:=Ih hd b5 b6 b7;refine⟨.inl ⟨rfl,_,SqL.of w5⟩,eP (by decide) (by decide),pm,lf,_,_,.int cc,rfl,rfl,SqL.of ((s3.trans s5) _ _ u1),by rw[ed];exact ec,G,_,_,rfl,rfl,w5,cQ (by rw[Iq];lia),?_⟩;have s6:=ah.set s5 Y (.lst (r.map V.int++[V.int cc]));refine⟨eP (by decide) (by decide),a,ns,3+i,b0 (H:=H3),((s1.trans s3).trans s6).seq hS,a0,_,20+x,(by show [V.int _,V.int ((20:Int)+(x:Int))]=_;rw[show (20:Int)+(x:Int)=((20+x:Nat):Int) by rfl]),by lia,fun m' c5=>?_⟩;refine⟨(rJ 96),s6,r++[cc],_,_,_,?_,by rw[Iy,lx];rfl,fun z hz=>?_,rfl⟩
  ·rw[ag,IT];rfl
  ·rcases Iz.mp hz with h|h
   ·exact hc z h
   ·rw[Iu.mp h];exact b9
end
def cR (rws:List (List Int))(x y:Nat):Int:=(((rws[y]?).getD [])[x]?).getD 0
theorem Fd (h:AL W rws)(x y:Nat):0<=cR rws x y/\cR rws x y<=35:=by
 unfold cR;cases e:rws[y]? with
 |none=>simp
 |some r=>
  cases e2:r[x]? with
  |none=>show 0<=(r[x]?).getD 0/\(r[x]?).getD 0<=35;rw[e2];exact⟨by decide,by decide⟩
  |some c=>
   show 0<=(r[x]?).getD 0/\(r[x]?).getD 0<=35;rw[e2];exact (h.2 r (ID e)).2 c (ID e2)
theorem ve.get (h:ve H l rws)(ok:AL W rws)(hx:x<W)(hy:y<W):∃(B:List V) (O:Addr) (r:List Int),H l=some (.lst B)/\B.length=W/\B[y]? = some (.ref O)/\H O=some (.lst (r.map V.int))/\(r.map V.int)[x]? = some (.int (cR rws x y)):=by
 obtain⟨B,h1,h2⟩:=h;have Y:=Paired.length h2;have G:y<B.length:=by rw[Y,ok.1];exact hy
 obtain⟨r,er,O,e,_,hl⟩:=aM h2 (IE G);have lr':r.length=W:=(ok.2 r (ID er)).1;refine⟨B,O,r,h1,by rw[Y,ok.1],by rw[IE G,e],hl,?_⟩;have J:x<r.length:=by lia
 rw[IM,IE J];unfold cR;rw[er];show some (V.int r[x])=some (V.int ((r[x]?).getD 0));rw[IE J];rfl
section
abbrev im:Stmt:=top 50
theorem dS:aE ["_law_rows","_law_left","_law_top","_law_wide","_law_half","_law_four"] ["_law_rows","_law_left","_law_top","_law_wide"] (aq im):={}
inductive jx  (m:Nat)(vs:List V)(H:Hp)(Q:VK):Prop
 |mk (l:Addr) (rws:List (List Int)) (W k x y:Nat) (h_0:vs=[.ref l,.int (x:Int),.int (y:Int),.int ((2^k:Nat):Int)]) (h_1:ve H l rws) (h_2:AL W rws) (h_3:x+2^k<=W) (h_4:y+2^k<=W) (h_5:W<=8) (h_6:k<m) (h_7:m<=4) (h_8:∀v H',ah H H'->cM H' v (trR (cR rws) k x y)->Q v H'):jx m vs H Q
def gh  (m:Nat):Sp:=fun vs H Q _=>jx m vs H Q
theorem jV (T:Tx K mg)(q:bS CX)(F:bD K "_law_tree_of" "_law_tree_of" im f fd .none)(b:eU K fd ["_law_rows","_law_left","_law_top","_law_wide"] [])(m:mg "_law_tree_of" = some (.ref f)):
  ∀n,bB P w K mg base CX (1+n) f fd ["_law_rows","_law_left","_law_top","_law_wide"] (gh n)
 |0=>by
  refine F.ok (k:=0) dS (fun vs H Q E h=>?_) (fun a8 A outer s H vs Q E hr h=>?_)
  ·obtain⟨_,_,_,_,_,_,rfl,_⟩:=h;rfl
  obtain⟨_,_,_,_,_,_,_,_,_,_,_,_,h,_⟩:=h
  lia
 |n+1=>by
  have J:Fok P w K mg base CX (1+n) "_law_tree_of" ["_law_rows","_law_left","_law_top","_law_wide"] [] (gh n):=fok F (jV T q F b m n) b m
  refine F.ok dS (fun vs H Q E h=>?_) (fun a8 A outer s H vs Q E hr h=>?_)
  ·obtain⟨_,_,_,_,_,_,rfl,_⟩:=h;rfl
  obtain⟨l,O,W,k,x,y,rfl,hR,ok,hx,hy,hW,hk,hm,q'⟩:=h;refine⟨_,(ab (aT (aJ gJ (pv 3) ac) (af (aB (aD bh (aD bh (pv 0) (pv 2)) (pv 1)))) aF) (ab (jR (i:=4) dS.nd rfl (Or.inr rfl) (aj bI (pv 3) ac)) (ab (DP (i0:=5) (N':=["_law_k","_law_rows","_law_half","_law_left","_law_top"]) ["_law_top","_law_rows","_law_left","_law_half"] ["_law_rows","_law_half","_law_left","_law_top"] [0,4,1,2] 1 {} (bx rfl T.b_range (aa ac ae)) (fun _ _ _ _ _=>(oi (i:=0))) (fun _ _ _ _ _=>(ai J q hr (aa (pv 1) (aa (aj aK (pv 3) (aj cH (aj bF (pv 0) ac) (pv 2))) (aa (aj aK (pv 4) (aj cH (aj bI (pv 0) ac) (pv 2))) (aa (pv 2) ae)))) (hj:=by first | decide | simp | (simp only[Nat.add_eq];lia)))) dS.nd rfl (Or.inl rfl)) (ab (aT (PW.pt (xv (ce (bL (av (aQ "tuple") rfl T.b_isinstance aH (aa (aD bh (pv 5) ac) (aa (cm T.b_tuple fE) ae))))) (yF (aJ (B0 hr) (pv 5) (aj FM (bg (am (aD bh (pv 5) ac) ak)) ac))))) (af (aB (aD bh (pv 5) ac))) aF) (af (aB (az (am (aD bh (pv 5) ac) (am (aD bh (pv 5) ac) (am (aD bh (pv 5) ac) (am (aD bh (pv 5) ac) ak))))))))))),?_⟩
  rcases k with _|k
  ·obtain⟨us,lr,r,h1,_,h2,h3,h4⟩:=hR.get ok (x:=x) (y:=y) (by simp at hx;assumption) (by simp at hy;assumption);refine⟨rfl,ay (oP ?_)⟩;exact⟨l,us,_,.ref lr,rfl,rfl,SqL.of h1,bG h2,lr,_,_,_,rfl,rfl,SqL.of h3,bG h4,q' _ H (ah.refl H) (.col _)⟩
  ·have e2:2^(k+1)=2^k+2^k:=by rw[JG];lia
   have p0:0<2^k:=Nat.pow_pos (by decide);rw[e2]at hx hy;refine⟨rfl,ay (ci (fun c=>?_) (fun _=>?_))⟩
   ·have c':((2^(k+1):Nat):Int)=1:=V.int.inj (IZ c);rw[e2]at c';omega
   refine⟨eP (by decide) (by decide),?_⟩
   try dsimp only
   rw[show ((2^(k+1):Nat):Int)/2=((2^k:Nat):Int) by rw[e2];lia];generalize eK:2^k=h2 at *;have step:∀j:Nat,j<4->(x:Int)+((j:Int)%2)*(h2:Int)=((x+j%2*h2:Nat):Int)/\(y:Int)+((j:Int)/2)*(h2:Int)=((y+j/2*h2:Nat):Int):=fun j hj=>by
    rcases j with _|_|_|_|j
    ·simp
    ·simp
    ·simp
    ·simp
    ·simp
   refine⟨[.ref l,.int (h2:Int),.int (x:Int),.int (y:Int)],rfl,_,rfl,by decide,by decide,ou (fun D j ys H'=>ah H H'/\H' D=some (.lst ys)/\j<=4/\ys.length=j/\∀i u,ys[i]? = some u->cM H' u (trR (cR O) k (x+i%2*h2) (y+i/2*h2))) (leZ rfl) (fun D j ys H' h=>⟨h.2.1,by rw[h.2.2.2.1];exact Iw _⟩) (fun D hD=>⟨ah.new hD _,ag,by decide,rfl,fun i y hy=>by simp at hy⟩) ?_ ?_ (fun _ _ _ _ _ k h=>k _ _ h) ?_⟩
   ·rintro D j ys H' hj hD ⟨s1,s2,s3,s4,s5⟩;rw[show (0:Int)+(j:Int)=(j:Int) from JO _];obtain⟨e3,e4⟩:=step j hj;have bj:j%2*h2+h2<=h2+h2/\j/2*h2+h2<=h2+h2:=by
     have b7:j<4:=hj;rcases j with _ | _ | _ | _ | j
     ·simp
     ·simp
     ·simp
     ·simp
     ·lia
    refine⟨rfl,(by show (0:Int)<2;decide),.inl ⟨by lia,by lia⟩,eP (by decide) (by decide),.inl ⟨by lia,by lia⟩,l,O,W,k,x+j%2*h2,y+j/2*h2,?_,hR.up s1,ok,by rw[eK];lia,by rw[eK];lia,hW,by lia,by lia,fun v' H2 t2 hv=>?_⟩
    ·show [V.ref l,V.int ((x:Int)+(j:Int)%2*(h2:Int)),V.int ((y:Int)+(j:Int)/2*(h2:Int)),V.int (h2:Int)]=_;rw[e3,e4,eK]
    have uD:=t2 _ _ s2;have tl:=bn.lst (ys:=ys++[v']) uD;refine⟨uD,ah.set (s1.trans t2) hD _,ag,hj,by rw[Iy,s4];rfl,fun i z hz=>?_⟩;rcases JV i ys.length with hi | hi
    ·rw[Jj hi]at hz;exact (s5 i z hz).up (t2.tups.trans tl)
    ·rw[Js hi]at hz;have h0:i-ys.length=0:=by
      rcases h:i-ys.length with _|k
      ·rfl
      ·rw[h]at hz;simp at hz
     rw[h0]at hz;have ei:i=j:=by lia
     rw[<-Option.some.inj hz,ei];exact hv.up tl
   ·rintro D ys H' hD ⟨s1,s2,s3,s4,s5⟩;have s4':ys.length=4:=s4;obtain⟨B,y1,y2,y3,rfl⟩:∃B y1 y2 y3,ys=[B,y1,y2,y3]:=by
     match ys,s4' with
     | [B,y1,y2,y3],_=>exact⟨B,y1,y2,y3,rfl⟩
    have ja:=s5 0 _ rfl;have jb:=s5 1 _ rfl;have jc:=s5 2 _ rfl;have jd:=s5 3 _ rfl;simp only[Nat.reduceMod,Nat.reduceDiv,L0,LL,Lu]at ja jb jc jd;have dp:∀x y,(trR (cR O) k x y).deep<=60:=fun x y=>IU (bc.deep (iE (Fd ok) k x y)) (by lia);have q2:∀v a0,ah H a0->cM a0 v (oR (trR (cR O) k x y) (trR (cR O) k (x+h2) y) (trR (cR O) k x (y+h2)) (trR (cR O) k (x+h2) (y+h2)))->Q v a0:=fun v a0 s hv=>q' v a0 s (by rw[<-eK]at hv;exact hv);have da:=dp x y;have db:=dp (x+h2) y;have dc:=dp x (y+h2);have dd:=dp (x+h2) (y+h2)
    clear s5 q' dp
    generalize trR (cR O) k x y=ta at *;generalize trR (cR O) k (x+h2) y=tb at *;generalize trR (cR O) k x (y+h2)=tc at *;generalize trR (cR O) k (x+h2) (y+h2)=td at *;have f4:4<=sizeLine:=by decide
    have fin:∀H2,ah H' H2->oR ta tb tc td=.four ta tb tc td->∀p,H2 p=none->Q (.ref p) (upd H2 p (.tup [B,y1,y2,y3])):=fun H2 a7 hg p hp=>by
     have sn:=ah.new hp (.tup [B,y1,y2,y3]);refine q2 _ _ ((s1.trans a7).trans sn) ?_;rw[hg];have Y:=(a7.trans sn).tups;exact .four ag (ja.up Y) (jb.up Y) (jc.up Y) (jd.up Y)
    have no:¬ (ta.isCol=true/\tb=ta/\tc=ta/\td=ta)->oR ta tb tc td=.four ta tb tc td:=fun h=>by
     unfold oR;rw[if_neg (fun z=>h (v9.mp z))]
    have ty:=ja.ty (K:=K);cases hta:ta.isCol with
    |false=>
     rw[hta]at ty;refine⟨D,_,_,B,rfl,rfl,SqL.of s2,rfl,_,_,_,rfl,ty,j5,ay (dv (dv ?_))⟩;exact⟨D,_,_,B,rfl,rfl,SqL.of s2,rfl,D,_,_,y1,rfl,rfl,SqL.of s2,rfl,D,_,_,y2,rfl,rfl,SqL.of s2,rfl,D,_,_,y3,rfl,rfl,SqL.of s2,rfl,f4,fin H' (ah.refl _) (no fun z=>by rw[hta]at z;cases z.1)⟩
    |true=>
     rw[hta]at ty;refine⟨D,_,_,B,rfl,rfl,SqL.of s2,rfl,_,_,_,rfl,ty,qK,ay (oP ?_)⟩;refine⟨D,_,_,B,rfl,rfl,SqL.of s2,rfl,(leZ rfl),fun l1 a9=>?_⟩;have n1:=ah.new a9 (.lst [B]);have u1:upd H' l1 (.lst [B]) l1=some (.lst [B]):=ag;generalize upd H' l1 (.lst [B])=H1 at *;refine⟨l1,4,[B],rfl,rfl,u1,by decide,by decide,(by show 1*4<=sizeLine;decide),fun l2 b0=>?_⟩;have n2:=n1.trans (ah.new b0 (.lst [B,B,B,B]));have u2:upd H1 l2 (.lst [B,B,B,B]) l2=some (.lst [B,B,B,B]):=ag;show FB false (.ref D) (.ref l2) (upd H1 l2 (.lst [B,B,B,B])) _;generalize upd H1 l2 (.lst [B,B,B,B])=H2 at *;have Y:=n2.tups;have sD:=n2 _ _ s2;have sh:∀{a b c d:Tr},a.deep<=60->b.deep<=60->c.deep<=60->d.deep<=60->SeqAt.shaped (.list [a.data,b.data,c.data,d.data])=true:=fun {a b c d} ha hb hc hd=>by
      have:=Tr.shaped (t:=.four a b c d) (by show max a.deep (max b.deep (max c.deep d.deep))+1<=64;lia)
      exact this
     refine⟨.list [ta.data,tb.data,tc.data,td.data],.list [ta.data,ta.data,ta.data,ta.data],.lst sD (.cons (ja.up Y).dat (.cons (jb.up Y).dat (.cons (jc.up Y).dat (.cons (jd.up Y).dat .nil)))),.lst u2 (.cons (ja.up Y).dat (.cons (ja.up Y).dat (.cons (ja.up Y).dat (.cons (ja.up Y).dat .nil)))),sh da db dc dd,sh da da da da,ay ?_⟩;have ev:PyData.eqv (.list [ta.data,tb.data,tc.data,td.data]) (.list [ta.data,ta.data,ta.data,ta.data])=(decide (tb=ta)&&(decide (tc=ta)&&decide (td=ta))):=by
      have e:=Tr.eqv (.four ta tb tc td) (.four ta ta ta ta);have e':PyData.eqv (.list [ta.data,tb.data,tc.data,td.data]) (.list [ta.data,ta.data,ta.data,ta.data])=decide (Tr.four ta tb tc td=.four ta ta ta ta):=e;rw[e',JH];simp
     show if PyData.eqv (.list [ta.data,tb.data,tc.data,td.data]) (.list [ta.data,ta.data,ta.data,ta.data])=true then _ else _
     rw[ev];refine ci (fun z=>?_) (fun z=>?_)
     ·rw[JC,JC,Jd,Jd,Jd]at z;refine⟨D,_,_,B,rfl,rfl,SqL.of sD,rfl,q2 _ _ (s1.trans n2) ?_⟩;unfold oR;rw[if_pos (v9.mpr ⟨hta,z.1,z.2.1,z.2.2⟩)];exact ja.up Y
     ·refine⟨D,_,_,B,rfl,rfl,SqL.of sD,rfl,D,_,_,y1,rfl,rfl,SqL.of sD,rfl,D,_,_,y2,rfl,rfl,SqL.of sD,rfl,D,_,_,y3,rfl,rfl,SqL.of sD,rfl,f4,fin H2 n2 (no fun z'=>z ?_)⟩;rw[JC,JC,Jd,Jd,Jd];exact⟨z'.2.1,z'.2.2.1,z'.2.2.2⟩
   ·intro σ H' R R' k h;obtain⟨_,v1,G⟩:=aO h;obtain⟨_,v2,G⟩:=aO G;obtain⟨_,v3,G⟩:=aO G;obtain⟨_,_,a1,b1,c1,G⟩:=cF G;obtain⟨_,v4,G⟩:=aO G;obtain⟨_,_,a2,b2,c2,G⟩:=cF G;obtain⟨_,_,a3,b3,G⟩:=cF G;obtain⟨_,v5,G⟩:=aO G;obtain⟨_,v6,G⟩:=aO G;obtain⟨_,_,a4,b4,c4,G⟩:=cF G;obtain⟨_,v7,G⟩:=aO G;obtain⟨_,_,a5,b5,c5,G⟩:=cF G;obtain⟨_,_,a6,b6,G⟩:=cF G;obtain⟨_,v8,G⟩:=aO G;obtain⟨l0,r0,W0,k0,xx,yy,f1,f2,f3,f4,f5,f6,f7,f8,h⟩:=G;exact aW v1 (aW v2 (aW v3 (fi a1 b1 ⟨c1,aW v4 (fi a2 b2 ⟨c2,fi a3 b3 (aW v5 (aW v6 (fi a4 b4 ⟨c4,aW v7 (fi a5 b5 ⟨c5,fi a6 b6 (aW v8 ⟨l0,r0,W0,k0,xx,yy,f1,f2,f3,f4,f5,f6,f7,f8,fun v H2 s hv=>k _ _ (h v H2 s hv)⟩)⟩)⟩)))⟩)⟩)))
end
theorem H_ {d:Nat}(h:d<4):(!(Builtin.Str.occurrences ("13" : Str) (one d) 0 ("13" : Str).length 1).isEmpty)=decide (d%2=1) :=
 four (P:=fun d=>(!(Builtin.Str.occurrences ("13" : Str) (one d) 0 ("13" : Str).length 1).isEmpty)=decide (d%2=1)) (by decide +kernel) (by decide +kernel) (by decide +kernel) (by decide +kernel) h
theorem HZ {d:Nat}(h:d<4):(!(Builtin.Str.occurrences ("23" : Str) (one d) 0 ("23" : Str).length 1).isEmpty)=decide (d/2=1) :=
 four (P:=fun d=>(!(Builtin.Str.occurrences ("23" : Str) (one d) 0 ("23" : Str).length 1).isEmpty)=decide (d/2=1)) (by decide +kernel) (by decide +kernel) (by decide +kernel) (by decide +kernel) h
theorem Dy (n:Nat):(1:Int)*2^((n:Int)).toNat=((2^n:Nat):Int):=by rw[Jn];simp
theorem zB {e:Nat}(h:e<2):(if decide (e=1)=true then (1:Int) else 0)=(e:Int):=by
 rcases e with _|_|e
 ·rfl
 ·rfl
 ·lia
theorem AY (ds:List Nat)(d:Nat):txt ds++one d=txt (ds++[d]):=by
 apply l_
 show ((ds.map (48 + ·)).toArray ++ #[48+d]).toList=((ds++[d]).map (48 + ·)).toArray.toList;simp
def gH (X Y w:Nat):List Pt:=(List.range (w*w)).map fun k=>(((X+k%w:Nat):Int),((Y+k/w:Nat):Int))
section
abbrev iq:Stmt:=top 51
theorem c9:aE ["_law_x","_law_y","_law_level","_law_code","_law_k","_law_bit"] ["_law_x","_law_y","_law_level"] (aq iq):={}
inductive jA  (vs:List V)(H:Hp)(Q:VK):Prop
 |mk (x y n:Nat) (h_0:vs=[.int (x:Int),.int (y:Int),.int (n:Int)]) (h_1:n<=3) (h_2:Q (.str (txt (low n x y))) H):jA  vs H Q
def jG:Sp:=fun vs H Q _=>jA  vs H Q
theorem qz (T:Tx K mg)(F:bD K "_law_code_at" "_law_code_at" iq f fd .none):bB P w K mg base CX 1 f fd ["_law_x","_law_y","_law_level"] jG:=by
 refine F.ok c9 (fun vs H Q E h=>?_) (fun J A outer s H vs Q E hr h=>?_)
 ·obtain⟨_,_,_,rfl,_⟩:=h;rfl
 obtain⟨x,y,n,rfl,hn,O⟩:=h;refine⟨_,(ab (au (i:=3) c9 i_) (ab (aN II rfl (bx rfl T.b_range (aa (pv 2) ae)) (aP (i:=4) c9) (ab (au (i:=5) c9 (aj cT (aj cT (pv 2) ac) (pv 4))) (af (au (i:=3) c9 (aj fh (pv 3) (aD qL i_ (aj aK (aj B3 (aj BW (pv 0) (pv 5)) ac) (aj cH ac (aj B3 (aj BW (pv 1) (pv 5)) ac))))))))) (af (aB (pv 3))))),?_⟩;refine⟨_,rfl,by simp,by lia,bV (fun j σ H2=>H2=H/\∃(z:Str) (B G:OW9),z=txt ((low n x y).take j)/\σ=[some (.int (x:Int)),some (.int (y:Int)),some (.int (n:Int)),some (.str z),B,G]) ⟨rfl,_,none,none,rfl,rfl⟩ ?_ ?_⟩
 rotate_left
 ·rintro σ H2 ⟨rfl,z,B,G,rfl,rfl⟩
  try dsimp only
  refine (gW ?_);rw[show (low n x y).take (n:Int).toNat=low n x y by rw[Jn];exact IS (by rw[jg];exact Iw _)];exact O
 rintro j σ H2 hj ⟨rfl,z,B,G,rfl,rfl⟩;have hj':j<n:=by assumption
 rw[show (0:Int)+(j:Int)=(j:Int) from JO _]
 try dsimp only
 refine (gW (cU (gW (cU ?_))))
 try dsimp only
 rw[show (n:Int)-1-(j:Int)=((n-1-j:Nat):Int) by omega];refine⟨(by show (0:Int)<=_;simp),cU ?_⟩
 try dsimp only
 rw[q_];refine⟨(by show (0:Int)<=_;simp),cU ?_⟩
 try dsimp only
 rw[q_];have b1:bit x (n-1-j)<2:=KM _ (by decide);have b2:bit y (n-1-j)<2:=KM _ (by decide);refine⟨.inl ⟨by decide,by decide⟩,cU ?_⟩;have Y:((bit x (n-1-j):Nat):Int)+2*((bit y (n-1-j):Nat):Int)=((dgt x y (n-1-j):Nat):Int):=by unfold dgt bit;rfl
 try dsimp only
 have lz:(txt ((low n x y).take j)).length=j:=by rw[fj,Jl,jg];lia
 refine⟨_,_,48+dgt x y (n-1-j),rfl,rfl,G5,by rw[Y];exact Ij (uO ..),_,_,rfl,rfl,(by show (txt ((low n x y).take j)).length+1<=sizeLine;exact small (by lia)),rfl,_,_,_,?_,rfl⟩;have hl:j<(low n x y).length:=by rw[jg];exact hj'
 rw[Kl,IE hl];have e3:(low n x y)[j]=dgt x y (n-1-j):=by simp[low]
 rw[e3];exact AY _ _
abbrev fJ:Stmt:=top 52
theorem bK:aE ["_law_code","_law_level","_law_x","_law_y","_law_sign","_law_wide"] ["_law_code","_law_level"] (aq fJ):={}
inductive ig  (vs:List V)(H:Hp)(Q:VK):Prop
 |mk (z:Str) (n:Nat) (h_0:vs=[.str z,.int (n:Int)]) (h_1:IsC z) (h_2:z.length<=n) (h_3:n<=3) (h_4:∀D us H',ah H H'->H D=none->H' D=some (.lst us)->dB H' us (gH (cxs (dig z)*2^(n-z.length)) (cys (dig z)*2^(n-z.length)) (2^(n-z.length)))->Q (.ref D) H'):ig  vs H Q
def iJ:Sp:=fun vs H Q _=>ig  vs H Q
theorem nK (T:Tx K mg)(F:bD K "_law_places_of" "_law_places_of" fJ f fd .none):bB P w K mg base CX 1 f fd ["_law_code","_law_level"] iJ:=by
 refine F.ok bK (fun vs H Q E h=>?_) (fun a0 A outer s H vs Q E hr h=>?_)
 ·obtain⟨_,_,rfl,_⟩:=h;rfl
 obtain⟨z,n,rfl,hz,lz,hn,q'⟩:=h;refine⟨_,(ab (jR (i:=2) bK.nd rfl (Or.inr rfl) ac) (ab (jR (i:=3) bK.nd rfl (Or.inr rfl) ac) (ab (aN II rfl (tT (pv 0)) (aP (i:=4) bK) (ab (jR (i:=2) bK.nd rfl (Or.inr rfl) (aj aK (aj cH ac (pv 2)) (cq n6 rfl T.b_int fL (aa (hE kq (pv 4) i_ (by with_unfolding_all rfl)) ae)))) (af (jR (i:=3) bK.nd rfl (Or.inr rfl) (aj aK (aj cH ac (pv 3)) (cq n6 rfl T.b_int fL (aa (hE kq (pv 4) i_ (by with_unfolding_all rfl)) ae))))))) (ab (jR (i:=5) bK.nd rfl (Or.inr rfl) (aj BX ac (aj cT (pv 1) (av aY rfl T.b_len bN (aa (pv 0) ae))))) (af (aB (jU (N':=["_law_k","_law_x","_law_wide","_law_y"]) ["_law_y","_law_x","_law_wide"] ["_law_x","_law_wide","_law_y"] [2,5,3] 1 {} (bx rfl T.b_range (aa (aj cH (pv 5) (pv 5)) ae)) (fun _ _ _ _ _=>(oi (i:=0))) (fun _ _ _ _ _=>(az (am (aj aK (aj cH (pv 1) (pv 2)) (aj bF (pv 0) (pv 2))) (am (aj aK (aj cH (pv 3) (pv 2)) (aj bI (pv 0) (pv 2))) ak))))))))))),?_⟩
 refine⟨z,rfl,pG (fun i σ H2=>H2=H/\∃(X Y:Int) (o4:OW9),X=((cxs ((dig z).take i):Nat):Int)/\Y=((cys ((dig z).take i):Nat):Int)/\σ=[some (.str z),some (.int (n:Int)),some (.int X),some (.int Y),o4,none]) ⟨rfl,0,0,none,rfl,rfl,rfl⟩ ?_ ?_⟩
 ·rintro i σ H2 hi ⟨rfl,X,Y,o4,rfl,rfl,rfl⟩;obtain⟨d,hd,e1,e2⟩:=mr hz hi;refine⟨.inl ⟨by decide,by decide⟩,_,_,rfl,rfl,.inr ⟨_,rfl,?_⟩⟩;refine⟨.inl ⟨by decide,by decide⟩,_,_,rfl,rfl,.inr ⟨_,rfl,rfl,_,_,_,?_,?_,rfl⟩⟩
  ·rw[mW hi,e2,qV,e1,H_ hd,zB (KM _ (by decide))]
   lia
  ·rw[mW hi,e2,qU,e1,HZ hd,zB (by lia)]
   lia
 ·rintro σ H2 ⟨rfl,X,Y,o4,rfl,rfl,rfl⟩;have ez:(dig z).take z.length=dig z:=IS (by rw[dO];exact Iw _);rw[ez];generalize cxs (dig z)=X at *;generalize cys (dig z)=Y at *;have J:2^(n-z.length)<=8:=IU (Kj (by decide) (show n-z.length<=3 by lia)) (by decide);have a7:0<2^(n-z.length):=Nat.pow_pos (by decide);refine⟨_,_,rfl,⟨small (by lia),rfl⟩,⟨by lia,by lia,by decide⟩,?_⟩
  try dsimp only
  rw[show (n:Int)-((z.length:Nat):Int)=((n-z.length:Nat):Int) by lia,Dy];generalize 2^(n-z.length)=B at *;have sq:B*B<=64:=IU (KF J J) (by decide);refine⟨[.int (X:Int),.int (B:Int),.int (Y:Int)],rfl,.inl ⟨by lia,by lia⟩,((B*B:Nat):Int),(by show [V.int ((B:Int)*(B:Int))]=[V.int ((B*B:Nat):Int)];rw[JS]),by lia,by lia,ou (fun D j ys H'=>ah H2 H'/\H' D=some (.lst ys)/\dB H' ys ((List.range j).map fun k=>(((X*B+k%B:Nat):Int),((Y*B+k/B:Nat):Int)))) (by rw[Jn];exact small (by lia)) (fun D j ys H' h=>⟨h.2.1,by have:=Paired.length h.2.2;rw[Iq,J_]at this;lia⟩) (fun D O=>⟨ah.new O _,ag,.nil⟩) ?_ ?_ (fun _ _ _ _ _ k h=>k _ _ h) ?_⟩
  ·rintro D j ys H' hj O ⟨s1,s2,s3⟩;rw[Jn]at hj;rw[show (0:Int)+(j:Int)=(j:Int) from JO _];refine⟨rfl,.inr ⟨by lia,by lia⟩,(by show (0:Int)<(B:Int);lia),.inr ⟨by lia,by lia⟩,eP (by lia) (by lia),(leZ rfl),fun p hp=>?_⟩
   try dsimp only
   rw[show (X:Int)*(B:Int)+(j:Int)%(B:Int)=((X*B+j%B:Nat):Int) by rw[Ky,JS];rfl,show (Y:Int)*(B:Int)+(j:Int)/(B:Int)=((Y*B+j/B:Nat):Int) by rw[Ky,JS];rfl];have sn:=ah.new hp (.tup [.int ((X*B+j%B:Nat):Int),.int ((Y*B+j/B:Nat):Int)]);have up:upd H' p (.tup [.int ((X*B+j%B:Nat):Int),.int ((Y*B+j/B:Nat):Int)]) p=some (.tup [.int ((X*B+j%B:Nat):Int),.int ((Y*B+j/B:Nat):Int)]):=ag;generalize upd H' p (.tup [.int ((X*B+j%B:Nat):Int),.int ((Y*B+j/B:Nat):Int)])=H3 at *;have uD:=sn _ _ s2;have tl:=bn.lst (ys:=ys++[.ref p]) uD;refine⟨uD,ah.set (s1.trans sn) O _,ag,?_⟩;rw[JQ,IT];exact Paired.snoc (s3.up (sn.tups.trans tl)) ⟨p,rfl,tl _ _ up⟩
  ·rintro D ys H' O ⟨s1,s2,s3⟩;rw[Jn]at s3;exact q' D ys H' s1 O s2 s3
  ·intro σ H' R R' k h;obtain⟨_,v1,G⟩:=aO h;obtain⟨_,v2,G⟩:=aO G;obtain⟨_,_,a1,b1,c1,G⟩:=cF G;obtain⟨_,v3,G⟩:=aO G;obtain⟨_,v4,G⟩:=aO G;obtain⟨_,_,a2,b2,c2,G⟩:=cF G;obtain⟨_,_,a3,b3,G⟩:=cF G;obtain⟨_,v5,G⟩:=aO G;obtain⟨_,v6,G⟩:=aO G;obtain⟨_,_,a4,b4,c4,G⟩:=cF G;obtain⟨_,v7,G⟩:=aO G;obtain⟨_,v8,G⟩:=aO G;obtain⟨_,_,a5,b5,c5,G⟩:=cF G;obtain⟨_,_,a6,b6,hl,h⟩:=cF G;exact aW v1 (aW v2 (fi a1 b1 ⟨c1,aW v3 (aW v4 (fi a2 b2 ⟨c2,fi a3 b3 (aW v5 (aW v6 (fi a4 b4 ⟨c4,aW v7 (aW v8 (fi a5 b5 ⟨c5,fi a6 b6 ⟨hl,fun p hp=>k _ _ (h p hp)⟩⟩))⟩)))⟩))⟩))
end
def pR (rws:List (List Int))(p:Pt):Int:=cR rws p.1.toNat p.2.toNat
def ldK (PL:List Pt):List (List Key×V):=PL.map fun p=>(inn p,V.bl true)
theorem hV (B:List Pt):(ldK B).length=B.length:=Iq ..
theorem mO (B:List Pt)(p:Pt):(bo (ldK B) (inn p)).isSome=decide (p∈B):=by
 rw[<-gf,JH,LU,Jd];constructor
 ·rintro⟨G,h,e⟩;obtain⟨J,h',rfl⟩:=Iv.mp h;rw[<-pC (IZ e)];exact h'
 ·intro h;exact⟨_,Iv.mpr ⟨p,h,rfl⟩,IC rfl⟩
theorem xS (c:¬ (!(bo (ldK PL) (inn p)).isSome)=true):p∈PL:=by
 rw[mO]at c;by_cases e:p∈PL
 ·exact e
 ·exact absurd (by rw[Jh e];rfl) c
theorem uB (c:(!(bo (ldK PL) (inn p)).isSome)=true):p∉PL:=fun h=>by
 rw[mO,IC h]at c;cases c
theorem yX (h:p∉PL):dY (ldK PL) (inn p) (.bl true)=ldK (PL++[p]):=by
 have e:bo (ldK PL) (inn p)=none:=by
  cases q:bo (ldK PL) (inn p) with
  |none=>rfl
  |some v=>
   have:=mO PL p
   rw[q,Jh h]at this;cases this
 rw[my _ e];unfold ldK;rw[IT];rfl
structure FlI (W:Int)(R:Pt->Int)(s:Pt)(i:Nat)(PL:List Pt):Prop where
 nd:PL.Nodup
 first:s∈PL
 rch:∀p∈PL,Rch W R s p
 cls:∀j p,j<i->PL[j]? = some p->∀d,d<4->Ins W (go p 1 d)->R (go p 1 d)=R p->go p 1 d∈PL
section
theorem FlI.add (h:FlI W R s i PL)(hi:i<=PL.length)(J:p∉PL)(O:Rch W R s p):FlI W R s i (PL++[p]):=by
 refine⟨pi h.nd J,Ja _ h.first,fun q B=>?_,fun j q hj B d Y G hc=>Ja _ (h.cls j q hj ?_ d Y G hc)⟩
 ·rcases Iz.mp B with B|B
  ·exact h.rch q B
  ·rw[Iu.mp B];exact O
 ·rw[Jj (by lia)]at B;exact B
theorem FlI.fin (h:FlI W R s PL.length PL)(p:Pt):p∈PL↔Rch W R s p:=by
 refine⟨h.rch p,fun G=>G (· ∈ PL) h.first fun q d J O B Y=>?_⟩;obtain⟨j,hj⟩:=Je J;exact h.cls j q (Ix.mp hj).1 hj d O B Y
end
theorem HW (h:Ins 8 p):p∈gH 0 0 8:=by
 obtain⟨h1,h2,B,G⟩:=h;refine Iv.mpr ⟨p.2.toNat*8+p.1.toNat,Jm.mpr (by lia),?_⟩;exact Prod.ext (by show ((0+(p.2.toNat*8+p.1.toNat)%8:Nat):Int)=p.1;lia) (by show ((0+(p.2.toNat*8+p.1.toNat)/8:Nat):Int)=p.2;omega)
theorem xz {B:List Pt}{W:Int}(J:W<=8)(nd:B.Nodup)(h:∀p∈B,Ins W p):B.length<=64:=by
 have:=dt (S:=gH 0 0 8) nd fun p G=>HW (by have:=h p G;unfold Ins at *;lia)
 have e:(gH 0 0 8).length=64:=by unfold gH;rw[Iq,J_]
 assumption
theorem Hm (p:Pt):go p 1 3=(p.1,p.2-1)/\go p 1 0=(p.1+1,p.2)/\go p 1 1=(p.1,p.2+1)/\go p 1 2=(p.1-1,p.2):=by
 refine⟨?_,?_,?_,?_⟩<;>refine Prod.ext ?_ ?_<;>simp[go,ux,uy]<;>lia
def wv:Nat->Nat | 0=>3 | 1=>0 | 2=>1 | _=>2
theorem Fj (h:d<4):∃j,j<4/\wv j=d:=by
 rcases dk h with rfl|rfl|rfl|rfl
 ·exact⟨1,by decide,rfl⟩
 ·exact⟨2,by decide,rfl⟩
 ·exact⟨3,by decide,rfl⟩
 ·exact⟨0,by decide,rfl⟩
section
abbrev jP:Stmt:=top 53
theorem b0:aE ["_law_rows","_law_x","_law_y","_law_land","_law_waiting","_law_at_here","_law_place","_law_inside"] ["_law_rows","_law_x","_law_y"] (aq jP):={}
inductive kU  (vs:List V)(H:Hp)(Q:VK):Prop
 |mk (l:Addr) (rws:List (List Int)) (W x y:Nat) (h_0:vs=[.ref l,.int (x:Int),.int (y:Int)]) (h_1:ve H l rws) (h_2:AL W rws) (h_3:W<=8) (h_4:x<W) (h_5:y<W) (h_6:∀d ob PL H',ah H H'->H d=none->H' d=some (.frz ob (.dT (ldK PL)))->PL.Nodup->(∀p,p∈PL↔Rch (W:Int) (pR rws) ((x:Int),(y:Int)) p)->PL.length<=64->Q (.ref d) H'):kU  vs H Q
def mo:Sp:=fun vs H Q _=>kU  vs H Q
theorem ue (T:Tx K mg)(F:bD K "_law_flood" "_law_flood" jP f fd .none):bB P w K mg base CX 1 f fd ["_law_rows","_law_x","_law_y"] mo:=by
 refine F.ok b0 (fun vs H Q E h=>?_) (fun f8 A outer s H vs Q E hr h=>?_)
 ·obtain⟨_,_,_,_,_,rfl,_⟩:=h;rfl
 obtain⟨l,G,W,x,y,rfl,hR,ok,hW,hx,hy,q'⟩:=h;refine⟨_,(ab (au (i:=3) b0 (zX hr.units0 (az (am (pv 1) (am (pv 2) ak))) cX)) (ab (au (i:=4) b0 (bg (am (az (am (pv 1) (am (pv 2) ak))) ak))) (ab (au (i:=5) b0 ac) (ab (jQ II (aJ oj (pv 5) (av aY rfl T.b_len bN (aa (pv 4) ae))) (ab (xw (aD bh (pv 4) (pv 5)) (fK rfl (aX (aP (i:=1) b0) (aX (aP (i:=2) b0) dL)))) (ab (aN II rfl (bQ (bg (am (az (am (pv 1) (am (aj cT (pv 2) ac) ak))) (am (az (am (aj aK (pv 1) ac) (am (pv 2) ak))) (am (az (am (pv 1) (am (aj aK (pv 2) ac) ak))) (am (az (am (aj cT (pv 1) ac) (am (pv 2) ak))) ak)))))) (aP (i:=6) b0) (ab (jS (au (i:=7) b0 (qu (qt vZ oj ac (aD aI (pv 6) ac) (av aY rfl T.b_len bN (aa (pv 0) ae))) (qq (qt vZ oj ac (aD aI (pv 6) ac) (av aY rfl T.b_len bN (aa (pv 0) ae))))))) (af (aT (PW.pt (xv (bL (pv 7)) (xv (aJ (cS hr.dic) (pv 6) (pv 3) (by with_unfolding_all rfl)) (yF (aJ gJ (aD bh (aD bh (pv 0) (aD aI (pv 6) ac)) (aD aI (pv 6) ac)) (aD bh (aD bh (pv 0) (pv 2)) (pv 1))))))) (ab (dZ hr.dic (pv 3) (pv 6) cX (cG rfl)) (af (ba (bH (pv 4) (aa (pv 6) ae))))) aF)))) (af (au (i:=5) b0 (aj aK (pv 5) ac)))))) (af (aB (BO (pv 3)))))))),?_⟩;obtain⟨s0,b4⟩:∃s0:Pt,s0=((x:Int),(y:Int)):=⟨_,rfl⟩;have c5:Ins (W:Int) s0:=by rw[b4];unfold Ins;dsimp only;lia
 refine fun dl a9=>⟨(leZ rfl),fun pa c6=>⟨pa,inn s0,rfl,?_,?_,?_⟩⟩
 ·rw[aA (bM (a:=dl) (b:=pa) ag c6)];exact ag
 ·rw[ag,b4];rfl
 have e1:∃H1,H1=upd (upd (upd H dl (.dT [])) pa (.tup [.int (x:Int),.int (y:Int)])) dl (.dT [(inn s0,V.bl true)]):=⟨_,rfl⟩;obtain⟨H1,e1⟩:=e1;have s1:ah H H1:=by rw[e1];exact ah.set ((ah.new a9 _).trans (ah.new c6 _)) a9 _
 have d1:H1 dl=some (.dT (ldK [s0])):=by rw[e1,ag];rfl
 rw[<-e1];refine⟨(leZ rfl),nw fun pb H2 f9 s2 w2=>?_⟩;refine⟨(leZ rfl),nw fun lw H3 e7 s3 w3=>?_⟩;have e8:H lw=none:=(s1.trans s2).free e7;have e9:=(s1.trans s2).trans s3
 let I:NS9:=fun i σ H4=>∃(PL:List Pt) (us:List V) (X Y:Int) (o6 o7:OW9),ah H H4/\H4 dl=some (.dT (ldK PL))/\H4 lw=some (.lst us)/\dB H4 us PL/\FlI (W:Int) (pR G) s0 i PL/\i<=PL.length/\σ=[some (.ref l),some (.int X),some (.int Y),some (.ref dl),some (.ref lw),some (.int (i:Int)),o6,o7]
 refine⟨fun m σ H4=>∃i,m=65-i/\I i σ H4,⟨_,0,rfl,[s0],[.ref pb],_,_,none,none,e9,(s2.trans s3) _ _ d1,w3,.cons ⟨pb,rfl,by rw[b4];exact s3 _ _ w2⟩ .nil,⟨by simp,by simp,fun p hp=>by rw[Iu.mp hp];exact Rch.refl _,fun j p hj=>absurd hj (Kv _)⟩,IG _,rfl⟩,?_⟩;rintro m σ H4 ⟨i,rfl,PL,us,X,Y,o6,o7,s4,d4,u4,hP,fl,hi,rfl⟩;have lP:=Paired.length hP;have ins:∀p∈PL,Ins (W:Int) p:=fun p hp=>(Rch.in_ c5 (fl.rch p hp)).1;have f0:=xz (by lia) fl.nd ins;refine⟨_,_,rfl,.inl ⟨_,SqL.of u4,rfl⟩,cU (ay (ci (fun c=>?_) (fun c=>?_)))⟩
 rotate_left
 ·have c':¬ (i:Int)<(us.length:Int):=fun h=>c (IC h);have ei:i=PL.length:=by lia
  rw[ei]at fl;refine⟨dl,_,rfl,d4,fun ob=>?_⟩;exact q' dl ob PL _ (ah.set s4 a9 _) a9 ag fl.nd (fun p=>by rw[<-b4];exact fl.fin p) f0
 have c':(i:Int)<(us.length:Int):=IZ c;have f1:i<us.length:=by lia
 obtain⟨u,hu⟩:∃u,us[i]? = some u:=⟨us[i],IE f1⟩;obtain⟨p,ep,bp,rfl,f2⟩:=aM hP hu;have b5:=ins p (ID ep);refine⟨I (i+1),fun σ' H5 h=>⟨_,by lia,i+1,rfl,h⟩,?_⟩;refine⟨lw,us,_,_,rfl,rfl,SqL.of u4,bG hu,?_⟩;refine⟨bp,_,rfl,SqT.of f2,rfl,_,_,rfl,_,_,rfl,rfl,?_⟩;obtain⟨g3,g0,g1,g2⟩:=Hm p;refine⟨(leZ rfl),nw fun a0 A0 h0 t0 v0=>?_⟩;have v0:PtV A0 (.ref a0) (go p 1 3):=⟨a0,rfl,by rw[g3];exact v0⟩;refine⟨(leZ rfl),nw fun a1 A1 h1 t1 v1=>?_⟩;have v1:PtV A1 (.ref a1) (go p 1 0):=⟨a1,rfl,by rw[g0];exact v1⟩;refine⟨(leZ rfl),nw fun a2 A2 h2 t2 v2=>?_⟩;have v2:PtV A2 (.ref a2) (go p 1 1):=⟨a2,rfl,by rw[g1];exact v2⟩;refine⟨(leZ rfl),nw fun a3 A3 h3 t3 v3=>?_⟩;have v3:PtV A3 (.ref a3) (go p 1 2):=⟨a3,rfl,by rw[g2];exact v3⟩;refine⟨(leZ rfl),nw fun ll A4 f3 t4 w4=>?_⟩;have b7:=t3.trans t4;have c7:=t1.trans (t2.trans b7);have b6:=t0.trans c7;have four:∀j u,[V.ref a0,V.ref a1,V.ref a2,V.ref a3][j]? = some u->j<4/\PtV A4 u (go p 1 (wv j)):=fun j u hj=>by
  rcases j with _|_|_|_|j
  ·cases hj;exact⟨by decide,v0.up c7.tups⟩
  ·cases hj;exact⟨by decide,v1.up (t2.trans b7).tups⟩
  ·cases hj;exact⟨by decide,v2.up b7.tups⟩
  ·cases hj;exact⟨by decide,v3.up t4.tups⟩
  ·simp at hj
 clear v0 v1 v2 v3
 have c8:H4 ll=none:=((t0.trans t1).trans (t2.trans t3)).free f3;have c9:dl≠lw:=fun z=>by rw[z,u4]at d4;cases d4
 have kl:∀{H5:Hp},(∀b xs,b≠lw->A4 b=some (.lst xs)->H5 b=some (.lst xs))->H5 ll=some (.lst [.ref a0,.ref a1,.ref a2,.ref a3]):=fun h=>h ll _ (fun z=>by rw[z,u4]at c8;cases c8) w4
 let J:NS9:=fun j σ H5=>j<=4/\ah H H5/\bn A4 H5/\(∀b xs,b≠lw->A4 b=some (.lst xs)->H5 b=some (.lst xs))/\∃(B:List Pt) (O:List V) (o6 o7:OW9),H5 dl=some (.dT (ldK B))/\H5 lw=some (.lst O)/\dB H5 O B/\FlI (W:Int) (pR G) s0 i B/\i<B.length/\B[i]? = some p/\(∀m,m<j->Ins (W:Int) (go p 1 (wv m))->pR G (go p 1 (wv m))=pR G p->go p 1 (wv m)∈B)/\σ=[some (.ref l),some (.int p.1),some (.int p.2),some (.ref dl),some (.ref lw),some (.int (i:Int)),o6,o7]
 refine⟨ll,rfl,⟨_,SqL.of w4⟩,bJ (xs:=[.ref a0,.ref a1,.ref a2,.ref a3]) J
  ⟨IG _,s4.trans b6,fun _ _ e=>e,fun _ _ _ e=>e,PL,us,_,_,b6 _ _ d4,b6 _ _ u4,hP.up b6.tups,fl,by lia,ep,fun m hm=>absurd hm (Kv _),rfl⟩ (fun j σ H5 _ h=>SqL.of (kl h.2.2.2.1)) ?_ ?_⟩
 rotate_left
 ·rintro σ H5 ⟨_,s5,_,_,B,O,f4,f5,d5,u5,b1,a4,b2,b3,a7,rfl⟩;refine⟨B,O,_,_,_,_,s5,d5,u5,b1,⟨a4.nd,a4.first,a4.rch,fun j q hj hq d h4 a5 hc=>?_⟩,b2,rfl⟩;by_cases e:j=i
  ·rw[e,b3]at hq;cases hq;obtain⟨m,hm,rfl⟩:=Fj h4;exact a7 m hm a5 hc
  ·exact a4.cls j q (by lia) hq d h4 a5 hc
 rintro j u σ H5 f6 ⟨_,s5,b8,d0,B,O,f4,f5,d5,u5,b1,a4,b2,b3,a7,rfl⟩;obtain⟨hj,a,rfl,ha⟩:=four j u f6;have a6:=b8 _ _ ha;generalize b9:go p 1 (wv j)=g at *;have g4:=Paired.length b1;have g5:=xz (by lia) a4.nd fun p hp=>(Rch.in_ c5 (a4.rch p hp)).1;have c0:=hR.up s5;obtain⟨rs,d2,f7⟩:=id c0;have d3:rs.length=W:=by rw[Paired.length f7,ok.1]
 refine⟨fun σ' H'=>H'=H5/\∃b:Bool,(b=true↔Ins (W:Int) g)/\σ'=[some (.ref l),some (.int p.1),some (.int p.2),some (.ref dl),some (.ref lw),some (.int (i:Int)),some (.ref a),some (.bl b)],?_,?_⟩
 ·have d7:¬ (0<=g.1/\g.1<(W:Int))->(false=true↔Ins (W:Int) g):=fun h=>⟨fun z=>(by cases z),fun z=>absurd ⟨z.1,z.2.1⟩ h⟩;refine⟨a,_,_,_,rfl,rfl,SqT.of a6,rfl,_,rfl,ci (fun c1=>?_) (fun c1=>⟨_,rfl,dv ⟨rfl,false,d7 fun z=>c1 (IC z.1),rfl⟩⟩)⟩;have c1:(0:Int)<=g.1:=IZ c1;refine⟨_,_,rfl,.inl ⟨_,SqL.of d2,rfl⟩,_,rfl,ci (fun c2=>?_) (fun c2=>⟨rfl,false,d7 fun z=>c2 (IC (by rw[d3];exact z.2)),rfl⟩)⟩;have c2:g.1<((rs.length:Nat):Int):=IZ c2;refine⟨a,_,_,_,rfl,rfl,SqT.of a6,rfl,_,rfl,ci (fun c3=>?_) (fun c3=>⟨rfl,false,⟨fun z=>(by cases z),fun z=>absurd (IC z.2.2.1) c3⟩,rfl⟩)⟩;have c3:(0:Int)<=g.2:=IZ c3;refine⟨_,_,rfl,.inl ⟨_,SqL.of d2,rfl⟩,rfl,decide (g.2<((rs.length:Nat):Int)),?_,rfl⟩;rw[d3]at c2 ⊢;rw[Jd];exact⟨fun h=>⟨c1,c2,c3,h⟩,fun h=>h.2.2.2⟩
 rintro σ' H' ⟨rfl,b,hb,rfl⟩;have stay:(Ins (W:Int) g->pR G g=pR G p->g∈B)->J (j+1) [some (.ref l),some (.int p.1),some (.int p.2),some (.ref dl),some (.ref lw),some (.int (i:Int)),some (.ref a),some (.bl b)] H':=fun h=>⟨hj,s5,b8,d0,B,O,_,_,d5,u5,b1,a4,b2,b3,fun m hm a5 hc=>by
  by_cases e:m=j
  ·rw[e,b9]at a5 hc ⊢;exact h a5 hc
  ·exact a7 m (by lia) a5 hc,rfl⟩
 refine ci (fun c1=>?_) (fun c1=>dv (stay fun h=>absurd (hb.mpr h) c1));have a8:=hb.mp c1;refine⟨dl,_,rfl,dC.t (k:=inn g) d5 a6,ay (ci (fun c2=>?_) (fun c2=>dv (stay fun _ _=>?_)))⟩
 rotate_left
 ·exact xS c2
 have d8:=uB c2;obtain⟨gx,gy,d9,e0⟩:∃gx gy:Nat,g.1=(gx:Int)/\g.2=(gy:Int):=⟨g.1.toNat,g.2.toNat,by have:=a8.1;lia,by have:=a8.2.2.1;lia⟩;obtain⟨px,py,e2,e3⟩:∃px py:Nat,p.1=(px:Int)/\p.2=(py:Int):=⟨p.1.toNat,p.2.toNat,by have:=b5.1;lia,by have:=b5.2.2.1;lia⟩;have eg:pR G g=cR G gx gy:=by unfold pR;rw[d9,e0];rfl
 have e4:pR G p=cR G px py:=by unfold pR;rw[e2,e3];rfl
 obtain⟨r1,e5,q1,k1,_,k2,k3,k4⟩:=c0.get ok (x:=gx) (y:=gy) (by have:=a8.2.1;lia) (by have:=a8.2.2.2;lia);obtain⟨r2,e6,q2,m1,_,m2,m3,m4⟩:=c0.get ok (x:=px) (y:=py) (by have:=b5.2.1;lia) (by have:=b5.2.2.2;lia);refine⟨a,_,_,_,rfl,rfl,SqT.of a6,rfl,l,r1,_,.ref e5,rfl,rfl,SqL.of k1,by rw[e0];exact bG k2,a,_,_,_,rfl,rfl,SqT.of a6,rfl,e5,_,_,_,rfl,rfl,SqL.of k3,by rw[d9];exact bG k4,l,r2,_,.ref e6,rfl,rfl,SqL.of m1,by rw[e3];exact bG m2,e6,_,_,_,rfl,rfl,SqL.of m3,by rw[e2];exact bG m4,rfl,ay (ci (fun c3=>?_) (fun c3=>stay fun _ z=>absurd (IC (by rw[<-eg,<-e4,z])) c3))⟩;have c3:pR G g=pR G p:=by rw[eg,e4];exact V.int.inj (IZ c3)
 have rg:Rch (W:Int) (pR G) s0 g:=by
  rw[<-b9]at a8 c3 ⊢;exact Rch.cls s0 p (wv j) (a4.rch p (ID b3)) (by unfold wv;split<;>decide) a8 c3
 refine⟨dl,_,rfl,lV.t (k:=inn g) d5 a6 (IJ (by rw[hV];lia:_<1000) (by decide)),?_⟩;rw[yX d8];have t6:bn H' (upd H' dl (.dT (ldK (B++[g])))):=bE d5 (by intro xs z;cases z);have s6:ah H (upd H' dl (.dT (ldK (B++[g])))):=ah.set s5 a9 _;have u6:upd H' dl (.dT (ldK (B++[g]))) lw=some (.lst O):=by rw[aA c9.symm];exact u5
 have d6:upd H' dl (.dT (ldK (B++[g]))) dl=some (.dT (ldK (B++[g]))):=ag;have k6:∀b xs,H' b=some (.lst xs)->upd H' dl (.dT (ldK (B++[g]))) b=some (.lst xs):=fun b xs e=>by rw[aA fun z=>by rw[z,d5]at e;cases e];exact e
 generalize upd H' dl (.dT (ldK (B++[g])))=H6 at *;refine⟨.inl ⟨rfl,_,SqL.of u6⟩,lw,O,_,rfl,rfl,u6,cQ (by lia),?_⟩;have t7:bn H6 (upd H6 lw (.lst (O++[.ref a]))):=bE u6 (by intro xs z;cases z);have c4:=t6.trans t7;refine⟨hj,ah.set s6 e8 _,b8.trans c4,fun b xs hb e=>by rw[aA hb];exact k6 b xs (d0 b xs hb e),B++[g],O++[.ref a],_,_,by rw[aA c9];exact d6,ag,aR (b1.up c4) (.cons ⟨a,rfl,c4 _ _ a6⟩ .nil),a4.add (JW b2) d8 rg,by rw[Iy];lia,by rw[Jj b2];exact b3,fun m hm a5 hc=>?_,rfl⟩;by_cases e:m=j
 ·rw[e,b9];simp
 ·exact Ja _ (a7 m (by lia) a5 hc)
end
def lo (n:Nat)(p:Pt):List Nat:=low n p.1.toNat p.2.toNat
theorem xO (h:Ins ((2^n:Nat):Int) p)(h':Ins ((2^n:Nat):Int) p')(e:lo n p=lo n p'):p=p':=by
 have k:∀{p:Pt},Ins ((2^n:Nat):Int) p->p=(((cxs (lo n p):Nat):Int),((cys (lo n p):Nat):Int)):=fun {p} ⟨h1,h2,J,O⟩=>by
  have B:=uU (n:=n) (x:=p.1.toNat) (y:=p.2.toNat) (by lia) n (Iw _);have G:=uQ (n:=n) (x:=p.1.toNat) (y:=p.2.toNat) (by lia) n (Iw _);rw[IS (by rw[jg];exact Iw _),L1,Nat.pow_zero,Nat.div_one]at B G;unfold lo;rw[B,G,Kn h1,Kn J]
 rw[k h,k h',e]
def nG (W y x:Nat):List Pt:=(List.range x).map fun (k:Nat)=>((k:Int),(y:Int))
def eI (W y:Nat):List Pt:=(List.range y).flatMap fun k=>nG W k W
theorem fX:p∈eI W y↔0<=p.1/\p.1<(W:Int)/\0<=p.2/\p.2<(y:Int):=by
 unfold eI nG;simp only[KS,Jm,Iv];constructor
 ·rintro⟨k,B,j,hj,rfl⟩;dsimp only
  lia
 ·rintro⟨h1,h2,G,J⟩;exact⟨p.2.toNat,by lia,p.1.toNat,by lia,Prod.ext (by dsimp only;lia) (by dsimp only;lia)⟩
theorem lB (W y:Nat):eI W (y+1)=eI W y++nG W y W:=by
 unfold eI;rw[JQ,Jx];simp
theorem zQ (W y x:Nat):nG W y (x+1)=nG W y x++[((x:Int),(y:Int))]:=by
 unfold nG;rw[JQ,IT];rfl
theorem se (W:Nat):∀y,(eI W y).length=y*W
 |0=>by simp[eI]
 |y+1=>by
  rw[lB,Iy,se W y,Nat.succ_mul];simp[nG]
def ltZ (a b:Str):Prop:=a.cps.toList<b.cps.toList
theorem Fi:∀n:Nat,n<=3->((zo n 0 0).map fun p=>txt (lo n p)).Pairwise ltZ:=by
 have h:∀n:Nat,n<4->((zo n 0 0).map fun p=>(txt (lo n p)).cps.toList).Pairwise (· < ·):=by decide +kernel
 intro n B
 have:=h n (by lia)
 rw[Jc]at this ⊢;exact this
theorem pM:∀(k x y:Nat) (p:Pt),(x:Int)<=p.1->p.1<x+(2^k:Nat)->(y:Int)<=p.2->p.2<y+(2^k:Nat)->p∈zo k x y
 |0,x,y,p,h1,h2,h3,h4=>Iu.mpr (Prod.ext (by dsimp only;lia) (by dsimp only;lia))
 |k+1,x,y,p,h1,h2,h3,h4=>by
  have O:2^(k+1)=2^k+2^k:=by rw[JG];lia
  rw[O]at h2 h4;have A:=pM k x y p;have B:=pM k (x+2^k) y p;have C:=pM k x (y+2^k) p;have D:=pM k (x+2^k) (y+2^k) p;unfold zo;simp only[Iz];generalize 2^k=K at *;rcases Int.lt_or_le p.1 (x+K) with G | G<;>rcases Int.lt_or_le p.2 (y+K) with J | J
  ·exact .inl (A h1 G h3 J)
  ·exact .inr (.inr (.inl (C h1 G (by assumption) (by lia))))
  ·exact .inr (.inl (B (by assumption) (by lia) h3 J))
  ·exact .inr (.inr (.inr (D (by assumption) (by lia) (by assumption) (by lia))))
theorem AS (n:Nat)(p:Pt)(h:Ins ((2^n:Nat):Int) p):p∈zo n 0 0:=pM n 0 0 p (by have:=h.1;omega) (by have:=h.2.1;lia) (by have:=h.2.2.1;omega) (by have:=h.2.2.2;lia)
theorem AQ (h:p∈zo n 0 0):Ins ((2^n:Nat):Int) p:=by
 have:=AR n 0 0 p h
 unfold Ins;omega
theorem Dq {a b:Str}(h:a.cps.toList=b.cps.toList):a=b:=l_ h
theorem tG {n:Nat}(O:n<=3){G:List Str}(B:G.Perm ((eI (2^n) (2^n)).map fun p=>txt (lo n p)))(Y:G.Pairwise fun x y=>¬ y.cps.toList<x.cps.toList)(nd:((eI (2^n) (2^n)).map fun p=>txt (lo n p)).Nodup):G=(zo n 0 0).map fun p=>txt (lo n p):=by
 have J:G.Nodup:=B.nodup_iff.mpr nd;refine nr (R:=ltZ) (fun a b h k=>JP _ (List.lt_trans h k)) ?_ (Fi n O) fun x=>?_
 ·refine (Y.and J).imp fun {a b} ⟨h1,h2⟩=>?_;exact Classical.byContradiction fun h=>h2 (Dq (List.le_antisymm h1 h))
 ·rw[B.mem_iff,Iv,Iv];constructor
  ·rintro⟨p,B,rfl⟩
   have:=fX.mp B
   exact⟨p,AS n p ⟨this.1,this.2.1,this.2.2.1,this.2.2.2⟩,rfl⟩
  ·rintro⟨p,B,rfl⟩
   have:=AQ B
   exact⟨p,fX.mpr ⟨this.1,this.2.1,this.2.2.1,this.2.2.2⟩,rfl⟩
def hTab:List (Int×Int×Int):=[(0,0,-8458139203682520985),(1,0,-5164621852614943976),(2,0,4685526799349444076),(3,0,2248468952609198383),(4,0,-6348126469135965181),(5,0,-3054609118068388172),(6,0,-5491666964808633865),(7,0,4358481687155754187),(0,1,-1950498447580522560),(1,1,8389048192121911274),(2,1,6794810172467074373),(3,1,8756109708711196808),(4,1,159514286966033244),(5,1,3453031638033610253),(6,1,8062003079928221385),(7,1,-7580621630451799004),(0,2,7204814214171964562),(1,2,-3550055125485641917),(2,2,1901736143494378007),(3,2,3863035679738500442),(4,2,-9131917124991031250),(5,2,-5838399773923454241),(6,2,-3877100237679331806),(7,2,5973048414285056246),(0,3,-4734289103435588629),(1,3,-1440771752368011620),(2,3,8409376899596376432),(3,3,5972319052856130739),(4,3,-2624276368889032825),(5,3,669240982178544184),(6,3,2630540518422666619),(7,3,8082331787402686543),(0,4,1773351652666409796),(1,4,-6333845781340707986),(2,4,3516302870623680066),(3,4,1079245023883434373),(4,4,3883364387212965600),(5,4,-4223833046794152182),(6,4,-6660890893534397875),(7,4,3189257758429990177),(0,5,-3119722376306286570),(1,5,173794974761290439),(2,5,-8422800446983873125),(3,5,7586885779985432798),(4,5,-1009709641759730766),(5,5,2283807709307846243),(6,5,-153250137432399450),(7,5,-8749845559177563014),(0,6,-1010439003188656273),(1,6,-4719279054211405927),(2,6,-6313517073866242828),(3,6,-4352217537622120393),(4,6,1099573731357899531),(5,6,-7007623702649218251),(6,6,-5046324166405095816),(7,6,-2242204803075564589),(0,7,-5903513032161352639),(1,7,-2609995681093775630),(2,7,7240152970870612422),(3,7,4803095124130366729),(4,7,-3793500297614796835),(5,7,-499982946547219826),(6,7,1461316589696902609),(7,7,6913107858676922533)]
theorem Et:∀t∈hTab,Builtin.Tuple.tupleHashOf [t.1,t.2.1]=t.2.2:=by decide +kernel
theorem Es:∀t∈hTab,hashInt t.1=t.1/\hashInt t.2.1=t.2.1/\reduceHash t.2.2=t.2.2:=by decide +kernel
theorem Er:(hTab.map fun t=>t.2.2).Nodup:=by decide +kernel
theorem Ep:hTab.map (fun t=>(t.1,t.2.1))=(List.range 64).map fun a=>(((a%8:Nat):Int),((a/8:Nat):Int)):=by decide +kernel
theorem Gj (a:Nat)(B:a<64)(b:Nat)(hb:b<64)(h:reduceHash (Builtin.Tuple.tupleHashOf [hashInt ((a%8:Nat):Int),hashInt ((a/8:Nat):Int)])=reduceHash (Builtin.Tuple.tupleHashOf [hashInt ((b%8:Nat):Int),hashInt ((b/8:Nat):Int)])):a=b:=by
 have g:∀a:Nat,a<64->∃v,hTab[a]? = some (((a%8:Nat):Int),((a/8:Nat):Int),v)/\reduceHash (Builtin.Tuple.tupleHashOf [hashInt ((a%8:Nat):Int),hashInt ((a/8:Nat):Int)])=v:=fun a B=>by
  have e:=I_ (fun l=>l[a]?) Ep;rw[IM,IM,List.getElem?_range B]at e;obtain⟨t,G,J⟩:=IX.mp e;have O:=ID G;have Y:t.1=((a%8:Nat):Int):=I_ Prod.fst J;have e2:t.2.1=((a/8:Nat):Int):=I_ Prod.snd J;have h1:=Et t O;obtain⟨h2,h3,h4⟩:=Es t O;rw[Y]at h1 h2;rw[e2]at h1 h3;exact⟨t.2.2,by rw[G,<-Y,<-e2],by rw[h2,h3,h1,h4]⟩
 obtain⟨v,a1,a2⟩:=g a B;obtain⟨v',b1,b2⟩:=g b hb;have ev:v=v':=a2.symm.trans (h.trans b2);have a3:(hTab.map fun t=>t.2.2)[a]? = some v:=by rw[IM,a1];rfl
 have b3:(hTab.map fun t=>t.2.2)[b]? = some v:=by rw[IM,b1,ev];rfl
 exact (K8 (Ix.mp a3).1 Er).mp (a3.trans b3.symm)
theorem sH (p:Pt)(w:Wd9):om (inn p) w=reduceHash (Builtin.Tuple.tupleHashOf [hashInt p.1,hashInt p.2]):=by
 unfold om;rw[show (inn p).map (Gb w)=[hashInt p.1,hashInt p.2] from rfl]
theorem FZ {f:List Key->Int}{B:List Pt}(nd:B.Nodup)(inj:∀p∈B,∀G∈B,f (inn p)=f (inn G)->p=G):((ldK B).map fun l=>f l.1).Nodup:=by
 unfold ldK List.Nodup at *;rw[Jp,Jc];exact nd.imp_of_mem fun {p G} O J ne e=>ne (inj p O G J e)
theorem Eu {B:List Pt}(nd:B.Nodup)(h:∀p∈B,Ins 8 p)(w:Wd9):((ldK B).map fun l=>om l.1 w).Nodup:=by
 refine FZ (f:=fun k=>om k w) nd fun p O p' Y e=>?_;have nt:∀p∈B,∃a b:Nat,p=((a:Int),(b:Int))/\a<8/\b<8:=fun p O=>by
  obtain⟨a1,a2,a3,a4⟩:=h p O;exact⟨p.1.toNat,p.2.toNat,Prod.ext (Kn a1).symm (Kn a3).symm,by lia,by lia⟩
 have m:∀{a b:Nat},a<8->(b*8+a)%8=a/\(b*8+a)/8=b:=fun h=>by omega
 obtain⟨a,b,rfl,G,hb⟩:=nt p O;obtain⟨c,d,rfl,J,hd⟩:=nt p' Y;have e':om (inn _) w=om (inn _) w:=e;rw[sH,sH]at e'
 have:=Gj (b*8+a) (by lia) (d*8+c) (by lia) (by rw[(m G).1,(m G).2,(m J).1,(m J).2];exact e')
 have x:=(m (b:=b) G).1;have y:=(m (b:=b) G).2;rw[this]at x y;rw[<-x,<-y,(m J).1,(m J).2]
def FdV (W:Int)(R:Pt->Int)(H:Hp)(u:V)(s:Pt):Prop:=∃t d ob PL,u=.ref t/\H t=some (.tup [.int (R s),.ref d])/\H d=some (.frz ob (.dT (ldK PL)))/\PL.Nodup/\(∀p,p∈PL↔Rch W R s p)/\PL.length<=64/\Ins W s
theorem FdV.keep (h:FdV W R H u s)(h1:bn H H')(h2:∀b B kv,H b=some (.frz B (.dT kv))->H' b=some (.frz B (.dT kv))):FdV W R H' u s:=by
 obtain⟨t,d,B,G,e,a,b,J,O,Y,r4⟩:=h;exact⟨t,d,B,G,e,h1 _ _ a,h2 _ _ _ b,J,O,Y,r4⟩
def CdV (H:Hp)(n:Nat)(kv:Key×V)(p:Pt):Prop:=kv.1=ky (lo n p)/\PtV H kv.2 p
theorem Gx {H:Hp}{n:Nat}{kvs:LK9}{PS:List Pt}(h:Paired (CdV H n) kvs PS)(B:∀p∈PS,Ins ((2^n:Nat):Int) p){p:Pt}(G:p∈PS):∃v,bo kvs (ky (lo n p))=some v/\PtV H v p:=by
 induction h with
 |nil=>cases G
 | @cons kv p' kvs PS a _ ih=>
  by_cases e:kv.1=ky (lo n p)
  ·have:p'=p:=xO (B p' IF) (B p G) (lK (a.1.symm.trans e))
   rw[<-this];exact⟨kv.2,by rw[b_ a.1],a.2⟩
  ·rw[bR e];rcases IP.mp G with rfl | G
   ·exact absurd a.1 e
   ·exact ih (fun q J=>B q (IA _ J)) G
theorem EH {H:Hp}{n:Nat}{kvs:LK9}{PS:List Pt}(h:Paired (CdV H n) kvs PS)(B:∀p∈PS,Ins ((2^n:Nat):Int) p){p:Pt}(hi:Ins ((2^n:Nat):Int) p)(G:p∉PS):bo kvs (ky (lo n p))=none:=by
 induction h with
 |nil=>rfl
 | @cons kv p' kvs PS a _ ih=>
  rw[bR fun e=>G (by rw[<-xO (B p' IF) hi (lK (a.1.symm.trans e))];exact IF)];exact ih (fun q J=>B q (IA _ J)) fun q=>G (IA _ q)
theorem EI {H:Hp}{n:Nat}{kvs:LK9}{PS:List Pt}(h:Paired (CdV H n) kvs PS):kvs.map (·.1)=(PS.map fun p=>txt (lo n p)).map Sum.inr:=by
 induction h with
 |nil=>rfl
 |cons a _ ih=>rw[IR,IR,IR,ih,a.1]
noncomputable def tF (W:Nat)(rws:List (List Int))(n:Nat):List Pt:=(zo n 0 0).foldl (iX (W:Int) (pR rws)) []
theorem zd (e:H a=some u)(n:∀B G,u≠.frz B (.dT G)):∀b B G,H b=some (.frz B (.dT G))->upd H a o b=some (.frz B (.dT G)):=fun b B G h=>by
 rw[aA fun z=>by rw[z,e]at h;exact n B G (Option.some.inj h)];exact h
theorem AO:∀n:Nat,n<4->(zo n 0 0).length<=64:=by decide +kernel
theorem Ej (A B:List Pt):ldK A++ldK B=ldK (A++B):=IT.symm
theorem vJ (W:Nat):∀y,(eI W y).Nodup
 |0=>Km
 |y+1=>by
  rw[lB];refine JF.mpr ⟨vJ W y,?_,fun a B b G e=>?_⟩
  ·unfold nG List.Nodup;rw[Jc];exact List.nodup_range.imp fun {a b} h e=>h (by have:=I_ Prod.fst e;dsimp only at this;lia)
  ·have h1:=fX.mp B;obtain⟨k,_,rfl⟩:=Iv.mp G;rw[e]at h1;dsimp only at h1
   lia
section
abbrev jO:Stmt:=top 54
theorem bO:aE ["_law_rows","_law_level","_law_codes","_law_y","_law_x","_law_found","_law_seen","_law_code","_law_land"] ["_law_rows","_law_level"] (aq jO):={}
inductive kT  (vs:List V)(H:Hp)(Q:VK):Prop
 |mk (l:Addr) (rws:List (List Int)) (n:Nat) (h_0:vs=[.ref l,.int (n:Int)]) (h_1:ve H l rws) (h_2:AL (2^n) rws) (h_3:n<=3) (h_4:∀lf us H',ah H H'->H lf=none->H' lf=some (.lst us)->Paired (FdV ((2^n:Nat):Int) (pR rws) H') us (tF (2^n) rws n)->us.length<=64->Q (.ref lf) H'):kT  vs H Q
def mj:Sp:=fun vs H Q _=>kT  vs H Q
theorem uc (T:Tx K mg)(q:bS CX)(F:bD K "_law_lands" "_law_lands" jO f fd .none)(G:Fok P w K mg base CX 1 "_law_code_at" ["_law_x","_law_y","_law_level"] [] jG)(O:Fok P w K mg base CX 1 "_law_flood" ["_law_rows","_law_x","_law_y"] [] mo):bB P w K mg base CX 2 f fd ["_law_rows","_law_level"] mj:=by
 refine F.ok bO (fun vs H Q E h=>?_) (fun h0 A outer s H vs Q E J h=>?_)
 ·obtain⟨_,_,_,rfl,_⟩:=h;rfl
 obtain⟨l,a1,n,rfl,hR,ok,hn,q'⟩:=h;refine⟨_,(ab (au (i:=2) bO qr) (ab (aN II rfl (bx rfl T.b_range (aa (av aY rfl T.b_len bN (aa (pv 0) ae)) ae)) (aP (i:=3) bO) (af (aN II rfl (bx rfl T.b_range (aa (av aY rfl T.b_len bN (aa (pv 0) ae)) ae)) (aP (i:=4) bO) (af (dZ J.dic (pv 2) (ai G q J (aa (pv 4) (aa (pv 3) (aa (pv 1) ae)))) (az (am (pv 4) (am (pv 3) ak))) (cG rfl)))))) (ab (au (i:=5) bO (bg ak)) (ab (au (i:=6) bO mE) (ab (aN II rfl (bQ (zW rfl rfl T.b_sorted (pv 2))) (aP (i:=7) bO) (ab (xw (dM J.dic (pv 2) (pv 7) (fun _ _=>rfl)) (fK rfl (aX (aP (i:=4) bO) (aX (aP (i:=3) bO) dL)))) (af (aT (aJ (cS J.dic) (az (am (pv 4) (am (pv 3) ak))) (pv 6) (by with_unfolding_all rfl)) (ab (au (i:=8) bO (ai O q J (aa (pv 0) (aa (pv 4) (aa (pv 3) ae))))) (ab (ba (BP J.dic (pv 6) (pv 8) ⟨rfl,rfl,rfl,rfl⟩)) (af (ba (bH (pv 5) (aa (az (am (aD bh (aD bh (pv 0) (pv 3)) (pv 4)) (am (pv 8) ak))) ae)))))) aF)))) (af (aB (pv 5)))))))),?_⟩;have c6:2^n<=8:=IU (Kj (by decide) hn) (by decide);unfold tF at q';obtain⟨W,eW⟩:∃W,W=2^n:=⟨_,rfl⟩;obtain⟨rs,d6,f5⟩:=id hR;have a5:rs.length=W:=by rw[Paired.length f5,ok.1,eW]
 rw[<-eW]at ok c6 q';refine fun dc d8=>?_;have s1:=ah.new d8 (.dK []);have d1:upd H dc (.dK []) dc=some (.dK []):=ag;generalize upd H dc (.dK [])=H1 at *;have c2:∀{y:Nat} {p:Pt},y<=W->p∈eI W y->Ins ((2^n:Nat):Int) p:=fun {y p} hy hp=>by
  have:=fX.mp hp
  rw[<-eW];unfold Ins
  lia
 let J1:NS9:=fun j σ H2=>∃(kvs:LK9) (o3 o4:OW9),ah H H2/\H2 dc=some (.dK kvs)/\Paired (CdV H2 n) kvs (eI W j)/\σ=[some (.ref l),some (.int (n:Int)),some (.ref dc),o3,o4,none,none,none,none]
 refine⟨_,_,rfl,.inl ⟨_,SqL.of (s1 _ _ d6),rfl⟩,_,rfl,by rw[a5];simp,by rw[a5];lia,bV J1
  ⟨[],none,none,s1,d1,.nil,rfl⟩ ?_ ?_⟩
 ·rintro j σ H2 hj ⟨kvs,o3,o4,s2,d2,hP,rfl⟩;have hj':j<W:=by lia
  rw[show (0:Int)+(j:Int)=(j:Int) from JO _];refine⟨_,_,rfl,.inl ⟨_,SqL.of (s2 _ _ d6),rfl⟩,_,rfl,by rw[a5];simp,by rw[a5];lia,bV (fun i σ H2=>∃(kvs:LK9) (o4:OW9),ah H H2/\H2 dc=some (.dK kvs)/\Paired (CdV H2 n) kvs (eI W j++nG W j i)/\σ=[some (.ref l),some (.int (n:Int)),some (.ref dc),some (.int (j:Int)),o4,none,none,none,none])
   ⟨kvs,_,s2,d2,by rw[show nG W j 0=[] from rfl,Jt];exact hP,rfl⟩ ?_ ?_⟩
  rotate_left
  ·rintro σ H3 ⟨kvs,o4,s3,d3,Y,rfl⟩;refine⟨kvs,_,_,s3,d3,?_,rfl⟩;rw[Jn,a5,<-lB]at Y;exact Y
  clear hP d2 s2
  rintro i σ H3 hi ⟨kvs,o4,s3,d3,Y,rfl⟩;have hi':i<W:=by lia
  rw[show (0:Int)+(i:Int)=(i:Int) from JO _];obtain⟨p,ep⟩:∃p:Pt,p=((i:Int),(j:Int)):=⟨_,rfl⟩;have B:Ins ((2^n:Nat):Int) p:=by rw[ep,<-eW];unfold Ins;dsimp only;lia
  have c3:∀r∈eI W j++nG W j i,Ins ((2^n:Nat):Int) r/\r≠p:=fun r J=>by
   rcases Iz.mp J with J|J
   ·refine⟨c2 (JW hj') J,fun z=>?_⟩
    have:=fX.mp J
    rw[z,ep]at this;dsimp only at this
    lia
   ·obtain⟨k,hk,rfl⟩:=Iv.mp J;have hk:=Jm.mp hk;refine⟨by rw[<-eW];unfold Ins;dsimp only;lia,fun z=>?_⟩;rw[ep]at z
    have:=I_ Prod.fst z
    dsimp only at this
    lia
  have lk:kvs.length<1000:=by
   have:=Paired.length Y
   rw[Iy,se]at this;unfold nG at this;rw[Iq,J_]at this;have h1:j*W<=7*8:=KF (by lia) c6
   lia
  refine⟨(leZ rfl),nw fun pp H4 h3 s4 w4=>?_⟩;have w4:PtV H4 (.ref pp) p:=⟨pp,rfl,by rw[ep];exact w4⟩;refine⟨i,j,n,rfl,hn,dc,_,rfl,lV.k (k:=Sum.inr (txt (low n i j))) (s4 _ _ d3) (IJ lk (by decide)),?_⟩;have ek:ky (lo n p)=Sum.inr (txt (low n i j)):=by rw[ep];rfl
  have t4:bn H3 H4:=s4.tups;have e0:Paired (CdV H4 n) kvs (eI W j++nG W j i):=Paired.mapP Y fun a b h=>⟨h.1,h.2.up t4⟩;rw[<-ek,my _ (EH e0 (fun r J=>(c3 r J).1) B fun z=>(c3 p z).2 rfl)];have t5:∀o',bn H4 (upd H4 dc o'):=fun o'=>bE (s4 _ _ d3) (by intro xs z;cases z);refine⟨_,_,ah.set (s3.trans s4) d8 _,ag,?_,rfl⟩;rw[zQ,<-Jv,<-ep];exact aR (Paired.mapP e0 fun a b h=>⟨h.1,h.2.up (t5 _)⟩) (.cons ⟨rfl,w4.up (t5 _)⟩ .nil)
 rintro σ H3 ⟨kvs,o3,o4,s3,d3,Y,rfl⟩;rw[Jn,a5]at Y;have a0:∀r∈eI W W,Ins ((2^n:Nat):Int) r:=fun r J=>c2 (Iw _) J;have c7:((eI W W).map fun p=>txt (lo n p)).Nodup:=by
  unfold List.Nodup;rw[Jc];exact (vJ W W).imp_of_mem fun {a b} ha hb ne e=>ne (xO (a0 a ha) (a0 b hb) (vo e))
 refine⟨(by show 0<=sizeLine;exact IG _),nw fun lf H4 f6 s4 w4=>?_⟩;refine nw fun ds H5 f7 s5 w5=>?_;have e1:=s4.trans s5;have d5:=e1 _ _ d3;refine⟨dc,kvs,_,rfl,d5,EI Y,fun S ss hS hp hs=>?_⟩;rw[eW]at hp c7;obtain rfl:=tG hn hp hs c7;rw[<-eW]at hp c7;generalize e6:upd H5 S _=H6;have s6:ah H5 H6:=e6▸ah.new hS _;have w6:H6 S=some (.lst (((zo n 0 0).map fun p=>txt (lo n p)).map V.str)):=by rw[<-e6];exact ag
 have c8:=e1.trans s6;have e2:H lf=none:=s3.free f6;have f8:H ds=none:=(s3.trans s4).free f7;have f9:Paired (CdV H6 n) kvs (eI W W):=Paired.mapP Y fun a b h=>⟨h.1,h.2.up c8.tups⟩
 let J0:NS9:=fun i σ H7=>∃(us:List V) (st SL:List Pt) (o3 o4 o7 o8:OW9),st=((zo n 0 0).take i).foldl (iX (W:Int) (pR a1)) []/\ah H H7/\bn H6 H7/\H7 dc=some (.dK kvs)/\H7 S=some (.lst (((zo n 0 0).map fun p=>txt (lo n p)).map V.str))/\H7 lf=some (.lst us)/\H7 ds=some (.dT (ldK SL))/\Paired (FdV (W:Int) (pR a1) H7) us st/\SL.Nodup/\(∀p,p∈SL↔∃s∈st,Rch (W:Int) (pR a1) s p)/\(∀s∈st,Ins (W:Int) s)/\us.length<=i/\σ=[some (.ref l),some (.int (n:Int)),some (.ref dc),o3,o4,some (.ref lf),some (.ref ds),o7,o8]
 refine⟨S,rfl,⟨_,SqL.of w6⟩,bJ (xs:=((zo n 0 0).map fun p=>txt (lo n p)).map V.str) J0
  ⟨[],[],[],_,_,_,_,rfl,s3.trans c8,bn.refl _,c8 _ _ d3,w6,(s5.trans s6) _ _ w4,s6 _ _ w5,.nil,Km,fun p=>⟨fun h=>(by cases h),fun⟨_,h,_⟩=>(by cases h)⟩,fun _ h=>(by cases h),Iw _,rfl⟩ (fun i σ H7 _ ⟨_,_,_,_,_,_,_,_,_,_,_,h,_⟩=>SqL.of h) ?_ ?_⟩
 rotate_left
 ·rintro σ H7 ⟨us,st,SL,o3,o4,o7,o8,b4,s7,b5,d7,S7,w7,a6,b6,b7,a2,b8,lu,rfl⟩;refine (q' lf us _ s7 e2 w7 ?_ ?_)
  ·rw[Iq,Iq,Jw]at b4;rw[<-b4];exact b6
  ·rw[Iq,Iq]at lu;exact IU lu (AO n (by lia))
 rintro i u σ H7 hu ⟨us,st,SL,o3,o4,o7,o8,b4,s7,b5,d7,S7,w7,a6,b6,b7,a2,b8,lu,rfl⟩;rw[IM,IM]at hu;obtain⟨z,hz,rfl⟩:=IX.mp hu;obtain⟨p,hp,rfl⟩:=IX.mp hz;have pm:=ID hp;have B:=AQ pm;obtain⟨v,hv,bp,rfl,g0⟩:=Gx f9 a0 (fX.mpr (by rw[<-eW]at B;exact B));have e3:=b5 _ _ g0;rw[<-eW]at B;have g9:i<64:=IJ (Ix.mp hp).1 (AO n (by lia));have est':((zo n 0 0).take (i+1)).foldl (iX (W:Int) (pR a1)) []=iX (W:Int) (pR a1) st p:=by
  rw[Kl,hp,Ka,<-b4];rfl
 refine⟨dc,.ref bp,rfl,hv▸dC.k (k:=ky (lo n p)) d7,?_⟩;refine⟨bp,_,rfl,SqT.of e3,rfl,_,_,rfl,_,_,rfl,rfl,?_⟩;refine⟨(leZ rfl),nw fun qa H8 h4 s8 w8=>?_⟩;refine⟨ds,_,rfl,dC.t (k:=inn p) (s8 _ _ a6) w8,ay (ci (fun c=>?_) (fun c=>?_))⟩
 rotate_left
 ·have b9:=xS c;refine⟨us,st,SL,_,_,_,_,?_,s7.trans s8,b5.trans s8.tups,s8 _ _ d7,s8 _ _ S7,s8 _ _ w7,s8 _ _ a6,Paired.mapP b6 fun a b h=>h.keep s8.tups fun b ob kv e=>s8 _ _ e,b7,a2,b8,by lia,rfl⟩;rw[est',Bg ((a2 p).mp b9)]
 have b9:=uB c;have g1:iX (W:Int) (pR a1) st p=st++[p]:=by
  unfold iX;rw[if_neg fun h=>b9 ((a2 p).mpr h)]
 obtain⟨px,py,c0,c1⟩:∃px py:Nat,p.1=(px:Int)/\p.2=(py:Int):=⟨p.1.toNat,p.2.toNat,by have:=B.1;lia,by have:=B.2.2.1;lia⟩;have ep:p=((px:Int),(py:Int)):=Prod.ext c0 c1;have hx:px<W:=by have:=B.2.1;lia
 have hy:py<W:=by have:=B.2.2.2;lia
 refine⟨l,a1,W,px,py,by rw[<-c0,<-c1];rfl,hR.up (s7.trans s8),ok,c6,hx,hy,fun d ob PL H9 s9 h5 d9 c9 mP lP=>?_⟩;rw[<-ep]at mP;have a7:=s8.trans s9;have a4:=a7 _ _ a6;have g2:ds≠d:=fun z=>by rw[z,d9]at a4;cases a4
 have e4:∀r∈PL,Ins (W:Int) r:=fun r J=>(Rch.in_ B ((mP r).mp J)).1;have e5:∀r∈SL,Ins (W:Int) r:=fun r J=>by
  obtain⟨s,hs,h⟩:=(a2 r).mp J;exact (Rch.in_ (b8 s hs) h).1
 have e7:∀r,r∈SL->r∈PL->False:=fun r h1 h2=>by
  obtain⟨s,hs,h⟩:=(a2 r).mp h1;exact b9 ((a2 p).mpr ⟨s,hs,Rch.trans h (Rch.sym B ((mP r).mp h2))⟩)
 have h6:=xz (by lia) b7 e5;refine⟨ds,rfl,.inr ⟨_,.inl a4⟩,d,_,_,rfl,a4,.inr ⟨ob,d9⟩,g2,fun k hk k' g3 e=>?_,fun w=>Eu c9 (fun r J=>by have:=e4 r J;unfold Ins at *;lia) w,by rw[hV,hV];exact IU (by lia:_<=1000) (by decide),?_⟩
 ·obtain⟨r,J,rfl⟩:=Iv.mp hk;obtain⟨r',g4,rfl⟩:=Iv.mp g3
  have:=pC e
  subst this;exact e7 _ J g4
 rw[Ej];generalize a9:upd H9 ds _=b0;have e8:ah H b0:=a9▸ah.set (s7.trans a7) f8 _;have e9:b0 ds=some (.dT (ldK (SL++PL))):=by rw[<-a9];exact ag
 have g5:bn H9 b0:=a9▸bE a4 (by intro xs z;cases z);have g6:∀b ob kv,H9 b=some (.frz ob (.dT kv))->b0 b=some (.frz ob (.dT kv)):=a9▸zd a4 (by intro _ _ z;cases z);have f0:∀b o,b≠ds->H9 b=some o->b0 b=some o:=fun b o hb e=>by rw[<-a9,aA hb];exact e
 have d0:=a7 _ _ w7;have c4:lf≠ds:=fun z=>by rw[z,a4]at d0;cases d0
 have c5:=f0 _ _ c4 d0;obtain⟨r1,f1,q1,k1,_,k2,k3,k4⟩:=(hR.up e8).get ok hx hy;refine⟨.inl ⟨rfl,_,SqL.of c5⟩,l,r1,_,.ref f1,rfl,rfl,SqL.of k1,by rw[c1];exact bG k2,f1,_,_,_,rfl,rfl,SqL.of k3,by rw[c0];exact bG k4,(leZ rfl),nw fun t b1 ht a8 d4=>?_⟩;have d4:b1 t=some (.tup [.int (pR a1 p),.ref d]):=by rw[d4];unfold pR;rw[c0,c1];rfl
 have b2:=a8 _ _ c5;refine⟨lf,us,_,rfl,rfl,b2,cQ (by lia),?_⟩;generalize b3:upd b1 lf _=a3;have g7:ah H a3:=b3▸ah.set (e8.trans a8) e2 _;have f2:bn b1 a3:=b3▸bE b2 (by intro xs z;cases z);have g8:∀b ob kv,b1 b=some (.frz ob (.dT kv))->a3 b=some (.frz ob (.dT kv)):=b3▸zd b2 (by intro _ _ z;cases z);have f3:∀b o,b≠lf->b1 b=some o->a3 b=some o:=fun b o hb e=>by rw[<-b3,aA hb];exact e
 have f4:a3 lf=some (.lst (us++[.ref t])):=by rw[<-b3];exact ag
 have tt:bn H7 a3:=(a7.tups.trans g5).trans (a8.tups.trans f2);have ff:∀b ob kv,H9 b=some (.frz ob (.dT kv))->a3 b=some (.frz ob (.dT kv)):=fun b ob kv e=>g8 _ _ _ (a8 _ _ (g6 _ _ _ e));have kk:∀b o,b≠ds->b≠lf->H7 b=some o->a3 b=some o:=fun b o h1 h2 e=>f3 _ _ h2 (a8 _ _ (f0 _ _ h1 (a7 _ _ e)));refine⟨us++[.ref t],st++[p],SL++PL,_,_,_,_,?_,g7,b5.trans tt,kk _ _ (fun z=>by rw[z,a6]at d7;cases d7) (fun z=>by rw[z,w7]at d7;cases d7) d7,kk _ _ (fun z=>by rw[z,a6]at S7;cases S7) (fun z=>by rw[z,s5 _ _ w4]at hS;cases hS) S7,f4,f3 _ _ c4.symm (a8 _ _ e9),?_,?_,?_,?_,by rw[Iy];simp;omega,rfl⟩
 ·rw[est',g1]
 ·exact aR (Paired.mapP b6 fun a b h=>h.keep tt fun b ob kv e=>ff _ _ _ (a7 _ _ e)) (.cons ⟨t,d,ob,PL,rfl,f2 _ _ d4,ff _ _ _ d9,c9,mP,lP,B⟩ .nil)
 ·exact JF.mpr ⟨b7,c9,fun a ha b hb e=>e7 a ha (e▸hb)⟩
 ·intro r;rw[Iz,a2,mP];constructor
  ·rintro (⟨s,hs,h⟩ | h)
   ·exact⟨s,Ja _ hs,h⟩
   ·exact⟨p,by simp,h⟩
  ·rintro⟨s,hs,h⟩;rcases Iz.mp hs with hs | hs
   ·exact .inl ⟨s,hs,h⟩
   ·rw[Iu.mp hs]at h;exact .inr h
 ·intro s hs;rcases Iz.mp hs with hs | hs
  ·exact b8 s hs
  ·rw[Iu.mp hs];exact B
end
def sdK (x:Pt×Nat):List Key:=[Sum.inl (x.1.1+rtx x.2),Sum.inl (x.1.2+rty x.2),Sum.inl (x.2:Int)]
theorem tL (h:sdK x=sdK y):x=y:=by
 unfold sdK at h;simp only[List.cons.injEq,Sum.inl.injEq,and_true]at h;obtain⟨a,b,c⟩:=h;have e:x.2=y.2:=by lia
 rw[e]at a b;exact Prod.ext (Prod.ext (by lia) (by lia)) e
def sx (p:Pt)(m:Nat):Pt×Nat:=((p.1-rtx m,p.2-rty m),m)
def pl (x:Pt×Nat):Pt:=(x.1.1+rtx x.2,x.1.2+rty x.2)
theorem so (p:Pt)(m:Nat):pl (sx p m)=p:=Prod.ext (by unfold pl sx;dsimp only;simp) (by unfold pl sx;dsimp only;simp)
theorem rY (x:Pt×Nat):sx (pl x) x.2=x:=Prod.ext (Prod.ext (by unfold pl sx;dsimp only;simp) (by unfold pl sx;dsimp only;simp)) rfl
theorem xk (x:Pt×Nat):sdK x=[Sum.inl (pl x).1,Sum.inl (pl x).2,Sum.inl (x.2:Int)]:=rfl
theorem Bp (p:Pt)(m:Nat):sdK (sx p m)=[Sum.inl p.1,Sum.inl p.2,Sum.inl (m:Int)]:=by rw[xk,so];rfl
def CP (PL:List Pt)(x y:Int):Prop:=((x,y):Pt)∈PL
theorem C5 (h:m<4):Bd (CP PL) (sx p m).1 m↔p∈PL/\go p 1 ((m+3)%4)∉PL:=by
 unfold Bd cl CP sx;dsimp only;rw[show (p.1-rtx m+rtx m,p.2-rty m+rty m)=p from Prod.ext (by dsimp only;simp) (by dsimp only;simp),show (p.1-rtx m+rtx ((m+3)%4),p.2-rty m+rty ((m+3)%4))=go p 1 ((m+3)%4) from ?_];rcases dk h with rfl | rfl | rfl | rfl<;>refine Prod.ext ?_ ?_<;>simp[rtx,rty,go,ux,uy]<;>lia
def SdV (H:Hp)(kv:List Key×V)(x:Pt×Nat):Prop:=kv.1=sdK x/\∃t a b,kv.2=.ref t/\H t=some (.tup [.ref a,.ref b])/\H a=some (.tup [.int x.1.1,.int x.1.2])/\H b=some (.tup [.int (go x.1 1 x.2).1,.int (go x.1 1 x.2).2])
theorem SdV.up (h:SdV H kv x)(t:bn H H'):SdV H' kv x:=by
 obtain⟨e,a,b,c,B,h1,h2,G⟩:=h;exact⟨e,a,b,c,B,t _ _ h1,t _ _ h2,t _ _ G⟩
theorem tK (h:Paired (SdV H) kvs S)(B:x∈S):∃v,bo kvs (sdK x)=some v/\SdV H (sdK x,v) x:=by
 induction h with
 |nil=>cases B
 | @cons kv y kvs S a _ ih=>
  by_cases e:kv.1=sdK x
  ·have:y=x:=tL (a.1.symm.trans e)
   rw[this]at a;exact⟨kv.2,b_ e,rfl,a.2⟩
  ·rw[bR e];rcases IP.mp B with rfl | B
   ·exact absurd a.1 e
   ·exact ih B
theorem yz (h:Paired (SdV H) kvs S)(B:x∉S):bo kvs (sdK x)=none:=by
 induction h with
 |nil=>rfl
 | @cons kv y kvs S a _ ih=>
  rw[bR fun e=>B (by rw[tL (e.symm.trans a.1)];exact IF)];exact ih fun q=>B (IA _ q)
theorem EW (h:Paired (SdV H) kvs S)(x:Pt×Nat):(bo kvs (sdK x)).isSome=decide (x∈S):=by
 by_cases c:x∈S
 ·obtain⟨v,e,_⟩:=tK h c;rw[e,IC c];rfl
 ·rw[yz h c,Jh c];rfl
structure SI (PL:List Pt)(i:Nat)(p:Pt)(m:Nat)(S:LP9):Prop where
 nd:S.Nodup
 mem:∀x,x∈S↔x.2<4/\Bd (CP PL) x.1 x.2/\(pl x∈PL.take i\/(pl x=p/\x.2<m))
section
theorem SI.new (h:SI PL i p m S)(B:p∉PL.take i):sx p m∉S:=fun G=>by
 rcases ((h.mem _).mp G).2.2 with h|h
 ·rw[so]at h;exact B h
 ·exact Kb _ h.2
theorem SI.yes (h:SI PL i p m S)(B:m<4)(G:p∉PL.take i)(J:p∈PL)(O:go p 1 ((m+3)%4)∉PL):SI PL i p (m+1) (S++[sx p m]):=by
 refine⟨pi h.nd (h.new G),fun x=>?_⟩;rw[Iz,h.mem,Iu];constructor
 ·rintro (⟨a,b,c⟩ | rfl)
  ·exact⟨a,b,c.imp id fun c=>⟨c.1,by lia⟩⟩
  ·exact⟨B,(C5 B).mpr ⟨J,O⟩,.inr ⟨so _ _,Ki m⟩⟩
 ·rintro⟨a,b,c | ⟨c,d⟩⟩
  ·exact .inl ⟨a,b,.inl c⟩
  ·by_cases e:x.2=m
   ·exact .inr (by rw[<-rY x,c,e])
   ·exact .inl ⟨a,b,.inr ⟨c,by lia⟩⟩
theorem SI.no (h:SI PL i p m S)(B:m<4)(G:go p 1 ((m+3)%4)∈PL):SI PL i p (m+1) S:=by
 refine⟨h.nd,fun x=>?_⟩;rw[h.mem];constructor
 ·rintro⟨a,b,c⟩;exact⟨a,b,c.imp id fun c=>⟨c.1,by lia⟩⟩
 ·rintro⟨a,b,c | ⟨c,d⟩⟩
  ·exact⟨a,b,.inl c⟩
  ·refine⟨a,b,.inr ⟨c,?_⟩⟩
   have:x.2≠m:=fun e=>by
    rw[<-rY x,c,e]at b;exact ((C5 B).mp b).2 G
   lia
theorem SI.next (h:SI PL i p 4 S)(B:PL[i]? = some p)(G:Pt):SI PL (i+1) G 0 S:=by
 refine⟨h.nd,fun x=>?_⟩;rw[h.mem,Kl,B,Iz];constructor
 ·rintro⟨a,b,c | c⟩
  ·exact⟨a,b,.inl (.inl c)⟩
  ·exact⟨a,b,.inl (.inr (by rw[c.1];simp))⟩
 ·rintro⟨a,b,(c | c) | c⟩
  ·exact⟨a,b,.inl c⟩
  ·exact⟨a,b,.inr ⟨by simpa using c,a⟩⟩
  ·exact absurd c.2 (Kv _)
end
def AK (H:Hp)(d:Addr)(S:LP9):Prop:=∃ob kvs,H d=some (.frz ob (.dT kvs))/\Paired (SdV H) kvs S
theorem AK.up (h:AK H d S)(s:ah H H'):AK H' d S:=by
 obtain⟨B,kvs,e,p⟩:=h;exact⟨B,kvs,s _ _ e,Paired.mapP p fun a b h=>h.up s.tups⟩
theorem dC.ft (e:H a=some (.frz ob (.dT kvs)))(B:H b=some (.tup (k.map kV))):dC H a (.ref b) (bo kvs k):=.inr ⟨kvs,k,b,.inr ⟨ob,e⟩,rfl,B,rfl⟩
section
abbrev jM:Stmt:=top 55
theorem fR:aE ["_law_land","_law_sides_here","_law_x","_law_y"] ["_law_land"] (aq jM):={}
inductive kQ  (vs:List V)(H:Hp)(Q:VK):Prop
 |mk (d:Addr) (ob:Obj) (PL:List Pt) (h_0:vs=[.ref d]) (h_1:H d=some (.frz ob (.dT (ldK PL)))) (h_2:PL.Nodup) (h_3:PL.length<=64) (h_4:∀ds S H',ah H H'->H ds=none->AK H' ds S->S.Nodup->(∀x,x∈S↔(D1 (CP PL) x.1 x.2).isSome=true)->S.length<=256->Q (.ref ds) H'):kQ  vs H Q
def iZ:Sp:=fun vs H Q _=>kQ  vs H Q
theorem t_ (T:Tx K mg)(F:bD K "_law_sides" "_law_sides" jM f fd .none):bB P w K mg base CX 1 f fd ["_law_land"] iZ:=by
 refine F.ok fR (fun vs H Q E h=>?_) (fun a8 A outer s H vs Q E hr h=>?_)
 ·obtain⟨_,_,_,rfl,_⟩:=h;rfl
 obtain⟨d,ob,PL,rfl,hd,nd,a9,q'⟩:=h;refine⟨_,(ab (au (i:=1) fR mE) (ab (aN II rfl (qp (pv 0)) (fK rfl (aX (aP (i:=2) fR) (aX (aP (i:=3) fR) dL))) (ab (jS (aT (aJ (cS hr.dic) (az (am (pv 2) (am (aj cT (pv 3) ac) ak))) (pv 0) (by with_unfolding_all rfl)) (af (dZ hr.dic (pv 1) (az (am (pv 2) (am (pv 3) (am ac ak)))) (az (am (az (am (pv 2) (am (pv 3) ak))) (am (az (am (aj aK (pv 2) ac) (am (pv 3) ak))) ak))) (cG rfl))) aF)) (ab (jS (aT (aJ (cS hr.dic) (az (am (aj aK (pv 2) ac) (am (pv 3) ak))) (pv 0) (by with_unfolding_all rfl)) (af (dZ hr.dic (pv 1) (az (am (pv 2) (am (pv 3) (am ac ak)))) (az (am (az (am (aj aK (pv 2) ac) (am (pv 3) ak))) (am (az (am (aj aK (pv 2) ac) (am (aj aK (pv 3) ac) ak))) ak))) (cG rfl))) aF)) (ab (jS (aT (aJ (cS hr.dic) (az (am (pv 2) (am (aj aK (pv 3) ac) ak))) (pv 0) (by with_unfolding_all rfl)) (af (dZ hr.dic (pv 1) (az (am (pv 2) (am (pv 3) (am ac ak)))) (az (am (az (am (aj aK (pv 2) ac) (am (aj aK (pv 3) ac) ak))) (am (az (am (pv 2) (am (aj aK (pv 3) ac) ak))) ak))) (cG rfl))) aF)) (af (aT (aJ (cS hr.dic) (az (am (aj cT (pv 2) ac) (am (pv 3) ak))) (pv 0) (by with_unfolding_all rfl)) (af (dZ hr.dic (pv 1) (az (am (pv 2) (am (pv 3) (am ac ak)))) (az (am (az (am (pv 2) (am (aj aK (pv 3) ac) ak))) (am (az (am (pv 2) (am (pv 3) ak))) ak))) (cG rfl))) aF)))))) (af (aB (BO (pv 1)))))),?_⟩;refine fun ds a0=>?_;have s1:=ah.new a0 (.dT []);have d1:upd H ds (.dT []) ds=some (.dT []):=ag;generalize upd H ds (.dT [])=H1 at *
 let J0:NS9:=fun i σ H2=>∃(kvs:List (List Key×V)) (S:LP9) (o2 o3:OW9),ah H H2/\H2 ds=some (.dT kvs)/\Paired (SdV H2) kvs S/\(∀p,SI PL i p 0 S)/\S.length<=4*i/\σ=[some (.ref d),some (.ref ds),o2,o3]
 refine⟨d,ob,ldK PL,rfl,s1 _ _ hd,nT J0
  ⟨[],[],_,_,s1,d1,.nil,fun p=>⟨Km,fun x=>⟨fun h=>(by cases h),fun⟨_,_,h⟩=>by rcases h with h | h;(· simp at h);exact absurd h.2 (Kv _)⟩⟩,IG _,rfl⟩ (fun i σ H2 _ ⟨_,_,_,_,G,_,_,_,_,_⟩=>G _ _ hd) ?_ ?_⟩
 rotate_left
 ·rintro σ H2 ⟨kvs,S,o2,o3,G,J,O,hS,Y,rfl⟩;rw[hV]at hS Y;refine⟨ds,kvs,rfl,J,fun a6=>?_⟩;have t2:bn H2 (upd H2 ds (.frz a6 (.dT kvs))):=bE J (by intro xs z;cases z);refine q' ds S _ (ah.set G a0 _) a0 ⟨a6,kvs,ag,Paired.mapP O fun a b h=>h.up t2⟩ (hS (0,0)).nd (fun x=>?_) (by lia);rw[(hS (0,0)).mem,gQ,Jw];constructor
  ·rintro⟨a,b,c⟩;exact⟨a,b⟩
  ·rintro⟨a,b⟩;have b':=b;rw[<-rY x]at b';exact⟨a,b,.inl ((C5 a).mp b').1⟩
 rintro i k v b σ H2 hk hb ⟨kvs,S,o2,o3,G,J,O,hS,Y,rfl⟩;have hk':PL[i]?.map (fun p=>(inn p,V.bl true))=some (k,v):=by rw[<-IM];exact hk
 obtain⟨p,hp,e⟩:=IX.mp hk';cases e;have pm:=ID hp;have hi:i<PL.length:=(Ix.mp hp).1;have np:p∉PL.take i:=fun h=>by
  obtain⟨j,hj⟩:=Je h;rw[K4]at hj
  split at hj
  ·have:=(K8 hi nd).mp (hp.trans hj.symm)
   lia
  ·cases hj
 refine⟨b,_,rfl,SqT.of hb,rfl,_,_,rfl,_,_,rfl,rfl,?_⟩;have B:=hS p
 clear hS hb hk hk'
 obtain⟨g3,g0,g1,g2⟩:=Hm p;have a3:∀{m:Nat} (h4:m<4) {kvs:List (List Key×V)} {S:LP9} {H2:Hp} {N:Hp->Prop} {ga gb a1 a2 b1 b2:Int},ah H H2->H2 ds=some (.dT kvs)->Paired (SdV H2) kvs S->SI PL i p m S->S.length<=4*i+m->go p 1 ((m+3)%4)=(ga,gb)->(sx p m).1=(a1,a2)->go (a1,a2) 1 m=(b1,b2) ->
   (∀kvs S H',ah H H'->H' ds=some (.dT kvs)->Paired (SdV H') kvs S->SI PL i p (m+1) S->S.length<=4*i+(m+1)->N H') ->
   2<=sizeLine/\Nw H2 (.tup [.int ga,.int gb]) fun q H3=>∃a o,V.ref d=.ref a/\dC H3 a (.ref q) o/\ofB (fun b=>if b=true then (2<=sizeLine/\Nw H3 (.tup [.int a1,.int a2]) fun a H4=>2<=sizeLine/\Nw H4 (.tup [.int b1,.int b2]) fun b H5=>2<=sizeLine/\Nw H5 (.tup [.ref a,.ref b]) fun t H6=>3<=sizeLine/\Nw H6 (.tup [.int p.1,.int p.2,.int (m:Int)]) fun kk H7=>∃a H8,V.ref ds=.ref a/\lV H7 a (.ref kk) (.ref t) H8/\N H8) else N H3) (.bl (!o.isSome)):=fun {m} h4 {kvs S H2 N ga gb a1 a2 b1 b2} G J O hS Y eg ea eb k=>by
  refine⟨(leZ rfl),nw fun q H3 hq s3 w3=>⟨d,_,rfl,dC.ft (k:=inn (ga,gb)) (s3 _ _ (G _ _ hd)) w3,ay (ci (fun c=>?_) (fun c=>?_))⟩⟩
  rotate_left
  ·exact k kvs S H3 (G.trans s3) (s3 _ _ J) (Paired.mapP O fun a b h=>h.up s3.tups) (hS.no h4 (by rw[eg];exact xS c)) (by lia)
  refine⟨(leZ rfl),nw fun a H4 ha s4 w4=>⟨(leZ rfl),nw fun b H5 hb s5 w5=>⟨(leZ rfl),nw fun t H6 ht s6 w6=>⟨(leZ rfl),nw fun kk H7 b0 s7 w7=>?_⟩⟩⟩⟩;have a5:=s6.trans s7;have a4:=s3.trans (s4.trans (s5.trans a5));have a7:Paired (SdV H7) kvs S:=Paired.mapP O fun a b h=>h.up a4.tups;have t3:∀o',bn H7 (upd H7 ds o'):=fun o'=>bE (a4 _ _ J) (by intro xs z;cases z);refine⟨ds,_,rfl,lV.t (k:=sdK (sx p m)) (a4 _ _ J) (by rw[Bp];exact w7) (IJ (by rw[Paired.length O];lia:_<1000) (by decide)),?_⟩;rw[my _ (yz a7 (hS.new np))];exact k _ (S++[sx p m]) _ (ah.set (G.trans a4) a0 _) ag (aR (Paired.mapP a7 fun a b h=>h.up (t3 _)) (.cons ⟨rfl,t,a,b,rfl,t3 _ _ _ (s7 _ _ w6),by rw[ea];exact t3 _ _ _ ((s5.trans a5) _ _ w4),by rw[ea];show _=some (HO.tup [.int (go (a1,a2) 1 m).1,.int (go (a1,a2) 1 m).2]);rw[eb];exact t3 _ _ _ (a5 _ _ w5)⟩ .nil)) (hS.yes h4 np pm (by rw[eg];exact uB c)) (by rw[Iy];simp;omega)
 let C:NS9:=fun m σ' H'=>∃(kvs:List (List Key×V)) (S:LP9),ah H H'/\H' ds=some (.dT kvs)/\Paired (SdV H') kvs S/\SI PL i p m S/\S.length<=4*i+m/\σ'=[some (.ref d),some (.ref ds),some (.int p.1),some (.int p.2)]
 refine⟨C 1,a3 (m:=0) (by decide) G J O B Y g3 (by simp[sx,rtx,rty]) (by simp[go,ux,uy]<;>omega) fun kvs S H' h1 h2 h3 h4 h5=>⟨kvs,S,h1,h2,h3,h4,h5,rfl⟩,?_⟩
 clear J O B Y G
 rintro σ' H2 ⟨kvs,S,G,J,O,B,Y,rfl⟩;refine⟨C 2,a3 (m:=1) (by decide) G J O B Y g0 (by simp[sx,rtx,rty]) (by simp[go,ux,uy]<;>omega) fun kvs S H' h1 h2 h3 h4 h5=>⟨kvs,S,h1,h2,h3,h4,h5,rfl⟩,?_⟩
 clear J O B Y G
 rintro σ' H2 ⟨kvs,S,G,J,O,B,Y,rfl⟩;refine⟨C 3,a3 (m:=2) (by decide) G J O B Y g1 (by simp[sx,rtx,rty]) (by simp[go,ux,uy]<;>omega) fun kvs S H' h1 h2 h3 h4 h5=>⟨kvs,S,h1,h2,h3,h4,h5,rfl⟩,?_⟩
 clear J O B Y G
 rintro σ' H2 ⟨kvs,S,G,J,O,B,Y,rfl⟩;exact a3 (m:=3) (by decide) G J O B Y g2 (by simp[sx,rtx,rty]) (by simp[go,ux,uy]<;>omega) fun kvs S H' h1 h2 h3 h4 h5=>⟨kvs,S,_,_,h1,h2,h3,fun p'=>h4.next hp p',h5,rfl⟩
end
def KyV (H:Hp)(u:V)(x:Pt×Nat):Prop:=∃a,u=.ref a/\H a=some (.tup ((sdK x).map kV))
theorem FL (x:Pt×Nat)(B:x.2<4):sx (pl x) ((x.2+1)%4)=(go x.1 1 x.2,(x.2+1)%4):=by
 obtain⟨p,d⟩:=x;unfold sx pl go;dsimp only at B ⊢;rcases dk B with rfl|rfl|rfl|rfl<;>refine Prod.ext (Prod.ext ?_ ?_) rfl<;>simp[rtx,rty,ux,uy]<;>lia
section
theorem FY (h:(D1 C x.1 x.2).isSome=true)(B:(D1 C (go x.1 1 x.2) ((x.2+1)%4)).isSome=true):nx (D1 C) x=(go x.1 1 x.2,(x.2+1)%4):=by
 obtain⟨G,J⟩:=gQ.mp h;rw[show x=(x.1,x.2) from rfl,mI (fq.mpr ⟨⟨G,J⟩,rfl⟩),if_pos B]
theorem B9 (h:(D1 C x.1 x.2).isSome=true)(Y:¬ (D1 C (go x.1 1 x.2) ((x.2+1)%4)).isSome=true)(hz:(D1 C z.1 z.2).isSome=true)(e:z.1=go x.1 1 x.2):z=nx (D1 C) x:=by
 obtain⟨G,J⟩:=gQ.mp h;obtain⟨z4,B⟩:=gQ.mp hz;obtain⟨d',h1,t,e4,be⟩:=nx1 G J;rw[show nx (D1 C) x=_ from h1];refine Prod.ext e ?_;have hi:=(Gd G (rfl:go x.1 1 x.2=_)).mp J;rw[e]at B;have no:¬ Bd C (go x.1 1 x.2) ((x.2+1)%4):=fun h=>Y (gQ.mpr ⟨KM _ (by decide),h⟩);generalize go x.1 1 x.2=p at *;show z.2=d';generalize z.2=k at *;generalize x.2=d at *;unfold turn at t;unfold Bd at B no;have O:cl C p d:=Classical.byContradiction fun c=>no ⟨hi.1,by rw[show ((d+1)%4+3)%4=d by omega];exact c⟩;have kk:k=d\/k=(d+1)%4\/k=(d+2)%4\/k=(d+3)%4:=by omega
 rcases kk with rfl|rfl|rfl|rfl
 ·rcases t with t|t|t
  ·exact absurd O t.1
  ·exact t.2.2.symm
  ·exact absurd t.2.1 B.2
 ·exact absurd B no
 ·exact absurd B.1 hi.2
 ·rcases t with t|t|t
  ·exact absurd O t.1
  ·exact absurd B.1 t.2.1
  ·exact t.2.2.symm
end
section
abbrev k_:Stmt:=top 56
theorem jI:aE ["_law_sides_here","_law_side","_law_own","_law_other"] ["_law_sides_here","_law_side"] (aq k_):={}
inductive m_  (vs:List V)(H:Hp)(Q:VK):Prop
 |mk (ds a:Addr) (C:II9) (S:LP9) (x:Pt×Nat) (h_0:vs=[.ref ds,.ref a]) (h_1:AK H ds S) (h_2:(∀x,x∈S↔(D1 C x.1 x.2).isSome=true)) (h_3:H a=some (.tup ((sdK x).map kV))) (h_4:x∈S) (h_5:∀u H',ah H H'->KyV H' u (nx (D1 C) x)->Q u H'):m_  vs H Q
def og:Sp:=fun vs H Q _=>m_  vs H Q
theorem wc (T:Tx K mg)(F:bD K "_law_next" "_law_next" k_ f fd .none):bB P w K mg base CX 1 f fd ["_law_sides_here","_law_side"] og:=by
 refine F.ok jI (fun vs H Q E h=>?_) (fun b3 A outer s H vs Q E hr h=>?_)
 ·obtain⟨_,_,_,_,_,rfl,_⟩:=h;rfl
 obtain⟨ds,a,C,S,x,rfl,hS,Y,ha,hx,q'⟩:=h;refine⟨_,(ab (au (i:=2) jI (az (am (aD aI (pv 1) ac) (am (aD aI (pv 1) ac) (am (aj bF (aj aK (aD aI (pv 1) ac) ac) ac) ak))))) (ab (aT (aJ (BZ hr.dic) (pv 2) (pv 0) (by with_unfolding_all rfl)) (af (aB (pv 2))) aF) (ab (aN II rfl (qp (pv 0)) (aP (i:=3) jI) (af (aT (aJ (FR hr) (aD aI (dM hr.dic (pv 0) (pv 3) (fun _ _=>rfl)) ac) (aD aI (dM hr.dic (pv 0) (pv 1) (fun _ _=>rfl)) ac)) (af (aB (pv 3))) aF))) (af (aB (pv 1)))))),?_⟩;have hD:=(Y x).mp hx;obtain⟨h4,hb⟩:=gQ.mp hD;have ha':H a=some (.tup [.int (pl x).1,.int (pl x).2,.int (x.2:Int)]):=by rw[ha,xk];rfl
 refine⟨a,_,_,_,rfl,rfl,SqT.of ha',rfl,a,_,_,_,rfl,rfl,SqT.of ha',rfl,a,_,_,_,rfl,rfl,SqT.of ha',rfl,(by show (0:Int)<4;decide),(leZ rfl),fun b a5=>?_⟩;generalize e1:upd H b _=H1;have s1:ah H H1:=e1▸ah.new a5 _;obtain⟨y,ey⟩:∃y:Pt×Nat,y=(go x.1 1 x.2,(x.2+1)%4):=⟨_,rfl⟩;have w1:H1 b=some (.tup ((sdK y).map kV)):=by
  rw[ey,<-FL x h4,Bp,<-e1,ag];show some (HO.tup [V.int (pl x).1,V.int (pl x).2,V.int (((x.2:Int)+1)%4)])=some (HO.tup [V.int (pl x).1,V.int (pl x).2,V.int (((x.2+1)%4:Nat):Int)]);rw[show ((x.2:Int)+1)%4=(((x.2+1)%4:Nat):Int) by rfl]
 obtain⟨ob,kvs,B,O⟩:=hS.up s1;refine⟨ds,_,rfl,dC.ft (k:=sdK y) B w1,ay (ci (fun c=>?_) (fun c=>?_))⟩
 ·rw[EW O]at c;have c:=IZ c;refine (q' _ _ s1 ⟨b,rfl,?_⟩);rw[FY hD (by have:=(Y y).mp c;rw[ey]at this;exact this),<-ey];exact w1
 have ho:¬ (D1 C (go x.1 1 x.2) ((x.2+1)%4)).isSome=true:=fun h=>c (by rw[EW O];exact IC ((Y y).mpr (by rw[ey];exact h)));obtain⟨vx,a6,_,t,ta,tb,a0,ht,b4,a7⟩:=tK O hx;dsimp only at a0;have a8:=s1 _ _ ha
 let J0:NS9:=fun i σ H2=>H2=H1/\(∀j z,j<i->S[j]? = some z->z.1≠go x.1 1 x.2)/\∃o3:OW9,σ=[some (.ref ds),some (.ref a),some (.ref b),o3]
 refine⟨ds,ob,kvs,rfl,B,nT J0
  ⟨rfl,fun _ _ h=>absurd h (Kv _),none,rfl⟩ (fun i σ H2 _ h=>by rw[h.1];exact B) ?_ ?_⟩
 rotate_left
 ·rintro σ H2 ⟨rfl,no,o3,rfl⟩
  exfalso
  obtain⟨e',n1,_⟩:=nx1 h4 hb;obtain⟨j,hj⟩:=Je ((Y _).mpr (uh hD));refine no j _ ?_ hj (by rw[show nx (D1 C) x=_ from n1]);rw[Paired.length O];exact (Ix.mp hj).1
 rintro i k v b2 σ H2 hk G ⟨rfl,no,o3,rfl⟩;obtain⟨z,hz,ek,t2,a2,c2,et,b5,b6,b7⟩:=aM O hk;dsimp only at ek et;have a1:=ID hz;obtain⟨vz,a9,_,t3,a3,c3,a4,b0,b1,b8⟩:=tK O a1;dsimp only at a4;rw[ek]at G;refine⟨ds,.ref t3,rfl,(by rw[<-a4,<-a9];exact dC.ft (k:=sdK z) B G),t3,_,_,_,rfl,rfl,SqT.of b0,rfl,ds,.ref t,rfl,(by rw[<-a0,<-a6];exact dC.ft (k:=sdK x) B a8),t,_,_,_,rfl,rfl,SqT.of ht,rfl,?_⟩;refine⟨a3,tb,_,_,rfl,rfl,SqT.of b1,SqT.of a7,rfl,rfl,ay (ci (fun c=>?_) (fun c=>?_))⟩
 ·have c':rQ ([z.1.1,z.1.2].map V.int) ([(go x.1 1 x.2).1,(go x.1 1 x.2).2].map V.int)=true:=c;rw[nV,Jd]at c';have ez:z.1=go x.1 1 x.2:=by
   simp only[List.cons.injEq,and_true]at c';exact Prod.ext c'.1 c'.2
  refine (q' _ _ s1 ⟨b2,rfl,?_⟩);rw[<-B9 hD ho ((Y z).mp a1) ez];exact G
 ·refine⟨rfl,fun j z' hj J e=>?_,_,rfl⟩;by_cases ej:j=i
  ·rw[ej,hz]at J;cases J;have c':¬ rQ ([z.1.1,z.1.2].map V.int) ([(go x.1 1 x.2).1,(go x.1 1 x.2).2].map V.int)=true:=c;rw[nV,Jd]at c';exact c' (by rw[e])
  ·exact no j z' (by lia) J e
abbrev ir:Stmt:=top 58
theorem pX:aE ["_law_point"] ["_law_point"] (aq ir):={}
theorem qA (T:Tx K mg)(F:bD K "_law_by_rows" "_law_by_rows" ir f fd .none):bB P w K mg base CX 1 f fd ["_law_point"] L2.o0:=by
 refine F.ok pX (fun vs H Q E h=>?_) (fun J A outer s H vs Q E Y h=>?_)
 ·obtain⟨_,_,_,rfl,_⟩:=h;rfl
 obtain⟨a,x,y,rfl,G,O⟩:=h;refine⟨_,(af (aB (az (am (aD aI (pv 0) ac) (am (aD aI (pv 0) ac) ak))))),?_⟩;refine⟨a,_,_,_,rfl,rfl,SqT.of G,rfl,a,_,_,_,rfl,rfl,SqT.of G,rfl,(leZ rfl),fun b B=>?_⟩;exact O b _ (ah.new B _) ag
end
theorem FC (h:dB H us ps):∃as:List Addr,us=as.map V.ref/\Paired (fun a p=>H a=some (.tup [.int p.1,.int p.2])) as ps:=by
 have h':Paired (PtV H) us ps:=h
 clear h
 induction h' with
 |nil=>exact⟨[],rfl,.nil⟩
 |cons h _ ih=>
  obtain⟨a,e,B⟩:=h;obtain⟨as,G,k⟩:=ih;exact⟨a::as,by rw[e,G];rfl,.cons B k⟩
theorem lE:∀{us:List α} {A B:List β},Paired F us (A++B)->Paired F (us.take A.length) A/\Paired F (us.drop A.length) B
 |us,[],B,h=>⟨.nil,h⟩
 |u::us,a::A,B,.cons h k=>⟨.cons h (lE k).1,(lE k).2⟩
theorem CQ {B:List V}{j:Nat}(hj:j<=B.length):wE B (some (j:Int)) none=B.drop j:=by
 unfold wE;rw[HT.yA,HT.vI,Lo hj];exact IS (by rw[JX];exact Iw _)
theorem Gv {B:List V}{j:Nat}(hj:j<=B.length):wE B none (some (j:Int))=B.take j:=by
 unfold wE;rw[HT.yA,HT.vI,Lo hj,LB,Lc]
section
abbrev ip:Stmt:=top 57
theorem dU:aE ["_law_sides_here","_law_ring","_law_points","_law_k","_law_first"] ["_law_sides_here","_law_ring"] (aq ip):={}
inductive jz  (vs:List V)(H:Hp)(Q:VK):Prop
 |mk (ds lr:Addr) (C:II9) (S:LP9) (z:Pt×Nat) (N:Nat) (ur:List V) (h_0:vs=[.ref ds,.ref lr]) (h_1:AK H ds S) (h_2:(∀x,x∈S↔(D1 C x.1 x.2).isSome=true)) (h_3:z∈S) (h_4:Per (D1 C) z N) (h_5:N<=256) (h_6:H lr=some (.lst ur)) (h_7:Paired (KyV H) ur (aL (D1 C) z N)) (h_8:∀s l us H',rn (D1 C) s->s∈aL (D1 C) z N->ah H H'->H l=none->H' l=some (.lst us)->dB H' us (gU (bZ (D1 C) s))->us.length<=256->(∃r,gU (bZ (D1 C) s)=s.1::r)->Q (.ref l) H'):jz  vs H Q
def jF:Sp:=fun vs H Q _=>jz  vs H Q
theorem qy (T:Tx K mg)(q:bS CX)(F:bD K "_law_corners" "_law_corners" ip f fd .none)(B:Fok P w K mg base CX 1 "_law_by_rows" ["_law_point"] [] L2.o0):bB P w K mg base CX 3 f fd ["_law_sides_here","_law_ring"] jF:=by
 refine F.ok dU (fun vs H Q E h=>?_) (fun d5 A outer s H vs Q E hr h=>?_)
 ·obtain⟨_,_,_,_,_,_,_,rfl,_⟩:=h;rfl
 obtain⟨ds,lr,C,S,z,N,ur,rfl,hS,hm,hz,a7,hN,a8,a9,q'⟩:=h;refine⟨_,(ab (au (i:=2) dU (bg ak)) (ab (aN II rfl (bx rfl T.b_range (aa (av aY rfl T.b_len bN (aa (pv 1) ae)) ae)) (aP (i:=3) dU) (af (aT (aJ mF (aD aI (aD bh (pv 1) (pv 3)) ac) (aD aI (aD bh (pv 1) (aj cT (pv 3) ac)) ac)) (af (ba (bH (pv 2) (aa (aD aI (dM hr.dic (pv 0) (aD bh (pv 1) (pv 3)) (fun _ _=>rfl)) ac) ae)))) aF))) (ab (au (i:=4) dU (vT PySem.F.plainAttrs_list PySem.F.slot_list_index PySem.F.type_list_index (Ak hr.dic) (pv 2) (aa (DX B q hr (aa (pv 2) ae) (hM:=T.b_min)) ae))) (af (aB (aj FS (jT yw (pv 2) (mC (pv 4)) mD) (jT yw (pv 2) mD (mC (pv 4))))))))),?_⟩;have W1:=AV hm;obtain⟨s,J,B1,low,b0,c0,c3,sA,c4⟩:=Bt W1 ((hm z).mp hz) a7;have c5:∀x∈aL (D1 C) z N,x∈S:=fun x hx=>by
  unfold aL at hx;obtain⟨j,_,rfl⟩:=Iv.mp hx;exact (hm _).mpr (W1.go_ ((hm z).mp hz) j)
 have a4:(aL (D1 C) z N).length=N:=dh;have d6:=Paired.length a9;refine⟨(by show 0<=sizeLine;exact IG _),fun Y b3=>?_⟩;generalize e1:upd H Y _=H1;have s1:ah H H1:=e1▸ah.new b3 _;have w1:H1 Y=some (.lst []):=by rw[<-e1];exact ag
 have eN:((ur.length:Int)).toNat=N:=by rw[Jn];lia
 have low':=q' s;rw[c3]at low';generalize aL (D1 C) z N=G at *;obtain⟨ob,kvs,c6,c7⟩:=id hS;have b4:∀j,j<N->∃(a t p c:Addr),ur[j]? = some (.ref a)/\H a=some (.tup ((sdK (cA G j)).map kV))/\bo kvs (sdK (cA G j))=some (.ref t)/\H t=some (.tup [.ref p,.ref c])/\H p=some (.tup [.int (cA G j).1.1,.int (cA G j).1.2]):=fun j hj=>by
  obtain⟨u1,b5⟩:∃u1,ur[j]? = some u1:=⟨ur[j]'(by lia),IE _⟩;obtain⟨y,hy,a,e1,h1⟩:=aM a9 b5;have ez:cA G j=y:=by unfold cA;rw[hy];rfl
  obtain⟨v,hv,_,t,p,c,ev,h2,h3,_⟩:=tK c7 (c5 y (ID hy));dsimp only at ev;rw[ez,b5,e1];exact⟨a,t,p,c,rfl,h1,by rw[hv,ev],h2,h3⟩
 have a3:∀{x:Pt×Nat} {H':Hp} {a:Addr},H' a=some (.tup ((sdK x).map kV))->H' a=some (.tup [.int (pl x).1,.int (pl x).2,.int (x.2:Int)]):=fun h=>by rw[h,xk];rfl
 let J0:NS9:=fun j σ H2=>j<=N/\ah H H2/\∃(us:List V) (o3:OW9),H2 Y=some (.lst us)/\dB H2 us (iA G j)/\us.length<=j/\σ=[some (.ref ds),some (.ref lr),some (.ref Y),o3,none]
 refine⟨_,_,rfl,.inl ⟨_,SqL.of (s1 _ _ a8),rfl⟩,_,rfl,by simp,by lia,bV J0
  ⟨IG _,s1,[],none,w1,.nil,Iw _,rfl⟩ ?_ ?_⟩
 ·rintro j σ H2 hj ⟨_,O,us,o3,w2,p2,l2,rfl⟩;rw[eN]at hj;rw[show (0:Int)+(j:Int)=j from JO _];obtain⟨a1,t1,b1,c1,x1,x2,x3,x4,x5⟩:=b4 j hj;obtain⟨a2,t2,b2,c2,y1,y2,_⟩:=b4 (prv N j) (by unfold prv;split<;>lia);have a5:=O _ _ a8;have yy:atI ur ((j:Int)-1)=some (.ref a2):=BG (by lia) (by rw[show ur.length=N by assumption];exact y1);refine⟨lr,_,_,_,rfl,rfl,SqL.of a5,bG x1,a1,_,_,_,rfl,rfl,SqT.of (a3 (O _ _ x2)),rfl,lr,_,_,_,rfl,rfl,SqL.of a5,yy,a2,_,_,_,rfl,rfl,SqT.of (a3 (O _ _ y2)),rfl,rfl,ay (ci (fun c2=>?_) (fun c2=>?_))⟩
  ·have ic:dj G j=true:=by
    have c2':(!decide (V.int ((cA G j).2:Int)=V.int ((cA G (prv N j)).2:Int)))=true:=c2;unfold dj;rw[a4];refine IC fun e=>?_;rw[e,IC rfl]at c2';cases c2'
   refine⟨.inl ⟨rfl,_,SqL.of w2⟩,lr,_,_,_,rfl,rfl,SqL.of a5,bG x1,ds,.ref t1,rfl,(by rw[<-x3];exact dC.ft (O _ _ c6) (O _ _ x2)),t1,_,_,_,rfl,rfl,SqT.of (O _ _ x4),rfl,Y,us,_,rfl,rfl,w2,cQ (by lia),?_⟩;have t3:bn H2 (upd H2 Y (.lst (us++[.ref b1]))):=bE w2 (by intro xs q;cases q);refine⟨hj,ah.set O b3 _,us++[.ref b1],_,ag,?_,by rw[Iy,Jq];lia,rfl⟩;rw[ie,if_pos ic];exact aR (p2.up t3) (.cons ⟨b1,rfl,t3 _ _ (O _ _ x5)⟩ .nil)
  ·have ic:¬ dj G j=true:=fun h=>by
    have c2':¬ (!decide (V.int ((cA G j).2:Int)=V.int ((cA G (prv N j)).2:Int)))=true:=c2;unfold dj at h;rw[a4]at h;have h':=IZ h;refine c2' ?_;rw[Jh fun e=>h' (by have:=V.int.inj e;lia)];rfl
   refine⟨hj,O,us,_,w2,?_,by lia,rfl⟩;rw[ie,if_neg ic,Jt];exact p2
 rintro σ H2 ⟨_,O,us,o3,w2,p2,l2,rfl⟩;rw[eN]at p2 l2;rw[show iA G N=J++s.1::B1 by rw[<-c0,<-a4];rfl]at p2;obtain⟨as,rfl,a0⟩:=FC p2;have c8:=Paired.length a0;rw[Iy,Jb]at c8;refine⟨.inl ⟨rfl,_,SqL.of w2⟩,Y,as,_,rfl,w2,a0,by lia,fun i a p H3 s3 hi hp c9=>?_⟩;have hp':=ID hp;have ep:p=s.1:=mN (xR (c9 s.1 (by simp))) (c4 p hp');subst ep;obtain⟨a',b6,d0⟩:∃a',as[i]? = some a'/\H2 a'=some (.tup [.int s.1.1,.int s.1.2]):=by
  obtain⟨y,hy,h⟩:=aM a0 hi;rw[hp]at hy;cases hy;exact⟨a,hi,h⟩
 rw[hi]at b6;cases b6;have b7:Paired (fun a p=>H3 a=some (.tup [.int p.1,.int p.2])) as (J++s.1::B1):=Paired.mapP a0 fun a b h=>s3 _ _ h;have w3:=s3 _ _ w2;refine⟨Y,a,as,_,s.1,J.length,rfl,rfl,w3,s3 _ _ d0,b7,by simp,fun k hk h=>sA ?_,?_⟩
 ·rw[Jj hk]at h;exact ID h
 have b8:J.length<=(as.map V.ref).length:=by rw[Iq];lia
 have d1:=O.trans s3;refine⟨_,rfl,Y,_,rfl,SqL.of w3,fun l1 d2=>?_⟩;rw[CQ b8];generalize e4:upd H3 l1 _=H4;have s4:ah H3 H4:=e4▸ah.new d2 _;have w4:H4 l1=some (.lst ((as.map V.ref).drop J.length)):=by rw[<-e4];exact ag
 refine⟨_,rfl,Y,_,rfl,SqL.of (s4 _ _ w3),fun l5 d3=>?_⟩;rw[Gv b8];generalize e5:upd H4 l5 _=H5;have s5:ah H4 H5:=e5▸ah.new d3 _;have w5:H5 l5=some (.lst ((as.map V.ref).take J.length)):=by rw[<-e5];exact ag
 refine⟨l1,l5,_,_,rfl,rfl,s5 _ _ w4,w5,?_,fun l6 a6=>?_⟩
 ·rw[JX,Jl,Iq];rw[Iq]at l2;exact IU (by lia:_<=1000) (by decide)
 have b9:=d1.trans (s4.trans s5);have d4:=b9.trans (ah.new a6 (.lst ((as.map V.ref).drop J.length++(as.map V.ref).take J.length)));have p6:dB (upd H5 l6 (.lst ((as.map V.ref).drop J.length++(as.map V.ref).take J.length))) (as.map V.ref) (J++s.1::B1):=p2.up ((s3.trans (s4.trans s5)).trans (ah.new a6 _)).tups;obtain⟨c1,c2⟩:=lE p6;refine low' l6 _ _ low b0 d4 (b9.free a6) ag (aR c2 c1) ?_ ⟨_,rfl⟩;rw[Iy,JX,Jl,Iq];rw[Iq]at l2
 lia
end
def snK (X:LP9):List (List Key×V):=X.map fun x=>(sdK x,V.bl true)
theorem Dv (X:LP9):(snK X).length=X.length:=Iq ..
theorem tH (X:LP9)(x:Pt×Nat):(bo (snK X) (sdK x)).isSome=decide (x∈X):=by
 rw[<-gf,JH,LU,Jd];constructor
 ·rintro⟨B,h,e⟩;obtain⟨G,h',rfl⟩:=Iv.mp h;rw[<-tL (IZ e)];exact h'
 ·intro h;exact⟨_,Iv.mpr ⟨x,h,rfl⟩,IC rfl⟩
theorem Du (h:x∉X):dY (snK X) (sdK x) (.bl true)=snK (X++[x]):=by
 have e:bo (snK X) (sdK x)=none:=by
  cases q:bo (snK X) (sdK x) with
  |none=>rfl
  |some v=>
   have:=tH X x
   rw[q,Jh h]at this;cases this
 rw[my _ e];unfold snK;rw[IT];rfl
theorem vW (p:l'.Perm l):∀{r:List β},Paired F l r->∃B,B.Perm r/\Paired F l' B:=by
 induction p with
 |nil=>intro r h;exact⟨r,.refl _,h⟩
 |cons x _ ih=>
  intro r h;cases h with
  |cons h k=>
   obtain⟨B,p,G⟩:=ih k;exact⟨_::B,p.cons _,.cons h G⟩
 |swap x y l=>
  intro r h;cases h with
  |cons h k=>
   cases k with
   |cons h' k=>exact⟨_,.swap ..,.cons h' (.cons h k)⟩
 |trans _ _ ih1 ih2=>
  intro r h;obtain⟨r1,J,O⟩:=ih2 h;obtain⟨Y,p2,k2⟩:=ih1 O;exact⟨Y,p2.trans J,k2⟩
def RgW (H:Hp)(u:V)(ps:List Pt):Prop:=∃l us,u=.ref l/\H l=some (.lst us)/\dB H us ps
theorem RgW.up (h:RgW H u ps)(s:ah H H'):RgW H' u ps:=by
 obtain⟨l,B,e,h1,h2⟩:=h;exact⟨l,B,e,s _ _ h1,h2.up s.tups⟩
def FnV (D:PD9)(lf:Addr)(H:Hp)(e:Addr×(Int×Int))(s:Pt×Nat):Prop:=∃kb vb us,H e.1=some (.tup [.ref kb,.ref vb])/\H kb=some (.tup [.int s.1.2,.int s.1.1])/\e.2=(s.1.2,s.1.1)/\vb≠lf/\H vb=some (.lst us)/\dB H us (gU (bZ D s))
theorem FnV.keep (h:FnV D lf H e s)(t:bn H H')(k:∀b xs,b≠lf->H b=some (.lst xs)->H' b=some (.lst xs)):FnV D lf H' e s:=by
 obtain⟨G,J,O,h1,h2,Y,B,h5,h6⟩:=h;exact⟨G,J,O,t _ _ h1,t _ _ h2,Y,B,k _ _ B h5,h6.up t⟩
structure GI (D:PD9)(done ss X:LP9):Prop where
 nd:X.Nodup
 mem:∀x,x∈X↔∃s∈ss,x∈bZ D s
 low:∀s∈ss,rn D s
 all:∀x∈done,x∈X
 one:ss.Nodup
section
theorem GI.closed (W:eB C D)(h:GI D done ss X)(hz:(D z.1 z.2).isSome=true)(G:it (nx D) k z∈X):z∈X:=by
 obtain⟨s,B,J⟩:=(h.mem _).mp G;have ds:=(h.low s B).1;refine (h.mem z).mpr ⟨s,B,W.trans ds J ?_⟩;exact (W.sym hz ((W.mem hz).mpr ⟨k,rfl⟩)).2
theorem GI.add (W:eB C D)(h:GI D done ss X)(hz:(D z.1 z.2).isSome=true)(hn:z∉X)(hP:Per D z N)(Y:rn D s)(O:s∈aL D z N):GI D (done++[z]) (ss++[s]) (X++aL D z N):=by
 have er:=g7 hP;rw[<-er]at O ⊢;have same:∀x,x∈bZ D z↔x∈bZ D s:=fun x=>⟨fun G=>W.trans Y.1 (W.sym hz O).2 G,fun G=>W.trans hz O G⟩;have J:∀x∈bZ D z,x∉X:=fun x G h'=>by
  obtain⟨k,rfl⟩:=(W.mem hz).mp G;exact hn (h.closed W hz h')
 refine⟨JF.mpr ⟨h.nd,?_,fun a ha b hb e=>J b hb (e▸ha)⟩,fun x=>?_,fun s' B=>?_,fun x G=>?_,pi h.one fun hs=>?_⟩
 ·rw[er];unfold aL List.Nodup;rw[Jc];exact List.pairwise_lt_range.imp_of_mem fun {a b} ha hb a0=>hP.2.2 a b a0 (Jm.mp hb)
 ·rw[Iz,h.mem,same];constructor
  ·rintro (⟨s',B,G⟩ | G)
   ·exact⟨s',Ja _ B,G⟩
   ·exact⟨s,by simp,G⟩
  ·rintro⟨s',B,G⟩;rcases Iz.mp B with B | B
   ·exact .inl ⟨s',B,G⟩
   ·rw[Iu.mp B]at G;exact .inr G
 ·rcases Iz.mp B with B|B
  ·exact h.low s' B
  ·rw[Iu.mp B];exact Y
 ·rcases Iz.mp G with G|G
  ·exact Ja _ (h.all x G)
  ·rw[Iu.mp G];exact IW _ (W.self hz)
 ·exact J s O ((h.mem s).mpr ⟨s,hs,W.self Y.1⟩)
theorem GI.skip (h:GI D done ss X)(hz:z∈X):GI D (done++[z]) ss X:=⟨h.nd,h.mem,h.low,fun x B=>by
 rcases Iz.mp B with B|B
 ·exact h.all x B
 ·rw[Iu.mp B];exact hz,h.one⟩
theorem GI.fin (W:eB C D)(Y:∀x,x∈S↔(D x.1 x.2).isSome=true)(h:GI D S ss X)(s:Pt×Nat):s∈ss↔rn D s:=by
 refine⟨h.low s,fun B=>?_⟩;obtain⟨s0,J,O⟩:=(h.mem s).mp (h.all s ((Y s).mpr B.1));have G:=h.low s0 J;have e:=mN (B.2 s0 (W.sym G.1 O).2) (G.2 s O);rw[iP W B.1 G.1 B.2 G.2 e];exact J
end
section
abbrev jN:Stmt:=top 59
theorem cu:aE ["_law_land","_law_sides_here","_law_seen","_law_found","_law_side","_law_ring","_law_points"] ["_law_land"] (aq jN):={}
inductive kR  (vs:List V)(H:Hp)(Q:VK):Prop
 |mk (d:Addr) (ob:Obj) (PL:List Pt) (h_0:vs=[.ref d]) (h_1:H d=some (.frz ob (.dT (ldK PL)))) (h_2:PL.Nodup) (h_3:PL.length<=64) (h_4:∀(ss:LP9) l us H',(∀s,s∈ss↔rn (D1 (CP PL)) s)->(ss.Pairwise fun s s'=>leP s.1 s'.1/\s.1≠s'.1)->ah H H'->H l=none->H' l=some (.lst us)->Paired (RgW H') us (ss.map fun s=>gU (bZ (D1 (CP PL)) s))->Q (.ref l) H'):kR  vs H Q
def mi:Sp:=fun vs H Q _=>kR  vs H Q
theorem ua (T:Tx K mg)(q:bS CX)(F:bD K "_law_rings" "_law_rings" jN f fd .none)(O:Fok P w K mg base CX 1 "_law_sides" ["_law_land"] [] iZ)(a1:Fok P w K mg base CX 1 "_law_next" ["_law_sides_here","_law_side"] [] og)(B:Fok P w K mg base CX 1 "_law_by_rows" ["_law_point"] [] L2.o0)(G:Fok P w K mg base CX 3 "_law_corners" ["_law_sides_here","_law_ring"] [] jF):bB P w K mg base CX 4 f fd ["_law_land"] mi:=by
 refine F.ok cu (fun vs H Q E h=>?_) (fun j5 A outer s H vs Q E hr h=>?_)
 ·obtain⟨_,_,_,rfl,_⟩:=h;rfl
 obtain⟨d,ob,PL,rfl,hd,nd,g2,q'⟩:=h;refine⟨_,(ab (au (i:=1) cu (ai O q hr (aa (pv 0) ae))) (ab (au (i:=2) cu mE) (ab (au (i:=3) cu (bg ak)) (ab (aN II rfl (qp (pv 1)) (aP (i:=4) cu) (ab (au (i:=5) cu (bg ak)) (ab (jQ II (aJ (cS hr.dic) (pv 4) (pv 2) (by with_unfolding_all rfl)) (ab (dZ hr.dic (pv 2) (pv 4) cX (cG rfl)) (ab (ba (bH (pv 5) (aa (pv 4) ae))) (af (au (i:=4) cu (ai a1 q hr (aa (pv 1) (aa (pv 4) ae)))))))) (af (aT (aJ (BY hr) (pv 5) (bg ak)) (ab (au (i:=6) cu (ai G q hr (aa (pv 1) (aa (pv 5) ae)))) (af (ba (bH (pv 3) (aa (az (am (ai B q hr (aa (aD bh (pv 6) ac) ae)) (am (pv 6) ak))) ae))))) aF))))) (af (aB (jU (N':=["_law_entry"]) [] [] [] 1 {} (bQ (av (x8 rfl hr) rfl T.b_sorted kC (aa (pv 3) ae))) (fun _ _ _ _ _=>(oi (i:=0))) (fun _ _ _ _ _=>(aD (pA (K:=K)) (pv 0) ac))))))))),?_⟩
 refine⟨d,ob,PL,rfl,hd,nd,g2,fun ds S H1 s1 j6 hS j7 hm lS=>?_⟩;have W1:=AV hm;generalize eD:D1 (CP PL)=D at *;refine nw fun dn H2 g3 s2 w2=>?_;refine⟨(by show 0<=sizeLine;exact IG _),nw fun lf H3 g4 s3 w3=>?_⟩;have g5:H1 lf=none:=s2.free g4;obtain⟨g6,kvs,d9,e0⟩:=id hS;have g7:=Paired.length e0;have len:∀{l:LP9},l.Nodup->(∀x∈l,(D x.1 x.2).isSome=true)->l.length<=256:=fun h k=>IU (dt h fun x Y=>(hm x).mpr (k x Y)) lS
 let J0:NS9:=fun i σ H4=>∃(ss X:LP9) (es:List (Addr×(Int×Int))) (o4 o5 o6:OW9),ah H1 H4/\H4 dn=some (.dT (snK X))/\H4 lf=some (.lst (es.map fun e=>V.ref e.1))/\Paired (FnV D lf H4) es ss/\GI D (S.take i) ss X/\σ=[some (.ref d),some (.ref ds),some (.ref dn),some (.ref lf),o4,o5,o6]
 refine⟨ds,g6,kvs,rfl,(s2.trans s3) _ _ d9,nT J0
  ⟨[],[],[],none,none,none,s2.trans s3,s3 _ _ w2,w3,.nil,⟨Km,fun x=>⟨fun h=>(by cases h),fun⟨_,h,_⟩=>(by cases h)⟩,fun _ h=>(by cases h),fun x h=>by simp at h,Km⟩,rfl⟩ (fun i σ H4 _ ⟨_,_,_,_,_,_,s4,_,_,_,_,_⟩=>s4 _ _ d9) ?_ ?_⟩
 ·rintro i k v b σ H4 hk J ⟨ss,X,es,o4,o5,o6,s4,d4,w4,hF,gi,rfl⟩;obtain⟨z,hz,ek,_⟩:=aM e0 hk;dsimp only at ek;rw[ek]at J;have e2:=ID hz;have a8:=(hm z).mp e2;have e3:S.take (i+1)=S.take i++[z]:=by rw[Kl,hz];rfl
  have e4:∀x∈X,(D x.1 x.2).isSome=true:=fun x Y=>by
   obtain⟨s,hs,hr⟩:=(gi.mem x).mp Y;exact (W1.sym (gi.low s hs).1 hr).1
  refine⟨(by show 0<=sizeLine;exact IG _),nw fun lr H5 b4 s5 w5=>?_⟩;have e6:H1 lr=none:=s4.free b4;obtain⟨NN,a9⟩:∃NN,(z∈X/\NN=0)\/(z∉X/\Per D z NN):=by
   by_cases c:z∈X
   ·exact⟨0,.inl ⟨c,rfl⟩⟩
   ·obtain⟨N,h⟩:=W1.back a8;exact⟨N,.inr ⟨c,h⟩⟩
  have rk:∀{k:Nat} {x:Pt×Nat},x∈aL D z k->∃j,j<k/\x=it (nx D) j z:=fun {k x} h=>by
   unfold aL at h;obtain⟨j,hj,rfl⟩:=Iv.mp h;exact⟨j,Jm.mp hj,rfl⟩
  have a2:∀k,k<NN->it (nx D) k z∉X++aL D z k:=fun k hk h=>by
   rcases a9 with⟨_,e⟩|⟨hn,hP⟩
   ·lia
   ·rcases Iz.mp h with h|h
    ·exact hn (gi.closed W1 a8 h)
    ·obtain⟨j,hj,e⟩:=rk h;exact hP.2.2 j k hj hk e.symm
  have c8:it (nx D) NN z∈X++aL D z NN:=by
   rcases a9 with⟨Y,e⟩|⟨hn,hP⟩
   ·rw[e];exact Ja _ Y
   ·rw[hP.2.1];refine IW _ ?_;unfold aL;exact Iv.mpr ⟨0,Jm.mpr hP.1,rfl⟩
  have g8:∀k,k<=NN->(X++aL D z k).Nodup:=fun k hk=>by
   refine JF.mpr ⟨gi.nd,?_,fun a ha b J e=>?_⟩
   ·unfold aL List.Nodup;rw[Jc];refine List.pairwise_lt_range.imp_of_mem fun {a b} ha J g9=>?_;rcases a9 with⟨_,e⟩ | ⟨_,hP⟩
    ·have:=Jm.mp J;lia
    ·exact hP.2.2 a b g9 (by have:=Jm.mp J;lia)
   ·obtain⟨j,hj,e'⟩:=rk J;exact a2 j (by lia) (Ja _ (by rw[<-e',<-e];exact ha))
  have e9:∀k,∀x∈X++aL D z k,(D x.1 x.2).isSome=true:=fun k x Y=>by
   rcases Iz.mp Y with Y|Y
   ·exact e4 x Y
   ·obtain⟨j,_,rfl⟩:=rk Y;exact W1.go_ a8 j
  have f0:∀k,k<=NN->(X++aL D z k).length<=256:=fun k hk=>len (g8 k hk) (e9 k);have d5:=s5 _ _ d4;have ldn:lr≠dn:=fun e=>by rw[e,d4]at b4;cases b4
  let J1:NS9:=fun m σ H6=>∃(k:Nat) (u:V) (us:List V),m=NN-k/\k<=NN/\ah H1 H6/\(∀b o,b≠dn->H4 b=some o->H6 b=some o)/\H6 dn=some (.dT (snK (X++aL D z k)))/\H6 lr=some (.lst us)/\Paired (KyV H6) us (aL D z k)/\KyV H6 u (it (nx D) k z)/\σ=[some (.ref d),some (.ref ds),some (.ref dn),some (.ref lf),some u,some (.ref lr),o6]
  refine⟨J1,⟨_,0,.ref b,[],rfl,IG _,s4.trans s5,fun b o _ e=>s5 _ _ e,by rw[show aL D z 0=[] from rfl,Jt];exact d5,w5,.nil,⟨b,rfl,s5 _ _ J⟩,rfl⟩,?_⟩;rintro m σ H6 ⟨k,u,us,rfl,hk,s6,k6,d6,u6,c9,⟨a,rfl,ha⟩,rfl⟩;have b5:=Paired.length c9;rw[dh]at b5;have lk:=f0 k hk;rw[Iy,dh]at lk;refine⟨dn,_,rfl,dC.t (k:=sdK (it (nx D) k z)) d6 ha,ay (ci (fun c=>?_) (fun c=>?_))⟩
  ·have b9:it (nx D) k z∉X++aL D z k:=fun h=>by
    rw[tH,IC h]at c;cases c
   have h0:k<NN:=Nat.lt_of_le_of_ne hk fun e=>b9 (by rw[e];exact c8);refine⟨fun σ' H7=>∃(u:V) (us:List V),k+1<=NN/\ah H1 H7/\(∀b o,b≠dn->H4 b=some o->H7 b=some o)/\H7 dn=some (.dT (snK (X++aL D z (k+1))))/\H7 lr=some (.lst us)/\Paired (KyV H7) us (aL D z (k+1))/\KyV H7 u (it (nx D) (k+1) z)/\σ'=[some (.ref d),some (.ref ds),some (.ref dn),some (.ref lf),some u,some (.ref lr),o6],fun σ' H7 ⟨u,us,h1,h2,h3,h4,h5,h6,h7,h8⟩=>⟨NN-(k+1),by lia,k+1,u,us,rfl,h1,h2,h3,h4,h5,h6,h7,h8⟩,?_⟩;refine⟨dn,_,rfl,lV.t (k:=sdK (it (nx D) k z)) d6 ha (IJ (by rw[Dv,Iy,dh];lia:_<1000) (by decide)),?_⟩;rw[Du b9];generalize e7:upd H6 dn _=H7;have s7:ah H1 H7:=e7▸ah.set s6 g3 _;have t7:bn H6 H7:=e7▸bE d6 (by intro xs z;cases z);have k7:∀b o,b≠dn->H6 b=some o->H7 b=some o:=fun b o J e=>by rw[<-e7,aA J];exact e
   have d7:H7 dn=some (.dT (snK ((X++aL D z k)++[it (nx D) k z]))):=by rw[<-e7];exact ag
   have u7:=k7 _ _ ldn u6;refine⟨.inl ⟨rfl,_,SqL.of u7⟩,lr,us,_,rfl,rfl,u7,cQ (by lia),?_⟩;generalize e8:upd H7 lr _=H8;have s8:ah H1 H8:=e8▸ah.set s7 e6 _;have t8:bn H7 H8:=e8▸bE u7 (by intro xs z;cases z);have k8:∀b o,b≠lr->H7 b=some o->H8 b=some o:=fun b o J e=>by rw[<-e8,aA J];exact e
   have u8:H8 lr=some (.lst (us++[.ref a])):=by rw[<-e8];exact ag
   have f1:=t8 _ _ (t7 _ _ ha);refine⟨ds,a,CP PL,S,it (nx D) k z,rfl,hS.up s8,(by rw[eD];exact hm),f1,(hm _).mpr (W1.go_ a8 k),fun u H9 s9 hu=>?_⟩;rw[eD]at hu;refine⟨u,us++[.ref a],h0,s8.trans s9,fun b o J e=>s9 _ _ (k8 _ _ (fun z=>by rw[z,b4]at e;cases e) (k7 _ _ J (k6 _ _ J e))),?_,s9 _ _ u8,?_,hu,rfl⟩
   ·rw[lC,<-Jv];exact s9 _ _ (k8 _ _ ldn.symm d7)
   ·rw[lC];have h9:=(t7.trans t8).trans s9.tups;exact aR (Paired.mapP c9 fun a b ⟨c,e,h⟩=>⟨c,e,h9 _ _ h⟩) (.cons ⟨a,rfl,s9 _ _ f1⟩ .nil)
  have i0:it (nx D) k z∈X++aL D z k:=by
   rw[tH]at c;by_cases e:it (nx D) k z∈X++aL D z k
   ·exact e
   ·rw[Jh e]at c;exact absurd rfl c
  have i1:k=NN:=by
   by_cases e:k=NN
   ·exact e
   ·exact absurd i0 (a2 k (by lia))
  subst i1;have i2:bn H4 H6:=fun b xs e=>k6 b _ (fun z=>by rw[z,d4]at e;cases e) e;have f2:∀b xs,H4 b=some (.lst xs)->H6 b=some (.lst xs):=fun b xs e=>k6 b _ (fun z=>by rw[z,d4]at e;cases e) e;have f3:Paired (FnV D lf H6) es ss:=Paired.mapP hF fun a b h=>h.keep i2 fun b xs _ e=>f2 _ _ e;have w6:=f2 _ _ w4;refine⟨(by show 0<=sizeLine;exact IG _),nw fun le H7 i3 s7 w7=>?_⟩;have i4:Paired (FnV D lf H7) es ss:=Paired.mapP f3 fun a b h=>h.keep s7.tups fun b xs _ e=>s7 _ _ e;refine⟨lr,le,us,rfl,rfl,(fun z=>by rw[z,i3]at u6;cases u6),s7 _ _ u6,w7,ay (ci (fun c=>?_) (fun c=>?_))⟩
  rotate_left
  ·rcases a9 with⟨Y,e⟩|⟨hn,hP⟩
   ·refine⟨ss,X,es,_,_,_,s6.trans s7,?_,s7 _ _ w6,i4,by rw[e3];exact gi.skip Y,rfl⟩;rw[e,show aL D z 0=[] from rfl,Jt]at d6;exact s7 _ _ d6
   ·exfalso
    have:=hP.1
    cases us with
    |nil=>simp at b5;lia
    |cons=>exact c rfl
  rcases a9 with⟨Y,e⟩|⟨hn,hP⟩
  ·exfalso
   rw[e]at b5;rw[Jz b5]at c;cases c
  refine⟨ds,lr,CP PL,S,z,k,us,rfl,hS.up (s6.trans s7),(by rw[eD];exact hm),e2,(by rw[eD];exact hP),by lia,s7 _ _ u6,(by rw[eD];exact Paired.mapP c9 fun a b ⟨c,e,h⟩=>⟨c,e,s7 _ _ h⟩),fun s l ps H8 low c0 s8 nl ul b0 j8 b1=>?_⟩;rw[eD]at low c0 b0 b1;obtain⟨r,er⟩:=b1;have hpts':dB H8 ps (s.1::r):=by rw[<-er];exact b0
  obtain⟨u0,f4,i5,a0,i6,i7⟩:∃u0 f4,ps=u0::f4/\∃a0,u0=.ref a0/\H8 a0=some (.tup [.int s.1.1,.int s.1.2]):=by
   have h':Paired (PtV H8) ps (s.1::r):=hpts';cases h' with
   |cons h _=>exact⟨_,_,rfl,h⟩
  have f5:=s7.trans s8;have w8:=f5 _ _ w6;refine⟨.inl ⟨rfl,_,SqL.of w8⟩,l,ps,_,.ref a0,rfl,rfl,SqL.of ul,(bG (j:=0) (by rw[i5,i6];rfl)),a0,s.1.1,s.1.2,rfl,i7,fun p H9 s9 hp=>?_⟩;refine⟨(leZ rfl),nw fun t d0 ht f6 i8=>?_⟩;have a3:=s9.trans f6;have a4:=f5.trans a3;have c5:=a3 _ _ w8;have j9:es.length<=256:=by
   rw[Paired.length hF];exact len gi.one fun x Y=>(gi.low x Y).1
  refine⟨lf,_,_,rfl,rfl,c5,cQ (by rw[Iq];lia),?_⟩;generalize b6:upd d0 lf _=b7;have i9:ah H1 b7:=b6▸ah.set (s6.trans a4) g5 _;have b8:bn d0 b7:=b6▸bE c5 (by intro xs z;cases z);have d1:∀b o,b≠lf->d0 b=some o->b7 b=some o:=fun b o J e=>by rw[<-b6,aA J];exact e
  have f7:b7 lf=some (.lst ((es++[(t,(s.1.2,s.1.1))]).map fun e=>V.ref e.1)):=by rw[<-b6,IT];exact ag
  have f8:l≠lf:=fun z=>by rw[z,s7 _ _ w6]at nl;cases nl
  have f9:dn≠lf:=fun z=>by rw[z,w4]at d4;cases d4
  refine⟨ss++[s],X++aL D z k,es++[(t,(s.1.2,s.1.1))],_,_,_,i9,d1 _ _ f9 (a4 _ _ d6),f7,?_,by rw[e3];exact gi.add W1 a8 hn hP low c0,rfl⟩;refine aR (Paired.mapP f3 fun a b h=>h.keep (a4.tups.trans b8) fun b xs J e=>d1 _ _ J (a4 _ _ e)) (.cons ⟨p,l,ps,b8 _ _ i8,b8 _ _ (f6 _ _ hp),rfl,f8,d1 _ _ f8 (a3 _ _ ul),b0.up (a3.tups.trans b8)⟩ .nil)
 rintro σ H4 ⟨ss,X,es,o4,o5,o6,s4,d4,w4,hF,gi,rfl⟩;rw[g7,Jw]at gi;have d2:=gi.fin W1 hm;have c6:∀s∈ss,∀s'∈ss,s.1=s'.1->s=s':=fun s hs s' a5 e=>iP W1 (gi.low s hs).1 (gi.low s' a5).1 (gi.low s hs).2 (gi.low s' a5).2 e;refine⟨[],rfl,lf,es,rfl,w4,fun e he=>?_,fun e he e' j0 eq=>?_,fun LS a6 j1 d3 c7=>?_⟩
 ·obtain⟨i,hi⟩:=Je he;obtain⟨s,_,kb,vb,us,h1,h2,h3,_⟩:=aM hF hi;exact⟨kb,vb,h1,by rw[h3];exact h2⟩
 ·obtain⟨i,hi⟩:=Je he;obtain⟨j,hj⟩:=Je j0;obtain⟨s,hs,_,_,_,_,_,h3,_⟩:=aM hF hi;obtain⟨s',a5,_,_,_,_,_,d8,_⟩:=aM hF hj;rw[h3,d8]at eq;have e1:s=s':=c6 s (ID hs) s' (ID a5) (Prod.ext (I_ Prod.snd eq) (I_ Prod.fst eq));rw[<-e1]at a5
  have:=(K8 (Ix.mp hs).1 gi.one).mp (hs.trans a5.symm)
  rw[this,hj]at hi;exact (Option.some.inj hi).symm
 obtain⟨b2,b3,a7⟩:=vW d3 hF;have j2:a6.length<=256:=by
  rw[Paired.length a7,b3.length_eq];exact len gi.one fun x Y=>(gi.low x Y).1
 generalize e5:upd H4 LS _=H5;have s5:ah H4 H5:=e5▸ah.new j1 _;have w5:H5 LS=some (.lst (a6.map fun e=>V.ref e.1)):=by rw[<-e5];exact ag
 have g0:Paired (FnV D lf H5) a6 b2:=Paired.mapP a7 fun a b h=>h.keep s5.tups fun b xs _ e=>s5 _ _ e;refine⟨LS,rfl,⟨_,SqL.of w5⟩,lN (a6.map fun e=>V.ref e.1) (fun D' j ys H'=>ah H5 H'/\H' D'=some (.lst ys)/\ys.length=j/\Paired (RgW H5) ys ((b2.take j).map fun s=>gU (bZ D s))) (by rw[Iq];exact IU j2 (by decide)) (fun D j ys H' h=>SqL.of (h.1 _ _ w5))
  (fun D j ys H' h=>⟨h.2.1,by rw[h.2.2.1];exact Iw _⟩) (fun D hD=>⟨ah.new hD _,ag,rfl,.nil⟩) ?_ ?_ (fun _ _ _ _ _ k h=>k _ _ h) ?_⟩
 ·rintro D' j x ys H' Y hD ⟨c1,c2,c3,c4⟩;rw[IM]at Y;obtain⟨e,he,rfl⟩:=IX.mp Y;obtain⟨s,hs,kb,vb,us,h1,h2,h3,h4,h5,h6⟩:=aM g0 he;refine⟨rfl,e.1,_,_,_,rfl,rfl,SqT.of (c1 _ _ h1),rfl,c2,ah.set c1 hD _,ag,by rw[Iy,c3];rfl,?_⟩;rw[Kl,hs,IT];exact aR c4 (.cons ⟨vb,us,rfl,h5,h6⟩ .nil)
 ·rintro D' ys H' hD ⟨c1,c2,c3,c4⟩;rw[Iq,Paired.length g0,Jw]at c4;have g1:=s1.trans (s4.trans s5);refine q' b2 D' ys H' (fun s=>by rw[b3.mem_iff];exact d2 s) ?_ (g1.trans c1) (g1.free hD) c2 (Paired.mapP c4 fun a b h=>h.up c1);have nd':b2.Nodup:=b3.nodup_iff.mpr gi.one;have j3:b2.Pairwise fun s s'=>leP s.1 s'.1:=by
   rw[JA]at c7 ⊢;intro i j hi hj j4;have li:i<a6.length:=by rw[Paired.length a7];exact hi
   have lj:j<a6.length:=by rw[Paired.length a7];exact hj
   obtain⟨a,ha,_,_,_,_,_,h3,_⟩:=aM a7 (IE li);obtain⟨b,J,_,_,_,_,_,d8,_⟩:=aM a7 (IE lj)
   have:=c7 i j li lj j4
   rw[h3,d8]at this;rw[IE hi]at ha;rw[IE hj]at J;rw[Option.some.inj ha,Option.some.inj J];exact xR this
  refine (j3.and nd').imp_of_mem fun {a b} ha J ⟨h1,h2⟩=>⟨h1,fun e=>h2 (c6 a (b3.mem_iff.mp ha) b (b3.mem_iff.mp J) e)⟩
 ·intro σ H' R R' k h_;obtain⟨_,h1,h_⟩:=aO h_;obtain⟨a,b,c,e,h2,h3,h4,h5,h⟩:=h_;exact aW h1 ⟨a,b,c,e,h2,h3,h4,h5,k _ _ h⟩
end
def pmO (n:Nat)(m:Mem):List Pt:=gH (cxs (dig (txt m.1))*2^(n-(txt m.1).length)) (cys (dig (txt m.1))*2^(n-(txt m.1).length)) (2^(n-(txt m.1).length))
section
abbrev du:Stmt:=top 60
theorem cz:aE ["_law_members","_law_land","_law_level","_law_seen","_law_member","_law_place"] ["_law_members","_law_land","_law_level"] (aq du):={}
inductive eQ  (vs:List V)(H:Hp)(Q:VK):Prop
 |mk (lm d:Addr) (n:Nat) (us:List V) (M:List Mem) (ob:Obj) (PL:List Pt) (h_0:vs=[.ref lm,.ref d,.int (n:Int)]) (h_1:H lm=some (.lst us)) (h_2:mZ H us M) (h_3:(∀m∈M,IsC (txt m.1)/\(txt m.1).length<=n)) (h_4:n<=3) (h_5:H d=some (.frz ob (.dT (ldK PL)))) (h_6:PL.Nodup) (h_7:PL.length<=64) (h_8:(M.flatMap (pmO n)).Nodup) (h_9:(∀p,p∈M.flatMap (pmO n)↔p∈PL)) (h_10:∀H',ah H H'->Q (.bl true) H'):eQ  vs H Q
def fr:Sp:=fun vs H Q _=>eQ  vs H Q
theorem jW (T:Tx K mg)(q:bS CX)(F:bD K "_law_members_right" "_law_members_right" du f fd .none)(J:Fok P w K mg base CX 1 "_law_places_of" ["_law_code","_law_level"] [] iJ):bB P w K mg base CX 2 f fd ["_law_members","_law_land","_law_level"] fr:=by
 refine F.ok cz (fun vs H Q E h=>?_) (fun b6 A outer s H vs Q E hr h=>?_)
 ·obtain⟨_,_,_,_,_,_,_,rfl,_⟩:=h;rfl
 obtain⟨lm,d,n,us,M,ob,PL,rfl,a0,hM,hC,hn,hd,nd,b7,a1,O,q'⟩:=h;refine⟨_,(ab (aT (ce (bL (av (aQ "list") rfl T.b_isinstance aH (aa (pv 0) (aa (cm T.b_list pK) ae))))) (af (aB cX)) aF) (ab (au (i:=3) cz mE) (ab (aN II rfl (bQ (pv 0)) (aP (i:=4) cz) (ab (aT (PW.pt (g_ (ce (bL (av (aQ "tuple") rfl T.b_isinstance aH (aa (pv 4) (aa (cm T.b_tuple fE) ae))))) (g_ (aJ mF (av aY rfl T.b_len bN (aa (pv 4) ae)) ac) (gG (ce (bL (av (aQ "str") rfl T.b_isinstance aH (aa (aD aI (pv 4) ac) (aa (cm T.b_str uY) ae))))))))) (af (aB cX)) aF) (af (aN II rfl (bQ (ai J q hr (aa (aD aI (pv 4) ac) (aa (pv 2) ae)))) (aP (i:=5) cz) (ab (aT (PW.pt (g_ (aJ (BZ hr.dic) (pv 5) (pv 3) (by with_unfolding_all rfl)) (gG (aJ (cS hr.dic) (pv 5) (pv 1) (by with_unfolding_all rfl))))) (af (aB cX)) aF) (af (dZ hr.dic (pv 3) (pv 5) cX (cG rfl)))))))) (af (aB (hE gJ (av n5 rfl T.b_len bN (aa (pv 3) ae)) (av n5 rfl T.b_len bN (aa (pv 1) ae)))))))),?_⟩
 have lF:(M.flatMap (pmO n)).length=PL.length:=L3 (dt a1 fun p hp=>(O p).mp hp) (dt nd fun p hp=>(O p).mpr hp);refine⟨_,_,_,rfl,.lst a0,uC,ay (dv ?_)⟩;refine nw fun Y H1 a8 s1 w1=>?_
 let J0:NS9:=fun i σ H2=>∃o4 o5:OW9,ah H H2/\H2 Y=some (.dT (ldK ((M.take i).flatMap (pmO n))))/\σ=[some (.ref lm),some (.ref d),some (.int (n:Int)),some (.ref Y),o4,o5]
 refine⟨lm,rfl,⟨_,SqL.of (s1 _ _ a0)⟩,bJ (xs:=us) J0
  ⟨none,none,s1,w1,rfl⟩ (fun i σ H2 _ ⟨_,_,h,_,_⟩=>SqL.of (h _ _ a0)) ?_ ?_⟩
 rotate_left
 ·rintro σ H2 ⟨o4,o5,s2,w2,rfl⟩;rw[Paired.length hM,Jw]at w2;refine⟨Y,_,rfl,.inl w2,d,_,rfl,.inr ⟨ob,s2 _ _ hd⟩,rfl,?_⟩;rw[hV,hV,lF,IC rfl];exact q' _ s2
 rintro i u σ H2 hu ⟨o4,o5,s2,w2,rfl⟩;obtain⟨mm,a4,pm,rfl,a9⟩:=aM hM hu;have a5:=s2 _ _ a9;have tm:=SqT.of (K:=K) a5;obtain⟨hc,hl⟩:=hC mm (ID a4);have a6:(M.take (i+1)).flatMap (pmO n)=(M.take i).flatMap (pmO n)++pmO n mm:=by
  rw[Kl,a4,Jx];simp
 have a2:∃R,M.flatMap (pmO n)=(M.take i).flatMap (pmO n)++pmO n mm++R:=by
  refine⟨(M.drop (i+1)).flatMap (pmO n),?_⟩;rw[<-a6,<-Jx,Ju]
 obtain⟨R,eR⟩:=a2;refine⟨_,_,_,rfl,.tup a5,j5,ay (dv ?_)⟩;refine⟨_,_,rfl,.inr ⟨_,tm,rfl⟩,rfl,ay (wt rfl ?_)⟩;refine⟨pm,_,_,_,rfl,rfl,tm,rfl,_,_,_,rfl,.str _,Cs,ay (dv ?_)⟩;refine⟨pm,_,_,_,rfl,rfl,tm,rfl,txt mm.1,n,rfl,hc,hl,hn,fun D ud H3 s3 nD uD b0=>?_⟩;have hud':dB H3 ud (pmO n mm):=b0;have b1:=Paired.length hud';have b2:D≠Y:=fun z=>by rw[z,w2]at nD;cases nD
 have b3:∀(A B:List Pt),A++B=M.flatMap (pmO n)->A.length<=64:=fun A B e=>by
  have:=I_ List.length e
  rw[Iy,lF]at this
  lia
 generalize (M.take i).flatMap (pmO n)=F at *;generalize pmO n mm=G at *
 let J1:NS9:=fun j σ H4=>∃o5:OW9,ah H H4/\bn H3 H4/\H4 D=some (.lst ud)/\H4 Y=some (.dT (ldK (F++G.take j)))/\σ=[some (.ref lm),some (.ref d),some (.int (n:Int)),some (.ref Y),some (.ref pm),o5]
 refine⟨D,rfl,⟨_,SqL.of uD⟩,bJ (xs:=ud) J1
  ⟨_,s2.trans s3,bn.refl _,uD,by rw[L_,Jt];exact s3 _ _ w2,rfl⟩ (fun i σ H2 _ ⟨_,_,_,h,_,_⟩=>SqL.of h) ?_ ?_⟩
 rotate_left
 ·rintro σ H4 ⟨o5,s4,t4,D4,w4,rfl⟩;refine⟨_,_,s4,?_,rfl⟩;rw[b1,Jw]at w4;rw[a6];exact w4
 rintro j u σ H4 b4 ⟨o5,s4,t4,D4,w4,rfl⟩;obtain⟨p,hp,a,rfl,ha⟩:=aM hud' b4;have a3:H4 a=some (.tup ((inn p).map kV)):=t4 _ _ ha;have eG:G=G.take j++p::G.drop (j+1):=by
  have hj:=(Ix.mp hp).1;have h1:=Ju j G;rw[JM hj,(Ix.mp hp).2]at h1;exact h1.symm
 have b5:p∈PL:=(O p).mp (by rw[eR,eG];simp);have a7:p∉F++G.take j:=fun h=>by
  rw[eR,eG,show F++(G.take j++p::G.drop (j+1))++R=(F++G.take j)++(p::G.drop (j+1)++R) by simp]at a1;exact (JF.mp a1).2.2 p h p (by simp) rfl
 refine⟨Y,_,rfl,dC.t (k:=inn p) w4 a3,ay (ci (fun c=>?_) (fun _=>?_))⟩
 ·rw[mO,Jh a7]at c;cases c
 refine⟨d,_,rfl,dC.ft (k:=inn p) (s4 _ _ hd) a3,ay (ci (fun c=>?_) (fun _=>?_))⟩
 ·rw[mO,IC b5]at c;cases c
 have b8:=b3 (F++G.take j) (p::G.drop (j+1)++R) (by rw[eR];conv=>{rhs;rw[eG]};simp);refine⟨Y,_,rfl,lV.t (k:=inn p) w4 a3 (IJ (by rw[hV];lia:_<1000) (by decide)),?_⟩;rw[yX a7];have t5:∀o,bn H4 (upd H4 Y o):=fun o=>bE w4 (by intro xs z;cases z);refine⟨_,ah.set s4 a8 _,t4.trans (t5 _),by rw[aA b2];exact D4,?_,rfl⟩;rw[ag,Kl,hp,Jv];rfl
abbrev dX:Stmt:=top 61
theorem cL:aE ["_law_found","_law_ring","_law_point","_law_number"] ["_law_found"] (aq dX):={}
inductive fN  (vs:List V)(H:Hp)(Q:VK):Prop
 |mk (l:Addr) (us:List V) (Ps:List (List Pt)) (h_0:vs=[.ref l]) (h_1:H l=some (.lst us)) (h_2:Paired (RgW H) us Ps) (h_3:Q (.bl true) H):fN  vs H Q
def gj:Sp:=fun vs H Q _=>fN  vs H Q
theorem lH (T:Tx K mg)(F:bD K "_law_kinds_right" "_law_kinds_right" dX f fd .none):bB P w K mg base CX 1 f fd ["_law_found"] gj:=by
 refine F.ok cL (fun vs H Q E h=>?_) (fun a3 A outer s H vs Q E hr h=>?_)
 ·obtain⟨_,_,_,rfl,_⟩:=h;rfl
 obtain⟨l,us,Ps,rfl,Y,hP,q'⟩:=h;refine⟨_,(ab (aT (ce (bL (av (aQ "list") rfl T.b_isinstance aH (aa (pv 0) (aa (cm T.b_list pK) ae))))) (af (aB cX)) aF) (ab (aN II rfl (bQ (pv 0)) (aP (i:=1) cL) (ab (aT (ce (bL (av (aQ "list") rfl T.b_isinstance aH (aa (pv 1) (aa (cm T.b_list pK) ae))))) (af (aB cX)) aF) (af (aN II rfl (bQ (pv 1)) (aP (i:=2) cL) (ab (aT (ce (bL (av (aQ "tuple") rfl T.b_isinstance aH (aa (pv 2) (aa (cm T.b_tuple fE) ae))))) (af (aB cX)) aF) (af (aN II rfl (tR (pv 2)) (aP (i:=3) cL) (af (aT (PW.pt (g_ (ce (bL (av (aQ "int") rfl T.b_isinstance aH (aa (pv 3) (aa (cm T.b_int fL) ae))))) (gG (bL (av (aQ "bool") rfl T.b_isinstance aH (aa (pv 3) (aa (cm T.b_bool pL) ae))))))) (af (aB cX)) aF))))))))) (af (aB cX)))),?_⟩
 refine⟨_,_,_,rfl,.lst Y,uC,ay (dv ?_)⟩;refine⟨l,rfl,⟨_,SqL.of Y⟩,bJ (xs:=us) (fun i σ H2=>H2=H/\∃o1 J B:OW9,σ=[some (.ref l),o1,J,B])
  ⟨rfl,none,none,none,rfl⟩ (fun i σ H2 _ h=>SqL.of (by rw[h.1];exact Y)) ?_ ?_⟩
 rotate_left
 ·rintro σ H2 ⟨rfl,o1,J,B,rfl⟩;exact q'
 rintro i u σ H2 hu ⟨rfl,o1,J,B,rfl⟩;obtain⟨ps,_,lr,ur,rfl,G,a0⟩:=aM hP hu;refine⟨_,_,_,rfl,.lst G,uC,ay (dv ?_)⟩;refine⟨lr,rfl,⟨_,SqL.of G⟩,bJ (xs:=ur) (fun i σ O=>O=H2/\∃J B:OW9,σ=[some (.ref l),some (.ref lr),J,B])
  ⟨rfl,_,_,rfl⟩ (fun i σ H2 _ h=>SqL.of (by rw[h.1];exact G)) ?_ (fun σ O ⟨h,J,B,e⟩=>⟨h,_,_,_,e⟩)⟩
 rintro j u σ O a1 ⟨rfl,a4,a5,rfl⟩;obtain⟨p,_,a,rfl,ha⟩:=aM a0 a1;refine⟨_,_,_,rfl,.tup ha,j5,ay (dv ?_)⟩;refine⟨a,rfl,⟨_,SqT.of ha⟩,pF (xs:=[.int p.1,.int p.2]) (fun i σ H4=>H4=O/\∃B:OW9,σ=[some (.ref l),some (.ref lr),some (.ref a),B])
  ⟨rfl,_,rfl⟩ (fun i σ H2 _ h=>SqT.of (by rw[h.1];exact ha)) ?_ (fun σ H4 ⟨h,B,e⟩=>⟨h,_,_,e⟩)⟩
 rintro k x σ H4 hx ⟨rfl,a2,rfl⟩;obtain⟨v,rfl⟩:∃v:Int,x=.int v:=by
  rcases k with _|_|k
  ·cases hx;exact⟨_,rfl⟩
  ·cases hx;exact⟨_,rfl⟩
  ·simp at hx
 refine⟨_,_,_,rfl,.int v,uE,ay (dv ?_)⟩;exact⟨_,_,_,rfl,.int v,uF,ay (dv ⟨rfl,_,rfl⟩)⟩
end
def ptD (p:Pt):PyData:=.tuple [.int p.1,.int p.2]
def rgD (ps:List Pt):PyData:=.list (ps.map ptD)
theorem vO:∀{us:List V} {ps:List Pt},dB H us ps->Dats H us (ps.map ptD)
 |_,_,.nil=>.nil
 |_,_,.cons ⟨_,e,h⟩ r=>by
  rw[e];exact .cons (.tup h (.cons (.int _) (.cons (.int _) .nil))) (vO r)
theorem qg:∀{us:List V} {Ps:List (List Pt)},Paired (RgW H) us Ps->Dats H us (Ps.map rgD)
 |_,_,.nil=>.nil
 |_,_,.cons ⟨_,_,e,h,p⟩ r=>by
  rw[e];exact .cons (.lst h (vO p)) (qg r)
theorem DM (ps:List Pt):PyData.canLayAll0 (ps.map ptD)=true/\PyData.depthAll (ps.map ptD)<=1:=by
 induction ps with
 |nil=>exact⟨rfl,IG _⟩
 |cons p ps ih=>
  refine⟨?_,?_⟩
  ·show ((true&&(true&&true))&&PyData.canLayAll0 (ps.map ptD))=true;rw[ih.1];rfl
  ·show max (max 0 (max 0 0)+1) (PyData.depthAll (ps.map ptD))<=1
   lia
theorem xp (Ps:List (List Pt)):SeqAt.shaped (.list (Ps.map rgD))=true:=by
 have e:PyData.canLayAll0 (Ps.map rgD)=true/\PyData.depthAll (Ps.map rgD)<=2:=by
  induction Ps with
  |nil=>exact⟨rfl,IG _⟩
  |cons p Ps ih=>
   obtain⟨h1,h2⟩:=DM p;refine⟨?_,?_⟩
   ·show (PyData.canLayAll0 (p.map ptD)&&PyData.canLayAll0 (Ps.map rgD))=true;rw[ih.1,h1];rfl
   ·show max (PyData.depthAll (p.map ptD)+1) (PyData.depthAll (Ps.map rgD))<=2
    lia
 unfold SeqAt.shaped;show (PyData.canLayAll0 (Ps.map rgD)&&decide (PyData.depthAll (Ps.map rgD)+1<=64))=true;rw[e.1,IC (by lia)];rfl
theorem RgV.wk (h:RgV H0 lt H u ps):RgW H u ps:=by
 obtain⟨l,B,e,_,_,G,J⟩:=h;exact⟨l,B,e,G,J⟩
theorem Dt (gt:bc n t)(h:Ins ((2^n:Nat):Int) p):∃q∈sqs [] t 0 0 n,InS q p.1 p.2:=by
 have:=AS n p h
 rw[<-ke t [] 0 0 n gt]at this;obtain⟨q,B,G⟩:=KS.mp this;exact⟨q,B,(xy gt B).2 p G⟩
structure LdP (t:Tr)(n:Nat)(R:Pt->Int)(PL:List Pt)(s:Pt):Prop where
 col:∀q∈sqs [] t 0 0 n,∀p:Pt,InS q p.1 p.2->R p=q.c
 first:Ins ((2^n:Nat):Int) s
 mem:∀p,p∈PL↔Rch ((2^n:Nat):Int) R s p
 nd:PL.Nodup
 len:PL.length<=64
theorem LdP.same {t:Tr}{n:Nat}{R:Pt->Int}{B:List Pt}{s:Pt}(h:LdP t n R B s)(gt:bc n t){A:List Nat->LN9}{zs:LN9}(C:bw (sqs [] t 0 0 n) A zs){q0:Sq}(G:q0∈sqs [] t 0 0 n){p:Pt}(J:p∈B)(O:InS q0 p.1 p.2):CP B=CM (bC (sqs [] t 0 0 n) A q0.z):=by
 funext x y
 refine propext ?_;have e:=qI gt C h.col G O (x,y);show ((x,y):Pt)∈B↔_;rw[h.mem,<-e];have sp:=(h.mem p).mp J;exact⟨fun k=>Rch.trans (Rch.sym h.first sp) k,fun k=>Rch.trans sp k⟩
theorem Gz (h:m<4):Bd C (sx p m).1 m↔C p.1 p.2/\¬ C (go p 1 ((m+3)%4)).1 (go p 1 ((m+3)%4)).2:=by
 unfold Bd cl sx;dsimp only;rw[show p.1-rtx m+rtx m=p.1 by simp,show p.2-rty m+rty m=p.2 by simp,show p.1-rtx m+rtx ((m+3)%4)=(go p 1 ((m+3)%4)).1 from ?_,show p.2-rty m+rty ((m+3)%4)=(go p 1 ((m+3)%4)).2 from ?_]
 all_goals rcases dk h with rfl | rfl | rfl | rfl<;>simp[rtx,rty,go,ux,uy]<;>lia
theorem uK (p:α->Prop)[DecidablePred p]:∀S:List α,((S.filter fun x=>decide (p x)).length:Int)=(S.map fun x=>if p x then (1:Int) else 0).sum
 | []=>rfl
 |a::S=>by
  rw[IR,Kc,<-uK p S];by_cases c:p a<;>simp[c]<;>lia
open Classical in
theorem mq {L M:List Sq}{W col:Int}(h:Lnd L M W col)(Y:M.Nodup){S:LP9}(nS:S.Nodup)(hS:∀x,x∈S↔(D1 (CM M) x.1 x.2).isSome=true){q:Sq}(hq:q∈M){d:Nat}(G:d<4):(S.map fun x=>if x.2=d/\InS q (pl x).1 (pl x).2 then (1:Int) else 0).sum=(q.w:Int)-(M.map (dR q d)).sum:=by
 have e2:=yN Y (fun r hr=>h.pos r (h.sub r hr)) (fun r hr r' a0=>h.apart r (h.sub r hr) r' (h.sub r' a0)) (dnD d) (tlo q d) (lnD q d) q.w;have e3:(M.map (dR q d)).sum=(M.map (ovl (dnD d) (tlo q d) (tlo q d+q.w) (lnD q d))).sum:=rfl;obtain⟨g,O⟩:∃g:Nat->Pt,g=fun (k:Nat)=>iB (dnD d) (lnD q d) (tlo q d+(k:Int)):=⟨_,rfl⟩;have e2':(M.map (dR q d)).sum=((List.range q.w).map fun k=>if CM M (g k).1 (g k).2 then (1:Int) else 0).sum:=by rw[e3,e2,O]
 have e4:((List.range q.w).map fun k=>if CM M (g k).1 (g k).2 then (1:Int) else 0).sum+((List.range q.w).map fun k=>if ¬ CM M (g k).1 (g k).2 then (1:Int) else 0).sum=q.w:=by
  rw[<-cE,<-yV q.w];refine I_ Md (Jg fun k _=>?_);by_cases c:CM M (g k).1 (g k).2<;>simp[c]
 have back:∀{p:Pt},go (go p 1 ((d+3)%4)) 1 ((d+1)%4)=p:=fun {p}=>by
  have:=uJ p (d:=(d+3)%4) (KM _ (by decide))
  rwa [show ((d+3)%4+2)%4=(d+1)%4 by lia]at this
 have back':∀{p:Pt},go (go p 1 ((d+1)%4)) 1 ((d+3)%4)=p:=fun {p}=>by
  have:=uJ p (d:=(d+1)%4) (KM _ (by decide))
  rwa [show ((d+1)%4+2)%4=(d+3)%4 by simp]at this
 have e5:(S.filter fun x=>decide (x.2=d/\InS q (pl x).1 (pl x).2)).length=(((List.range q.w).filter fun k=>decide (¬ CM M (g k).1 (g k).2)).map fun k=>sx (go (g k) 1 ((d+1)%4)) d).length:=by
  refine L3 (dt (nS.filter _) fun x J=>?_) (dt ?_ fun x J=>?_)
  ·obtain⟨a1,J⟩:=Ji.mp J;obtain⟨ed,B⟩:=IZ J;have hb:=(gQ.mp ((hS x).mp a1)).2;rw[<-rY x,ed]at hb;obtain⟨_,hn⟩:=(Gz G).mp hb;have nq:¬ InS q (go (pl x) 1 ((d+3)%4)).1 (go (pl x) 1 ((d+3)%4)).2:=fun z=>hn ⟨q,hq,z⟩;generalize ep:pl x=p at *;obtain⟨k,hk,ek⟩:∃k:Nat,k<q.w/\g k=go p 1 ((d+3)%4):=by
    refine⟨if d%2=0 then (p.1-q.x).toNat else (p.2-q.y).toNat,?_,?_⟩
    ·unfold InS at B
     split<;>lia
    ·rw[O];unfold InS at B nq;rcases dk G with rfl | rfl | rfl | rfl<;>refine Prod.ext ?_ ?_<;>simp[iB,dnD,lnD,tlo,axd,go,ux,uy]at nq ⊢<;>lia
   refine Iv.mpr ⟨k,Ji.mpr ⟨Jm.mpr hk,IC (by rw[ek];exact hn)⟩,?_⟩;rw[ek,back,<-ep,<-ed,rY]
  ·unfold List.Nodup;rw[Jc];refine (List.nodup_range.filter _).imp fun {a b} ne e=>ne ?_;have e':=I_ pl e;rw[so,so]at e';have e'':g a=g b:=by rw[<-back' (p:=g a),e',back']
   rw[O]at e'';have x1:=I_ Prod.fst e'';have x2:=I_ Prod.snd e'';rcases dk G with rfl | rfl | rfl | rfl<;>simp[iB,dnD,tlo,axd,lnD]at x1 x2<;>lia
  ·obtain⟨k,hk,rfl⟩:=Iv.mp J;obtain⟨k1,k2⟩:=Ji.mp hk;have k1:=Jm.mp k1;have k2:=IZ k2;have B:InS q (go (g k) 1 ((d+1)%4)).1 (go (g k) 1 ((d+1)%4)).2:=by
    rw[O];unfold InS;rcases dk G with rfl | rfl | rfl | rfl<;>simp[iB,dnD,lnD,tlo,axd,go,ux,uy]<;>lia
   refine Ji.mpr ⟨(hS _).mpr (gQ.mpr ⟨G,(Gz G).mpr ⟨⟨q,hq,B⟩,?_⟩⟩),IC ⟨rfl,by rw[so];exact B⟩⟩;rw[back'];exact k2
 rw[<-uK,e5,Iq,uK]
 lia
theorem HL {L M:List Sq}{W col:Int}(h:Lnd L M W col)(B:M.Nodup)(Y:∀q∈M,∀r∈M,q=r\/Sep q r\/Sep r q){S:LP9}(O:S.Nodup)(G:∀x,x∈S↔(D1 (CM M) x.1 x.2).isSome=true):vL M=S.length:=by
 classical
 have one:(S.length:Int)=(S.map fun x=>(M.map fun q=>if InS q (pl x).1 (pl x).2 then (1:Int) else 0).sum).sum:=by
  rw[show (S.map fun x=>(M.map fun q=>if InS q (pl x).1 (pl x).2 then (1:Int) else 0).sum)=S.map fun _=>1 from Jg fun x hx=>?_]
  ·clear O G
   induction S with
   |nil=>rfl
   |cons a S ih=>
    rw[IR,Kc,<-ih,Jb]
    lia
  ·rw[yP B (fun r hr r' a0=>h.apart r (h.sub r hr) r' (h.sub r' a0)),if_pos];obtain⟨a4,hb⟩:=gQ.mp ((G x).mp hx);rw[<-rY x]at hb;exact ((Gz a4).mp hb).1
 rw[one,vA,zR (fun q J=>h.pos q (h.sub q J)) Y,<-cE,<-cE,<-cE];refine I_ Md (Jg fun q J=>?_);rw[<-mq h B O G J (d:=0) (by decide),<-mq h B O G J (d:=1) (by decide),<-mq h B O G J (d:=2) (by decide),<-mq h B O G J (d:=3) (by decide),<-cE,<-cE,<-cE];refine I_ Md (Jg fun x hx=>?_);have x4:=(gQ.mp ((G x).mp hx)).1;by_cases c:InS q (pl x).1 (pl x).2
 ·rcases dk x4 with e|e|e|e<;>simp[c,e]
 ·simp[c]
section
abbrev fe:Stmt:=top 62
theorem bT:aE ["_law_sheet","_law_land","_law_cell","_law_places","_law_x","_law_y","_law_many","_law_found"] ["_law_sheet","_law_land","_law_cell"] (aq fe):={}
inductive gP  (Tb:AS9)(vs:List V)(H:Hp)(Q:VK):Prop
 |mk (ps d:Addr) (c:Int) (n:Nat) (v:V) (t:Tr) (ob:Obj) (R:Pt->Int) (PL:List Pt) (s:Pt) (h_0:vs=[.ref ps,.ref d,.int c]) (h_1:H ps=some (.tup [.int (n:Int),v])) (h_2:cM H v t) (h_3:bc n t) (h_4:n<=3) (h_5:cnt t<=1500) (h_6:H d=some (.frz ob (.dT (ldK PL)))) (h_7:LdP t n R PL s) (h_8:fV Tb H) (h_9:∀H',cD Tb H H'->fV Tb H'->Q (.bl true) H'):gP Tb vs H Q
def gY  (Tb:AS9):Sp:=fun vs H Q _=>gP Tb vs H Q
theorem mG (T:Tx K mg)(q:bS CX){Tb:AS9}(F:bD K "_law_land_right" "_law_land_right" fe f fd .none)(a3:Fok P w K mg base CX 46 "rim" ["sheet","x","y"] [] Bk)(Y:Fok P w K mg base CX 50 "rings" ["sheet","x","y"] [] (pQ P w Tb))(G:Fok P w K mg base CX 1 "_law_sides" ["_law_land"] [] iZ)(B:Fok P w K mg base CX 1 "_law_kinds_right" ["_law_found"] [] gj)(J:Fok P w K mg base CX 4 "_law_rings" ["_law_land"] [] mi):bB P w K mg base CX 51 f fd ["_law_sheet","_law_land","_law_cell"] (gY Tb):=by
 refine F.ok bT (fun vs H Q E h=>?_) (fun d5 A outer s H vs Q E hr h=>?_)
 ·obtain⟨_,_,_,_,_,_,_,_,_,_,rfl,_⟩:=h;rfl
 obtain⟨ps,d,c,n,v,t,ob,R,PL,s,rfl,a7,ht,gt,hn,hc,hd,hP,a8,q'⟩:=h;refine⟨_,(ab (au (i:=3) bT (zV rfl rfl T.b_sorted (pv 1))) (ab (xw (aD bh (pv 3) (aj bF (pv 2) (av aY rfl T.b_len bN (aa (pv 3) ae)))) (fK rfl (aX (aP (i:=4) bT) (aX (aP (i:=5) bT) dL)))) (ab (au (i:=6) bT (ai a3 q hr (aa (pv 0) (aa (pv 4) (aa (pv 5) ae))))) (ab (aT (PW.pt (g_ (ce (bL (av (aQ "int") rfl T.b_isinstance aH (aa (pv 6) (aa (cm T.b_int fL) ae))))) (g_ (bL (av (aQ "bool") rfl T.b_isinstance aH (aa (pv 6) (aa (cm T.b_bool pL) ae)))) (gG (aJ mF (pv 6) (av n5 rfl T.b_len bN (aa (ai G q hr (aa (pv 1) ae)) ae))))))) (af (aB cX)) aF) (ab (au (i:=7) bT (ai Y q hr (aa (pv 0) (aa (pv 4) (aa (pv 5) ae))))) (af (aB (qu (ai B q hr (aa (pv 7) ae)) (qq (hE (B0 hr) (pv 7) (ai J q hr (aa (pv 1) ae)))))))))))),?_⟩
 have hB:(sqs [] t 0 0 n).Pairwise eF:=cW t [] 0 0 n gt;have d6:(sqs [] t 0 0 n).Nodup:=List.Pairwise.imp (fun h e=>h (I_ _ e)) (Jc.mp (tj hB));have s0:s∈PL:=(hP.mem s).mpr (Rch.refl s);refine⟨d,ldK PL,rfl,.inr ⟨ob,hd⟩,fun kv a4=>?_,fun S us ks hS a0 a9=>?_⟩
 ·obtain⟨p,_,rfl⟩:=Iv.mp a4;exact⟨_,_,rfl⟩
 generalize e1:upd H S _=H1;have s1:ah H H1:=e1▸ah.new hS _;have w1:H1 S=some (.lst us):=by rw[<-e1];exact ag
 have d7:us.length=PL.length:=by rw[Paired.length a9,a0.length_eq,Iq,hV]
 have d8:0<PL.length:=JI s0;have b0:(0:Int)<(us.length:Int):=by lia
 obtain⟨p,pa,b6,hp,b7⟩:∃(p:Pt) (pa:Addr),atI us (c%(us.length:Int))=some (.ref pa)/\p∈PL/\H1 pa=some (.tup [.int p.1,.int p.2]):=by
  have h1:=KL c (show (us.length:Int)≠0 by lia);have h2:=Kt c b0;obtain⟨m,em⟩:∃m:Nat,c%(us.length:Int)=(m:Int):=⟨_,(Kn h1).symm⟩;rw[em]at h2 ⊢;have hm:m<us.length:=by lia
  obtain⟨k,hk,b,eb,hb⟩:=aM a9 (IE hm);have hk':=a0.mem_iff.mp (ID hk);obtain⟨kv,a4,rfl⟩:=Iv.mp hk';obtain⟨p,hp,rfl⟩:=Iv.mp a4;exact⟨p,b,bG (by rw[IE hm,eb]),hp,s1 _ _ hb⟩
 refine⟨_,_,rfl,.inl ⟨_,SqL.of w1,rfl⟩,b0,S,_,_,.ref pa,rfl,rfl,SqL.of w1,b6,?_⟩;refine⟨pa,_,rfl,SqT.of b7,rfl,_,_,rfl,_,_,rfl,rfl,?_⟩;have a5:=(Rch.in_ hP.first ((hP.mem p).mp hp)).1;obtain⟨q0,O,hq⟩:=Dt gt a5;obtain⟨px,py,b8,b9⟩:∃px py:Nat,p.1=(px:Int)/\p.2=(py:Int):=⟨p.1.toNat,p.2.toNat,by have:=a5.1;lia,by have:=a5.2.2.1;lia⟩;have ins:q0.x<=px/\px<q0.x+q0.w/\q0.y<=py/\py<q0.y+q0.w:=by
  have:=hq
  unfold InS at this
  lia
 have ap:∀{A:List Nat->LN9} {zs:LN9},bw (sqs [] t 0 0 n) A zs->∀r∈bC (sqs [] t 0 0 n) A q0.z,∀r'∈bC (sqs [] t 0 0 n) A q0.z,r=r'\/Sep r r'\/Sep r' r:=fun C r hr r' c0=>kE hB ((fB C O r).mp hr).1 ((fB C O r').mp c0).1;rw[b8,b9];refine⟨ps,n,px,py,v,t,q0,rfl,s1 _ _ a7,ht.up s1.tups,gt,by lia,hc,O,ins,fun A2 d9 H2 C2 s2=>?_⟩;have e2:=hP.same gt C2 O hp hq;have l2:=(lJ gt C2 O).1;refine⟨_,_,_,rfl,.int _,uE,ay (dv ?_)⟩;refine⟨_,_,_,rfl,.int _,uF,ay (dv ?_)⟩;have b1:=s1.trans s2;refine⟨d,ob,PL,rfl,b1 _ _ hd,hP.nd,hP.len,fun ds S3 H3 s3 e0 c1 c2 hm lS=>?_⟩;obtain⟨c3,kvs,c4,c5⟩:=c1;have er:vL (bC (sqs [] t 0 0 n) A2 q0.z)=S3.length:=HL l2 (qJ C2 O) (ap C2) c2 (fun x=>by rw[<-e2];exact hm x);refine⟨ds,kvs,rfl,.inr ⟨c3,c4⟩,rfl,ay (ci (fun c=>?_) (fun _=>?_))⟩
 ·have c':(!decide (V.int (vL (bC (sqs [] t 0 0 n) A2 q0.z))=V.int ((kvs.length:Nat):Int)))=true:=c;rw[IC (by rw[er,Paired.length c5])]at c';cases c'
 have a1:=b1.trans s3;have c6:=a1.tabs a8;refine⟨ps,n,px,py,v,t,q0,rfl,a1 _ _ a7,ht.up a1.tups,gt,by lia,hc,O,ins,c6,fun A4 e3 b2 l4 b3 H4 C4 c7 c8 c9 d0 e5 b4 d1 e6=>?_⟩;have e4:=hP.same gt C4 O hp hq;have l4':=(lJ gt C4 O).1;have hR4':Paired (RgW H4) b3 (bU (DG (sqs [] t 0 0 n) (bC (sqs [] t 0 0 n) A4 q0.z)) b2).1:=Paired.mapP d1 fun _ _ h=>h.wk;have a2:=a1.toT.trans c9;have hd4':H4 d=some (.frz ob (.dT (ldK PL))):=a2.keep a8 hd (by intro ps z;cases z);refine⟨l4,b3,_,rfl,b4,hR4',?_⟩;refine⟨_,rfl,oP ⟨d,ob,PL,rfl,hd4',hP.nd,hP.len,fun ss l5 e7 H5 b5 d2 s5 e8 d3 a6=>?_⟩⟩;rw[e4]at b5 a6;have d4:∀x,x∈S3↔(D1 (CM (bC (sqs [] t 0 0 n) A4 q0.z)) x.1 x.2).isSome=true:=fun x=>by rw[<-e4];exact hm x
 have eR:=Fy (Di l4') (AV d4) (fun k=>(c7 k).trans fo) (c8.imp fun h=>xR h) b5 d2;rw[<-eR]at a6;generalize (bU (DG (sqs [] t 0 0 n) (bC (sqs [] t 0 0 n) A4 q0.z)) b2).1=Ps at *;have sh:=xp Ps;refine⟨_,_,.lst (s5 _ _ b4) (qg (Paired.mapP hR4' fun _ _ h=>h.up s5)),.lst d3 (qg a6),sh,sh,?_⟩;show Q (.bl (PyData.eqv (.list (Ps.map rgD)) (.list (Ps.map rgD)))) _;rw[SeqAt.eqv_refl _ (SeqAt.canLay_of_shaped sh)];exact q' H5 (a2.trans s5.toT) (s5.tabs d0)
end
theorem pf:p∈gH X Y w↔(X:Int)<=p.1/\p.1<X+w/\(Y:Int)<=p.2/\p.2<Y+w:=by
 unfold gH;rw[Iv];constructor
 ·rintro⟨k,B,rfl⟩;have B:=Jm.mp B;have J:0<w:=by
   rcases Nat.eq_zero_or_pos w with h|h
   ·rw[h]at B;simp at B
   ·exact h
  have h1:=KM k J;have h2:k/w<w:=Nat.div_lt_of_lt_mul B;generalize k%w=a at *;generalize k/w=b at *;dsimp only
  lia
 ·rintro⟨h1,h2,h3,h4⟩;obtain⟨a,O⟩:∃a:Nat,p.1=X+a:=⟨(p.1-X).toNat,by lia⟩;obtain⟨b,eb⟩:∃b:Nat,p.2=Y+b:=⟨(p.2-Y).toNat,by lia⟩;have G:a<w:=by lia
  have hb:b<w:=by lia
  have hd:(b*w+a)/w=b:=by
   rw[KH,Nat.mul_add_div (by lia),LN G,Lu]
  have hm:(b*w+a)%w=a:=by
   rw[KH,Nat.mul_add_mod,Nat.mod_eq_of_lt G]
  refine⟨b*w+a,Jm.mpr ?_,?_⟩
  ·have:(b+1)*w<=w*w:=KQ w hb
   rw[Nat.succ_mul]at this
   lia
  ·rw[hd,hm];exact Prod.ext (by rw[O];dsimp only;rfl) (by rw[eb];dsimp only;rfl)
theorem FD (X Y w:Nat):(gH X Y w).Nodup:=by
 unfold gH List.Nodup;rw[Jc];refine List.nodup_range.imp fun {a b} h e=>h ?_;have B:=I_ Prod.fst e;have G:=I_ Prod.snd e;dsimp only at B G;have h1:=K1 a w;have h2:=K1 b w;rw[show a/w=b/w by omega,show a%w=b%w by omega]at h1
 lia
theorem ym:∀(l st:List Pt),st.length<=(l.foldl (iX W R) st).length
 | [],_=>Iw _
 |p::l,st=>by
  refine IU ?_ (ym l (iX W R st p));unfold iX
  split
  ·exact Iw _
  ·rw[Iy];simp
section
theorem Cg (gt:bc n t)(C:bw (sqs [] t 0 0 n) A zs){q0:Sq}(h0:q0∈sqs [] t 0 0 n):(∀m∈cO A q0.z,IsC (txt m.1)/\(txt m.1).length<=n)/\(cO A q0.z).flatMap (pmO n)=(bC (sqs [] t 0 0 n) A q0.z).flatMap fun q=>gH q.x q.y q.w:=by
 have z0:q0.z∈zs:=by rw[C.ez];exact Iv.mpr ⟨q0,h0,rfl⟩
 have B:∀m∈cO A q0.z,∃r∈sqs [] t 0 0 n,r.z=m.1:=fun m J=>by
  have Y:=(C.bi z0).sub m J;rw[C.ez]at Y;obtain⟨r,G,O⟩:=Iv.mp Y;exact⟨r,G,O⟩
 refine⟨fun m J=>?_,?_⟩
 ·obtain⟨r,G,O⟩:=B m J;obtain⟨h1,h2,_⟩:=dq (dQ t [] 0 0 n gt r G);rw[<-O];exact⟨h1,h2⟩
 ·unfold bC;rw[List.flatMap_map];unfold List.flatMap;refine I_ List.flatten (Jg fun m J=>?_);obtain⟨r,G,O⟩:=B m J;obtain⟨_,_,h3,h4,h5⟩:=dq (dQ t [] 0 0 n gt r G);unfold pmO;rw[<-O,iY C.hB G,h3,h4,h5]
theorem Co (gt:bc n t)(C:bw (sqs [] t 0 0 n) A zs){q0:Sq}(J:q0∈sqs [] t 0 0 n):((bC (sqs [] t 0 0 n) A q0.z).flatMap fun q=>gH q.x q.y q.w).Nodup/\∀p:Pt,p∈((bC (sqs [] t 0 0 n) A q0.z).flatMap fun q=>gH q.x q.y q.w)↔CM (bC (sqs [] t 0 0 n) A q0.z) p.1 p.2:=by
 refine⟨?_,fun p=>?_⟩
 ·have Y:∀q∈bC (sqs [] t 0 0 n) A q0.z,∀r∈bC (sqs [] t 0 0 n) A q0.z,q≠r->∀p,p∈gH q.x q.y q.w->p∈gH r.x r.y r.w->False:=fun q B r G ne p h1 h2=>by
   have a:=pf.mp h1;have b:=pf.mp h2;rcases kE C.hB ((fB C J q).mp B).1 ((fB C J r).mp G).1 with e | e | e
   ·exact ne e
   ·unfold Sep at e;lia
   ·unfold Sep at e;lia
  have nd:=qJ C J;generalize bC (sqs [] t 0 0 n) A q0.z=M at *
  induction M with
  |nil=>exact Km
  |cons q M ih=>
   rw[K9];have nd':=JE.mp nd;refine JF.mpr ⟨FD _ _ _,ih (fun q B r G=>Y q (IA _ B) r (IA _ G)) nd'.2,fun a ha b O e=>?_⟩;obtain⟨r,G,O⟩:=KS.mp O;exact Y q IF r (IA _ G) (fun z=>nd'.1 (z▸G)) a ha (e▸O)
 ·rw[KS];unfold CM;constructor
  ·rintro⟨q,B,h⟩;exact⟨q,B,pf.mp h⟩
  ·rintro⟨q,B,h⟩;exact⟨q,B,pf.mpr h⟩
end
section
abbrev ms:Stmt:=top 63
theorem ik:aE ["_law_script","_law_rows","_law_level","_law_sheet","_law_due","_law_found","_law_entry","_law_other","_law_k","_law_cell"] ["_law_script"] (aq ms):={}
inductive zD  (K:Frag)(Tb:AS9)(vs:List V)(H:Hp)(Q:VK):Prop
 |mk (a:Addr) (ns:List Int) (h_0:vs=[.ref a]) (h_1:SqL K H a (ns.map V.int)) (h_2:ns.length<=63) (h_3:fV Tb H) (h_4:∀H',Q (.bl true) H'):zD K Tb vs H Q
def Bl  (K:Frag)(Tb:AS9):Sp:=fun vs H Q _=>zD K Tb vs H Q
theorem FX (T:Tx K mg)(q:bS CX)(F:bD K "law" "law" ms f fd .none)(J:Fok P w K mg base CX 2 "_law_rows_by" ["_law_script"] [] (jE K))(Y:Fok P w K mg base CX 1 "_law_at" ["_law_script","_law_k"] [] (nn K))(a2:Fok P w K mg base CX 1 "_law_mix" ["_law_cell","_law_k"] [] kX)(O:Fok P w K mg base CX 5 "_law_tree_of" ["_law_rows","_law_left","_law_top","_law_wide"] [] (gh 4))(a1:Fok P w K mg base CX 2 "_law_lands" ["_law_rows","_law_level"] [] mj)(a8:Fok P w K mg base CX 46 "lands" ["sheet"] [] vD)(B:Fok P w K mg base CX 2 "_law_members_right" ["_law_members","_law_land","_law_level"] [] fr)(G:Fok P w K mg base CX 51 "_law_land_right" ["_law_sheet","_law_land","_law_cell"] [] (gY Tb)):
  bB P w K mg base CX 52 f fd ["_law_script"] (Bl K Tb):=by
 refine F.ok ik (fun vs H Q E h=>?_) (fun e1 A outer s H vs Q E hr h=>?_)
 ·obtain⟨_,_,rfl,_⟩:=h;rfl
 obtain⟨a,ns,rfl,hS,b4,c5,q'⟩:=h;refine⟨_,(ab (au (i:=1) ik (ai J q hr (aa (pv 0) ae))) (ab (au (i:=2) ik (aj bF (ai Y q hr (aa (pv 0) (aa ac ae))) ac)) (ab (au (i:=3) ik (az (am (pv 2) (am (ai O q hr (aa (pv 1) (aa ac (aa ac (aa (av aY rfl T.b_len bN (aa (pv 1) ae)) ae))))) ak)))) (ab (au (i:=4) ik (ai a1 q hr (aa (pv 1) (aa (pv 2) ae)))) (ab (au (i:=5) ik (ai a8 q hr (aa (pv 3) ae))) (ab (aT (PW.pt (g_ (ce (bL (av (aQ "list") rfl T.b_isinstance aH (aa (pv 5) (aa (cm T.b_list pK) ae))))) (gG (aJ mF (av aY rfl T.b_len bN (aa (pv 5) ae)) (av aY rfl T.b_len bN (aa (pv 4) ae)))))) (af (aB cX)) aF) (ab (aN II rfl (G6 rfl T.b_zip (aa (pv 5) (aa (pv 4) ae))) (fK rfl (aX (aP (i:=6) ik) (aX (aP (i:=7) ik) dL))) (ab (aT (PW.pt (g_ (ce (bL (av (aQ "tuple") rfl T.b_isinstance aH (aa (pv 6) (aa (cm T.b_tuple fE) ae))))) (gG (aJ mF (av aY rfl T.b_len bN (aa (pv 6) ae)) ac)))) (af (aB cX)) aF) (ab (aT (PW.pt (g_ (ce (bL (av (aQ "int") rfl T.b_isinstance aH (aa (aD aI (pv 6) ac) (aa (cm T.b_int fL) ae))))) (g_ (bL (av (aQ "bool") rfl T.b_isinstance aH (aa (aD aI (pv 6) ac) (aa (cm T.b_bool pL) ae)))) (gG (aJ mF (aD aI (pv 6) ac) (aD aI (pv 7) ac)))))) (af (aB cX)) aF) (af (aT (ce (bL (ai B q hr (aa (aD aI (pv 6) ac) (aa (aD aI (pv 7) ac) (aa (pv 2) ae)))))) (af (aB cX)) aF))))) (ab (aN II rfl (bx rfl T.b_range (aa ac ae)) (aP (i:=8) ik) (ab (au (i:=9) ik (ai a2 q hr (aa (ai Y q hr (aa (pv 0) (aa ac ae))) (aa (aj aK ac (pv 8)) ae)))) (af (aT (ce (bL (ai G q hr (aa (pv 3) (aa (aD aI (aD bh (pv 4) (aj bF (aj bI (pv 9) ac) (av aY rfl T.b_len bN (aa (pv 4) ae)))) ac) (aa (pv 9) ae)))))) (af (aB cX)) aF)))) (af (aB cX)))))))))),?_⟩
 obtain⟨n,en,hn⟩:∃n:Nat,cell ns 0%4=(n:Int)/\n<=3:=⟨(cell ns 0%4).toNat,by lia,by lia⟩;refine⟨a,ns,n,rfl,hS,b4,en,fun l a0 H1 s1 nl hR ok=>?_⟩;have c6:=s1.seq hS;refine⟨a,ns,0,rfl,c6,b4,(by show (0:Int)<4;decide),?_⟩;dsimp only;rw[en];have c7:2^n<=8:=IU (Kj (by decide) hn) (by decide);obtain⟨rs,c8,c9⟩:=id hR;have d0:rs.length=2^n:=by rw[Paired.length c9,ok.1]
 obtain⟨t,et⟩:∃t,t=trR (cR a0) n 0 0:=⟨_,rfl⟩;have gt:bc n t:=by rw[et];exact iE (fun x y=>Fd ok x y) n 0 0
 have hc:cnt t<=1500:=by
  have h1:=l8 (cR a0) n 0 0;have h2:4^n<=4^3:=Kj (by decide) hn;rw[<-et]at h1
  lia
 refine⟨_,_,rfl,.inl ⟨_,SqL.of c8,rfl⟩,l,a0,2^n,n,0,0,(by rw[d0];rfl),hR,ok,by simp,by simp,c7,by lia,by decide,fun v H2 s2 hv=>?_⟩;rw[<-et]at hv;refine⟨(leZ rfl),nw fun ps H3 e2 s3 w3=>?_⟩;have b8:=s2.trans s3;refine⟨l,a0,n,rfl,hR.up b8,ok,hn,fun ld ud H4 s4 e3 d1 hF e4=>?_⟩;refine⟨ps,n,v,t,rfl,s4 _ _ w3,hv.up (s3.trans s4).tups,gt,by lia,hc,fun lf uf A H5 s5 e5 b0 hN hT e6=>?_⟩;have hB:(sqs [] t 0 0 n).Pairwise eF:=cW t [] 0 0 n gt;have Cx:bw (sqs [] t 0 0 n) A ((sqs [] t 0 0 n).map (·.z)):=⟨rfl,hB,by rw[Iq,dD];exact hc,hN⟩;have b1:∀q∈sqs [] t 0 0 n,∀p:Pt,InS q p.1 p.2->pR a0 p=q.c:=fun q hq p hp=>by
  rw[et]at hq;unfold InS at hp;exact lZ n 0 0 [] q hq p.1.toNat p.2.toNat (by lia) (by lia) (by lia) (by lia)
 obtain⟨qs,eT,d2,eS⟩:=zK gt Cx b1;unfold tF at hF;have sN:0<((zo n 0 0).foldl (iX ((2^n:Nat):Int) (pR a0)) []).length:=by
  obtain⟨r,er⟩:=ti n 0 0;rw[er,Kf];refine IJ ?_ (ym _ _);unfold iX;rw[if_neg (by rintro⟨_,h,_⟩;cases h)];decide
 rw[eS,Iq]at sN;rw[eS]at hF;rw[eT]at hT;have lF:=Paired.length hF;have lT:=Paired.length hT;rw[Iq]at lF lT;have b5:Paired (FdV ((2^n:Nat):Int) (pR a0) H5) ud (qs.map pt0):=Paired.mapP hF fun a b h=>h.keep s5.tups fun b ob kv e=>s5 _ _ e;have a6:=s5 _ _ d1;refine⟨_,_,_,rfl,.lst b0,uC,ay (dv ?_)⟩;refine⟨_,_,rfl,.inl ⟨_,SqL.of b0,rfl⟩,_,_,rfl,.inl ⟨_,SqL.of a6,rfl⟩,rfl,ay (wt (by rw[lF,lT]) ?_)⟩
 let J0:NS9:=fun i σ H6=>ah H5 H6/\∃o6 o7:OW9,σ=[some (.ref a),some (.ref l),some (.int (n:Int)),some (.ref ps),some (.ref ld),some (.ref lf),o6,o7,none,none]
 refine⟨lf,ld,rfl,⟨_,SqL.of b0⟩,⟨_,SqL.of a6⟩,Gn (xs:=uf) (ys:=ud) J0 (by rw[lF,lT]) ⟨ah.refl _,none,none,rfl⟩ (fun i σ H6 h=>⟨SqL.of (h.1 _ _ b0),SqL.of (h.1 _ _ a6)⟩) ?_ ?_⟩
 ·rintro i x y pz σ H6 hx hy ⟨s6,o6,o7,rfl⟩ d3;obtain⟨e8,b3,pp,lm,um,rfl,_,b6,d4,hM⟩:=aM hT hx;obtain⟨p,hp,td,d,ob,PL,rfl,b2,hd,nd,mP,b7,b9⟩:=aM b5 hy;rw[IM]at b3 hp;obtain⟨q0,c0,rfl⟩:=IX.mp b3;rw[c0]at hp;obtain rfl:pt0 q0=p:=Option.some.inj hp;have a7:=d2 q0 (ID c0);have ec:pR a0 (pt0 q0)=q0.c:=b1 q0 a7 _ (ql gt a7);rw[ec]at b2;dsimp only at b6 hM;generalize e7:upd H6 pz _=H7;have s7:ah H6 H7:=e7▸ah.new d3 _;have w7:H7 pz=some (.tup [.ref pp,.ref td]):=by rw[<-e7];exact ag
  have a3:=s6.trans s7;have a9:=SqT.of (K:=K) (a3 _ _ b6);have c1:=SqT.of (K:=K) (a3 _ _ b2);refine⟨pz,_,rfl,SqT.of w7,rfl,_,_,rfl,_,_,rfl,rfl,?_⟩;refine⟨_,_,_,rfl,.tup (a3 _ _ b6),j5,ay (dv ?_)⟩;refine⟨_,_,rfl,.inr ⟨_,a9,rfl⟩,rfl,ay (wt rfl ?_)⟩;refine⟨pp,_,_,_,rfl,rfl,a9,rfl,_,_,_,rfl,.int _,uE,ay (dv ?_)⟩;refine⟨pp,_,_,_,rfl,rfl,a9,rfl,_,_,_,rfl,.int _,uF,ay (dv ?_)⟩;refine⟨pp,_,_,_,rfl,rfl,a9,rfl,td,_,_,_,rfl,rfl,c1,rfl,rfl,ay (wt rfl ?_)⟩;obtain⟨m1,m2⟩:=Cg gt Cx a7;obtain⟨g1,g2⟩:=Co gt Cx a7;rw[<-m2]at g1 g2;refine⟨pp,_,_,_,rfl,rfl,a9,rfl,td,_,_,_,rfl,rfl,c1,rfl,lm,d,n,um,cO A q0.z,ob,PL,rfl,a3 _ _ d4,hM.up a3.tups,m1,hn,a3 _ _ hd,nd,b7,g1,fun p=>?_,fun H8 s8=>(ay (dv ⟨a3.trans s8,_,_,rfl⟩))⟩;rw[g2,mP,qI gt Cx b1 a7 (ql gt a7)]
 rintro σ H6 ⟨s6,o6,o7,rfl⟩;have c2:=s1.trans (b8.trans (s4.trans (s5.trans s6)));have a4:=c2.tabs c5;have d5:=c2.seq hS;have kS:∀{H':Hp},cD Tb H6 H'->SqL K H' a (ns.map V.int):=fun st=>d5.upT st a4;have kp:∀{H':Hp},cD Tb H6 H'->H' ps=some (.tup [.int (n:Int),v]):=fun st=>st.tups a4 _ _ ((s4.trans (s5.trans s6)) _ _ w3);have kt:∀{H':Hp},cD Tb H6 H'->cM H' v t:=fun st=>hv.up (((s3.trans (s4.trans (s5.trans s6))).tups).trans (st.tups a4));have kl:∀{H':Hp},cD Tb H6 H'->H' ld=some (.lst ud):=fun st=>st.keep a4 (s6 _ _ a6) (by intro ps z;cases z);have kf:∀{H':Hp},cD Tb H6 H'->Paired (FdV ((2^n:Nat):Int) (pR a0) H') ud (qs.map pt0):=fun st=>Paired.mapP b5 fun a b h=>h.keep (s6.tups.trans (st.tups a4)) fun b ob kv e=>st.keep a4 (s6 _ _ e) (by intro ps z;cases z);refine⟨_,rfl,by decide,by decide,bV (fun (j:Nat) σ H7=>cD Tb H6 H7/\fV Tb H7/\∃o6 o7 o8 o9:OW9,σ=[some (.ref a),some (.ref l),some (.int (n:Int)),some (.ref ps),some (.ref ld),some (.ref lf),o6,o7,o8,o9]) ⟨cD.refl _,a4,_,_,_,_,rfl⟩ ?_ ?_⟩
 rotate_left
 ·rintro σ H7 ⟨_,_,o6,o7,o8,o9,rfl⟩;exact q' _
 rintro j σ H7 hj ⟨a5,d6,e9,f0,o8,o9,rfl⟩;rw[show (0:Int)+(j:Int)=j from JO _];have f1:j<4:=by simpa using hj
 refine⟨a,ns,11,rfl,kS a5,b4,cell ns 11,40+j,(by show [V.int (cell ns 11),V.int (40+(j:Int))]=[V.int (cell ns 11),V.int ((40+j:Nat):Int)];rw[show (40:Int)+(j:Int)=((40+j:Nat):Int) by rfl]),by lia,fun m hm=>?_⟩;have c3:(0:Int)<(ud.length:Int):=by lia
 obtain⟨pa,p,d7,d8⟩:∃(pa:V) (p:Pt),atI ud ((m:Int)/64%(ud.length:Int))=some pa/\∀{H':Hp},cD Tb H6 H'->FdV ((2^n:Nat):Int) (pR a0) H' pa p:=by
  have h1:=KL ((m:Int)/64) (show (ud.length:Int)≠0 by lia);have h2:=Kt ((m:Int)/64) c3;obtain⟨k,ek⟩:∃k:Nat,(m:Int)/64%(ud.length:Int)=(k:Int):=⟨_,(Kn h1).symm⟩;rw[ek]at h2 ⊢;have hk:k<ud.length:=by lia
  obtain⟨p,hp,_⟩:=aM b5 (IE hk);refine⟨ud[k],p,bG (IE hk),fun st=>?_⟩;obtain⟨p',c4,h⟩:=aM (kf st) (IE hk);rw[hp]at c4;cases c4;exact h
 obtain⟨td,d,ob,PL,rfl,b2,hd,nd,mP,b7,b9⟩:=d8 a5;refine⟨eP (by decide) (by decide),_,_,rfl,.inl ⟨_,SqL.of (kl a5),rfl⟩,c3,ld,_,_,_,rfl,rfl,SqL.of (kl a5),d7,td,_,_,_,rfl,rfl,SqT.of b2,rfl,?_⟩;exact⟨ps,d,(m:Int),n,v,t,ob,pR a0,PL,p,rfl,kp a5,kt a5,gt,hn,hc,hd,⟨b1,b9,mP,nd,b7⟩,d6,fun H8 d9 e0=>(ay (dv ⟨a5.trans d9,e0,_,_,_,_,rfl⟩))⟩
end
theorem kd4 {P:Pg9}{w:Wd9}{K:Frag}{aC B G p2 J:Addr}{O Y a0 a1:Tok}{nC:Nat}(y:K.lookup aC=some ⟨.type "dict",none,.dict #[⟨PyData.keyHash w.params "up",.str "up" O,.ref B⟩,⟨PyData.keyHash w.params "right",.str "right" Y,.ref G⟩,⟨PyData.keyHash w.params "down",.str "down" a0,.ref p2⟩,⟨PyData.keyHash w.params "left",.str "left" a1,.ref J⟩] nC,#[]⟩):
  KD P w K aC [(.inr "up",.ref B),(.inr "right",.ref G),(.inr "down",.ref p2),(.inr "left",.ref J)]:=by
 refine⟨_,[(.inr "up",.ref B),(.inr "right",.ref G),(.inr "down",.ref p2),(.inr "left",.ref J)],y,.cons ⟨rfl,rfl⟩ (.cons ⟨rfl,rfl⟩ (.cons ⟨rfl,rfl⟩ (.cons ⟨rfl,rfl⟩ .nil))),_,_,⟨rfl,rfl,rfl⟩,rfl,fun e he=>?_,.cons (fM ⟨_,rfl⟩) rfl (.cons (fM ⟨_,rfl⟩) rfl (.cons (fM ⟨_,rfl⟩) rfl (.cons (fM ⟨_,rfl⟩) rfl .nil))),(by show ([.inr "up",.inr "right",.inr "down",.inr "left"]:List Key).Nodup;decide +kernel)⟩
 simp only[List.mem_toArray,IP,KE,or_false]at he;rcases he with rfl | rfl | rfl | rfl
 ·exact⟨.inr "up",fM ⟨_,rfl⟩,rfl⟩
 ·exact⟨.inr "right",fM ⟨_,rfl⟩,rfl⟩
 ·exact⟨.inr "down",fM ⟨_,rfl⟩,rfl⟩
 ·exact⟨.inr "left",fM ⟨_,rfl⟩,rfl⟩
theorem kN {B:LV9}{n:Nat}(h:B.length=n+1):∃a t,B=a::t/\t.length=n:=by
 cases B with
 |nil=>cases h
 |cons a t=>exact⟨a,t,rfl,Nat.succ.inj h⟩
theorem Hb {B:LV9}(h:B.length=1):∃a,B=[a]:=by
 obtain⟨a,J,G,h⟩:=kN h;have e:=Jz h;subst e;subst G;exact⟨a,rfl⟩
theorem E6 {B:LV9}(h:B.length=2):∃a b,B=[a,b]:=by
 obtain⟨a,O,G,h⟩:=kN h;obtain⟨b,Y,J,h⟩:=kN h;have e:=Jz h;subst e;subst J;subst G;exact⟨a,b,rfl⟩
theorem E5 {B:LV9}(h:B.length=3):∃a b c,B=[a,b,c]:=by
 obtain⟨a,Y,G,h⟩:=kN h;obtain⟨b,u1,J,h⟩:=kN h;obtain⟨c,u2,O,h⟩:=kN h;have e:=Jz h;subst e;subst O;subst J;subst G;exact⟨a,b,c,rfl⟩
theorem Ha {B:LV9}(h:B.length=4):∃a b c d,B=[a,b,c,d]:=by
 obtain⟨a,u0,G,h⟩:=kN h;obtain⟨b,u1,J,h⟩:=kN h;obtain⟨c,u2,O,h⟩:=kN h;obtain⟨d,u3,Y,h⟩:=kN h;have e:=Jz h;subst e;subst Y;subst O;subst J;subst G;exact⟨a,b,c,d,rfl⟩
theorem HY {B:LV9}{d:Value}(h:(B++[d]).length=2):∃a,B=[a]:=by
 match B,h with
 | [a],_=>exact⟨a,rfl⟩
 | [],h=>simp at h
 |_::_::_,h=>simp at h
structure Df (K:Frag)(x:Str)(st:Stmt)(f:Addr)(fd:Fd9):Prop where
 F:bD K x x st f fd .none
 a:nsIn K mainGlobals x=some (some (.ref f))
theorem df {K:Frag}{x:Str}{st:Stmt}{f:Addr}{Y:Value}{od J:Option Addr}{G:Array (OV9)}{kV doc O B ct:Value}(a:nsIn K mainGlobals x=some (some (.ref f)))(l:K.lookup f=some ⟨Y,od,.func (fnOf x x (cg st) (bW st) (aq st) .none kV doc O J B ct),G⟩)
  (c:codeIn K B x=true) (k:keepIn K (.ref f)=true):Df K x st f (fnOf x x (cg st) (bW st) (aq st) .none kV doc O J B ct):=⟨pE l c k,a⟩
theorem bd1 {K:Frag}{x q:Str}{st:Stmt}{f:Addr}{fd:Fd9}{G:Value}{J:Str}(F:bD K x q st f fd G)(h:∀(kV doc O:Value) (Y:Option Addr) (B ct:Value) (a:Value),bindArgs (fnOf x q (cg st) (bW st) (aq st) G kV doc O Y B ct) ⟨[a],[]⟩=pure [(J,a)]:=by intros;rfl):eU K fd [J] []:=F.binds fun _ _ _ _ _ _ us hl=>by
 obtain⟨a,rfl⟩:=Hb hl;exact h _ _ _ _ _ _ _ 
theorem bd2 {K:Frag}{x q:Str}{st:Stmt}{f:Addr}{fd:Fd9}{G:Value}{J O:Str}(F:bD K x q st f fd G)(h:∀(kV doc Y:Value) (an:Option Addr) (B ct:Value) (a b:Value),bindArgs (fnOf x q (cg st) (bW st) (aq st) G kV doc Y an B ct) ⟨[a,b],[]⟩=pure [(J,a),(O,b)]:=by intros;rfl):eU K fd [J,O] []:=F.binds fun _ _ _ _ _ _ us hl=>by
 obtain⟨a,b,rfl⟩:=E6 hl;exact h _ _ _ _ _ _ _ _ 
theorem bd3 {K:Frag}{x q:Str}{st:Stmt}{f:Addr}{fd:Fd9}{G:Value}{J O p2:Str}(F:bD K x q st f fd G)(h:∀(kV doc Y:Value) (an:Option Addr) (B ct:Value) (a b c:Value),bindArgs (fnOf x q (cg st) (bW st) (aq st) G kV doc Y an B ct) ⟨[a,b,c],[]⟩=pure [(J,a),(O,b),(p2,c)]:=by intros;rfl):eU K fd [J,O,p2] []:=F.binds fun _ _ _ _ _ _ us hl=>by
 obtain⟨a,b,c,rfl⟩:=E5 hl;exact h _ _ _ _ _ _ _ _ _ 
theorem bd4 {K:Frag}{x q:Str}{st:Stmt}{f:Addr}{fd:Fd9}{G:Value}{J O p2 Y:Str}(F:bD K x q st f fd G)(h:∀(kV doc pm:Value) (an:Option Addr) (B ct:Value) (a b c d:Value),bindArgs (fnOf x q (cg st) (bW st) (aq st) G kV doc pm an B ct) ⟨[a,b,c,d],[]⟩=pure [(J,a),(O,b),(p2,c),(Y,d)]:=by intros;rfl):eU K fd [J,O,p2,Y] []:=F.binds fun _ _ _ _ _ _ us hl=>by
 obtain⟨a,b,c,d,rfl⟩:=Ha hl;exact h _ _ _ _ _ _ _ _ _ _ 
theorem GD {l:PySem.W.OpenLaw}{w:Wd9}{K:Frag}{h:Heap}{mg:Mg9}{fa f0 f1 f2 f3 f4 f5 f6 f7 f8 f9 q6 q7 q8 q9 r4 r5 r6 r7 r8 r9 s0 s1 s2 s3 s4 s5 s6 s7 s8 l8 s9 t0 t1 t2 t3 t4 t5 t6 t7 t8 t9 u8 u9 v0 v1 v2 l9:Addr}{g0 g1 g2 g3 g4 g5 g6 g8 g9 v3 v4 v5 v6 v7 v8 v9 w0 w1 w2 w3 w4 w5 w6 w7 w8 w9 x0 x1 x2 x3 x4 x5 x6 x7 x8 x9 y0 y1 y2 y3 y4 y5 y6 y7:Fd9}(X:K.In h)(G:h.Ns mainGlobals mg)(y8:mg "law" = some (.ref fa))
  {y9 an7 n1 n2 n3 l1:Option Addr} {sl7 n4 n5:Array (OV9)} {oc7 kV7 dc7 pm7 n6 ct7 n7 n8 n9 o0 g7 o1 o2 l2 l3 l4 h0 l5:Value}
  {o3:Addr} {do7:Option Addr} {dn7:Nat} {o4:Array (OV9)} {o5:Tok}
  (m0:Df K "is_side" nB f0 g0)
  (m1:Df K "is_code" nE f1 g1)
  (m2:Df K "need_code" jL f2 g2)
  (m3:Df K "need_side" jK f3 g3)
  (m4:Df K "beside" qd f4 g4)
  (m5:Df K "is_whole" lh f5 g5)
  (m6:Df K "is_level" lA f6 g6)
  (a7:nsIn K mainGlobals "need_level" = some (some (.ref f7))) (l7:K.lookup f7=some ⟨oc7,y9,.func (fnOf "need_level" "need_level" (cg dr) (bW dr) (aq dr) (.ref o3) kV7 dc7 pm7 an7 n6 ct7),sl7⟩) (c7:codeIn K n6 "need_level" = true) (k7:keepIn K (.ref f7)=true)
  (d7:K.lookup o3=some ⟨.type "tuple",do7,.seq #[.int 0 o5] dn7,o4⟩)
  (m7:Df K "width_of" kZ f8 g8)
  (m8:Df K "need_place" i8 f9 g9)
  (h1:Df K "code_at" nF q6 v3)
  (h2:Df K "corner" p_ q7 v4)
  (h3:Df K "overlap" nv q8 v5)
  (h4:Df K "common" qb q9 v6)
  (d9:Df K "leaves_below" gA r4 v7)
  (h5:Df K "leaves" pY r5 v8)
  (e0:Df K "leaves_along" gB r6 v9)
  (h6:Df K "beyond_leaf" iu r7 w0)
  (h7:Df K "touches" nu r8 w1)
  (h8:Df K "leaf_at" ny r9 w2)
  (h9:Df K "alike_around" gD s0 w3)
  (i0:Df K "members_from" gz s1 w4)
  (i1:Df K "lands" tO s2 w5)
  (i2:Df K "rim" Bq s3 w6)
  (i3:Df K "bare_parts" i9 s4 w7)
  (i4:Df K "ends_of_part" gC s5 w8)
  (i5:Df K "pieces_round" gr s6 w9)
  (i6:Df K "piece_behind" gw s7 x0)
  (j0:Df K "ring_from" jJ s8 x1)
  (a29:nsIn K mainGlobals "rings" = some (some (.ref l8))) (o6:K.lookup l8=some ⟨n7,n1,.func (fnOf "rings" "rings" (cg i7) (bW i7) (aq i7) .none n8 n9 o0 n2 g7 o1),n4⟩) (o7:codeIn K g7 "rings" = true) (k29:keepIn K (.ref l8)=true)
  (j1:Df K "_law_at" pZ s9 x2)
  (j2:Df K "_law_mix" nA t0 x3)
  (j3:Df K "_law_rows_by" io t1 x4)
  (e1:Df K "_law_tree_of" im t2 x5)
  (j4:Df K "_law_code_at" iq t3 x6)
  (j5:Df K "_law_places_of" fJ t4 x7)
  (j6:Df K "_law_flood" jP t5 x8)
  (j7:Df K "_law_lands" jO t6 x9)
  (j8:Df K "_law_sides" jM t7 y0)
  (j9:Df K "_law_next" k_ t8 y1)
  (k0:Df K "_law_by_rows" ir t9 y2)
  (k1:Df K "_law_corners" ip u8 y3)
  (k2:Df K "_law_rings" jN u9 y4)
  (k3:Df K "_law_members_right" du v0 y5)
  (k4:Df K "_law_kinds_right" dX v1 y6)
  (k5:Df K "_law_land_right" fe v2 y7)
  (a46:nsIn K mainGlobals "law" = some (some (.ref l9))) (l46:K.lookup l9=some ⟨o2,n3,.func (fnOf "law" "law" (cg ms) (bW ms) (aq ms) .none l2 l3 l4 l1 h0 l5),n5⟩) (c46:codeIn K h0 "law" = true) (k46:keepIn K (.ref l9)=true)
  (z0:nsIn K mainGlobals "isinstance" = some none)
  (z1:nsIn K mainGlobals "int" = some none)
  (z2:nsIn K mainGlobals "bool" = some none)
  {zt3:Tok} (z3:nsIn K mainGlobals "MOST" = some (some (.int 40 zt3)))
  (z4:nsIn K mainGlobals "all" = some none)
  (z5:nsIn K mainGlobals "str" = some none)
  (z6:nsIn K mainGlobals "len" = some none)
  {zt7:Tok} (z7:nsIn K mainGlobals "QUARTERS" = some (some (.str "0123" zt7)))
  (z8:nsIn K mainGlobals "range" = some none)
  (z9:nsIn K mainGlobals "min" = some none)
  (z10:nsIn K mainGlobals "max" = some none)
  (z11:nsIn K mainGlobals "tuple" = some none)
  (z12:nsIn K mainGlobals "sorted" = some none)
  (z13:nsIn K mainGlobals "dict" = some none)
  (z14:nsIn K mainGlobals "abs" = some none)
  (z15:nsIn K mainGlobals "list" = some none)
  (z16:nsIn K mainGlobals "zip" = some none)
  {aS aC p0 p1 p2 p3:Addr} {oS r0 r1 r2 r3:Option Addr} {ts0 ts1 ts2 ts3 dk0 dk1 dk2 dk3:Tok} {nC nS:Nat} {slS:Array (OV9)}
  (u0:nsIn K mainGlobals "SIDES" = some (some (.ref aS))) (u1:K.lookup aS=some ⟨.type "tuple",oS,.seq #[.str "up" ts0,.str "right" ts1,.str "down" ts2,.str "left" ts3] nS,slS⟩)
  (u2:nsIn K mainGlobals "CROSSINGS" = some (some (.ref aC))) (u3:K.lookup aC=some ⟨.type "dict",none,.dict #[⟨PyData.keyHash w.params "up",.str "up" dk0,.ref p0⟩,⟨PyData.keyHash w.params "right",.str "right" dk1,.ref p1⟩,⟨PyData.keyHash w.params "down",.str "down" dk2,.ref p2⟩,⟨PyData.keyHash w.params "left",.str "left" dk3,.ref p3⟩] nC,#[]⟩)
  {ta0 tb0:Tok} {nn0:Nat} {sk0:Array (OV9)} (u4:K.lookup p0=some ⟨.type "tuple",r0,.seq #[.str "2301" ta0,.str "23" tb0] nn0,sk0⟩)
  {ta1 tb1:Tok} {nn1:Nat} {sk1:Array (OV9)} (u5:K.lookup p1=some ⟨.type "tuple",r1,.seq #[.str "1032" ta1,.str "02" tb1] nn1,sk1⟩)
  {ta2 tb2:Tok} {nn2:Nat} {sk2:Array (OV9)} (u6:K.lookup p2=some ⟨.type "tuple",r2,.seq #[.str "2301" ta2,.str "01" tb2] nn2,sk2⟩)
  {ta3 tb3:Tok} {nn3:Nat} {sk3:Array (OV9)} (u7:K.lookup p3=some ⟨.type "tuple",r3,.seq #[.str "1032" ta3,.str "13" tb3] nn3,sk3⟩)
  {ts:List Addr} {c5 k6:Addr} {o8:Value} {o9:Option Addr} {l6:Array Value} {p4:Array (OV9)}
  (p5:g7=.ref k6) (p6:K.lookup k6=some ⟨o8,o9,.fields l6,p4⟩) (p7:l6[11]? = some (.ref c5)) (p8:PySem.W.codeHdIn K k6 c5=true) (n29:K.lookup c5=none) (m29:c5∈ts)
  (nd:([c5]:List Addr).Nodup)
  : ∃(fd:Fd9) (Ps:List Addr) (sp:Sp),(∀(s:Sh9) (v:Value),BindsTo s fd ⟨[v],[]⟩ [("_law_script",v)])/\(∀Pt∈Ps,Pt∈ts/\K.lookup Pt=none/\∃c,PySem.W.CodeHd h c Pt) /\
   (∀base:Heap,K.In base->base.Ns mainGlobals mg->ng mg base->bB l.prog w K mg base CX0 52 fa fd ["_law_script"] sp) /\
   ∀(H:Hp) (a:Addr) (ns:List Int),ns.length<=63->(∀Pt∈Ps,H Pt=some (.tbl #[]))->SqL K H a (ns.map V.int)->sp [.ref a] H (fun v _=>v=.bl true) fun _ _ _=>False:=by
 have e:=y8.symm.trans (mg_of X G a46);cases e;have T:Tx K mg:=⟨mg_none_of X G z0,mg_none_of X G z1,mg_none_of X G z2,⟨_,mg_of X G z3⟩,mg_none_of X G z4,mg_none_of X G z5,mg_none_of X G z6,⟨_,mg_of X G z7⟩,mg_none_of X G z8,mg_none_of X G z9,mg_none_of X G z10,mg_none_of X G z11,mg_none_of X G z12,mg_none_of X G z13,mg_none_of X G z14,mg_none_of X G z15,mg_none_of X G z16⟩;have U:Ty l.prog w K mg:=⟨⟨aS,mg_of X G u0,_,_,_,u1,rfl,rfl,(by show 4<=sizeLine;decide),.cons ⟨_,rfl⟩ (.cons ⟨_,rfl⟩ (.cons ⟨_,rfl⟩ (.cons ⟨_,rfl⟩ .nil)))⟩,aC,p0,p1,p2,p3,mg_of X G u2,kd4 u3,⟨_,_,_,u4,rfl,rfl,(by show 2<=sizeLine;decide),.cons ⟨_,rfl⟩ (.cons ⟨_,rfl⟩ .nil)⟩,⟨_,_,_,u5,rfl,rfl,(by show 2<=sizeLine;decide),.cons ⟨_,rfl⟩ (.cons ⟨_,rfl⟩ .nil)⟩,⟨_,_,_,u6,rfl,rfl,(by show 2<=sizeLine;decide),.cons ⟨_,rfl⟩ (.cons ⟨_,rfl⟩ .nil)⟩,⟨_,_,_,u7,rfl,rfl,(by show 2<=sizeLine;decide),.cons ⟨_,rfl⟩ (.cons ⟨_,rfl⟩ .nil)⟩⟩;have F7:=pE (st:=dr) l7 c7 k7;have p9:=pE (st:=i7) o6 o7 k29;have F46:=pE (st:=ms) l46 c46 k46;have b7:=F7.bindsD (ps:=["level","least"]) (ds:=[]) d7 rfl fun _ _ _ _ _ _ us hl=>by obtain⟨a,b,rfl⟩:=E6 ((I_ List.length (Jt us)).symm.trans hl);exact⟨_,rfl,rfl⟩
 have bd7:=F7.bindsD (ps:=["level","least"]) (ds:=[.int 0 o5]) d7 rfl fun _ _ _ _ _ _ us hl=>by obtain⟨a,rfl⟩:=HY hl;exact⟨_,rfl,rfl⟩
 have b29:=p9.binds (ps:=["sheet","x","y"]) fun _ _ _ _ _ _ us hl=>by obtain⟨a,b,c,rfl⟩:=E5 hl;exact rfl
 have q4:=A8 p5 p6 p7 p8;have q5:=Ev (st:=i7) o6 o7 q4;obtain⟨Tb,m9⟩:∃Tb:AS9,Tb=[(c5,xu)]:=⟨_,rfl⟩;have hnd:(Tb.map (·.1)).Nodup:=by rw[m9];exact nd
 have e7:(c5,xu)∈Tb:=by rw[m9];simp
 refine⟨fnOf "law" "law" (cg ms) (bW ms) (aq ms) .none l2 l3 l4 l1 h0 l5,Tb.map (·.1),Bl K Tb,fun s v=>.of_eq rfl,fun Pt l0=>?_,fun base KXb _ hB=>?_,fun H a ns hl hO hS=>⟨a,ns,rfl,hS,hl,fV.start hO,fun _=>rfl⟩⟩
 ·rw[m9]at l0;have l0:=Iu.mp l0;subst l0;exact⟨m29,n29,(vq X q4).elim fun c h=>⟨c,h.2⟩⟩
 have O:∀{x st f fd j ps sp},Df K x st f fd->bB l.prog w K mg base CX0 j f fd ps sp->eU K fd ps []->Fok l.prog w K mg base CX0 j x ps [] sp:=fun d o b=>fok d.F o b (mg_of X G d.a);have e2:=O m0 (xG T U m0.F) (bd1 m0.F);have e3:=O m1 (xH T m1.F) (bd1 m1.F);have Y:=O m2 (tZ T bq m2.F e3) (bd1 m2.F);have d5:=O m3 (tY T bq m3.F e2) (bd1 m3.F);have e8:=O m4 (Ah T U bq m4.F Y d5) (bd2 m4.F);have b1:=O m5 (we T m5.F) (bd1 m5.F);have b2:=O m6 (wf T bq m6.F b1) (bd1 m6.F);have c9:Fok l.prog w K mg base CX0 3 "need_level" ["level","least"] [] (dA):=fok F7 (kK T bq F7 b2) b7 (mg_of X G a7)
 have b4:Fok l.prog w K mg base CX0 3 "need_level" ["level","least"] [.int 0] (dA):=Ig F7 (kK T bq F7 b2) bd7 (.cons ⟨_,rfl⟩ .nil) (mg_of X G a7)
 have a2:=O m7 (v_ T m7.F) (bd1 m7.F);have d0:=O m8 (rK T bq m8.F a2 b1) (bd3 m8.F);have e4:=O h1 (xI T bq h1.F b4 d0) (bd3 h1.F);have b0:=O h2 (Af T bq h2.F Y c9 a2) (bd2 h2.F);have e5:=O h3 (xD T h3.F) (bd4 h3.F);have e9:=O h4 (Ag T bq h4.F Y b0 e5) (bd3 h4.F);have b5:=O d9 (ju T bq d9.F (bd2 d9.F) (mg_of X G d9.a) 41) (bd2 d9.F);have a4:=O h5 (Ad T bq h5.F b5) (bd1 h5.F);have b6:=O e0 (jv T bq e0.F (bd3 e0.F) (mg_of X G e0.a) 41) (bd3 e0.F);have a3:=O h6 (qB T U bq h6.F e8 b6) (bd3 h6.F);have e6:=O h7 (xC T bq h7.F a4 a3) (bd1 h7.F);have c6:=O h8 (xE T bq h8.F e4) (bd3 h8.F);have B:=O h9 (oO T bq h9.F a4 e6) (bd1 h9.F);have J:=O i0 (oM T i0.F) (bd2 i0.F);have k8:=O i1 (B7 T bq i1.F B a4 J) (bd1 i1.F);have n0:=O i2 (FW T bq i2.F a2 e9 c6 B J) (bd3 i2.F);have d1:=O i3 (rL T U bq i3.F b0 a3) (bd4 i3.F);have b8:=O i4 (oN T i4.F) (bd4 i4.F);have b9:=O i5 (oJ T bq i5.F a4 b0 d1 b8) (bd2 i5.F);have c0:=O i6 (oK T i6.F) (bd2 i6.F);have d6:=O j0 (tX T bq j0.F c0) (bd2 j0.F);have k9:Fok l.prog w K mg base CX0 50 "rings" ["sheet","x","y"] [] (pQ l.prog w Tb):=fok p9 (B6 T bq q5 KXb hB e7 hnd c6 B J b9 d6) b29 (mg_of X G a29)
 have c8:=O j1 (Ae T j1.F) (bd2 j1.F);have b3:=O j2 (xF T j2.F) (bd2 j2.F);have c1:=O j3 (qx T bq j3.F c8 b3) (bd1 j3.F);have c2:=O e1 (jV T bq e1.F (bd4 e1.F) (mg_of X G e1.a) 4) (bd4 e1.F);have c3:=O j4 (qz T j4.F) (bd3 j4.F);have a9:=O j5 (nK T j5.F) (bd2 j5.F);have d2:=O j6 (ue T j6.F) (bd3 j6.F);have d3:=O j7 (uc T bq j7.F c3 d2) (bd2 j7.F);have a6:=O j8 (t_ T j8.F) (bd1 j8.F);have d8:=O j9 (wc T j9.F) (bd2 j9.F);have a0:=O k0 (qA T k0.F) (bd1 k0.F);have c4:=O k1 (qy T bq k1.F a0) (bd2 k1.F);have d4:=O k2 (ua T bq k2.F a6 d8 a0 c4) (bd1 k2.F);have a1:=O k3 (jW T bq k3.F a9) (bd3 k3.F);have a5:=O k4 (lH T k4.F) (bd1 k4.F);have a8:=O k5 (mG T bq k5.F n0 k9 a6 a5 d4) (bd3 k5.F);exact FX T bq F46 c1 c8 b3 c2 d3 k8 a1 a8
theorem HC {l:PySem.W.OpenLaw}{q:Pg9}{B:List Str}{XP:(Mg9)->Heap->Prop}{G:Wd9->Heap->Prop}{d:DefRec}{K:Params->Frag}{ts:List Addr}(hn:l.most=some 63)(J:d.params.defaults=[])
  (hY:∀(w:Wd9) (h:Heap),G w h->(K w.params).In h) (hT:∀(w:Wd9) (h:Heap),G w h->∀P∈ts,h.get? P=some (PySem.W.tabObj #[]))
  (F:∀(w:Wd9) (mg:Mg9) (O:Addr) (h:Heap),(K w.params).In h->h.Ns mainGlobals mg->mg d.name=some (.ref O) ->
   ∃(fd:Fd9) (Ps:List Addr) (sp:Sp),(∀(s:Sh9) (u:Value),BindsTo s fd ⟨[u],[]⟩ [("_law_script",u)])/\(∀Pt∈Ps,Pt∈ts/\(K w.params).lookup Pt=none/\∃c,PySem.W.CodeHd h c Pt) /\
    (∀base:Heap,(K w.params).In base->base.Ns mainGlobals mg->ng mg base->bB l.prog w (K w.params) mg base CX0 52 O fd ["_law_script"] sp) /\
    ∀(H:Hp) (a:Addr) (Y:List Int),Y.length<=63->(∀P∈Ps,H P=some (.tbl #[]))->SqL (K w.params) H a (Y.map V.int)->sp [.ref a] H (fun v _=>v=.bl true) fun _ _ _=>False) :
  PySem.W.WalkO q B XP G l.row.toRowW d [] (fun f vs=>PySem.call f vs) :=
 L2.AU (n:=63) (k:=52) (x := "_law_script") (CX:=fun w=>CX0) hn (by decide) J ⟨rfl,by decide,by decide⟩ hY hT F fun _ _ _ _ _ z=>bq _ _ _ _ _ z
end Qs
end
end
open Lean in
local macro_rules
 | `(#check $s:str) =>return mkNullNode (← (s.getString.splitOn " ").toArray.mapM fun n => `(theorem $(mkIdent (.str `PySem.W.Fast s!"tw{n.foldl (fun a c=>a*62+c.toNat-if c<'A' then 48 else if c<'a' then 55 else 61) 0}")) : True := ⟨⟩))
#check "4SPK14aqEzE 156PYZBsOSk HOEsbPhfhzJ 3dVnKyuo4OT GfxOzh8lQnf 7l888jIFTAO GOZO91kKuu3 6hMzJagPoEx 8GFrLyqf3bV 3AQ820JWEgR 3JF7HF6o0OE F0loCKljf8V CGQ7zKYxKP3 EmstMQoEHaV 8M4DBdMJkYZ 39tMqaoP51h G55AclxmnAp KcaQEDqPW3Y DvhsprJuQqk BBj7ecYt0xB 9j3I6RyjNs0 GMi9O9fIw7H DF53BIYupvr BOGqOFKMXc8 EFk7hZQrvpu 7FxwWePztBY FsPLOo98aSP DLbE3ore4lS Br5H3ssUSWm 6lFXZHFilI1 EmgMX81qtpu B2IJlb4pSSV GKCTnsQ4s6 EkD3eepORW9 AP23GnBq0EK 6UtF6PwVs0J BHW7dcukD0l 3ZnoVRxXray Dc3b4LyZrgz Ceck8AviSlC Ez8UK2pfuXN 5PgxOEzjLC4 F2U7T0XRjVz Eq0D45bH6la l6Q3VRYXBK LciHmLUv4aV KClmBOvMmXH BIivJsE5v2M Blqf1wkIdso ICGYwGEpSRB jSuxmRf5hi DloTVVkKbur 64sb3Qpwa5j 6d20GlNdQe3 4nbp7k7yLAi 8Ujtp3R6wac 4aWcgB0lYTV Ah5MJUlz7cd DYdBdywBsro IT9oEcWSLjD HzcLOs9Xqnm 4037NUUMdKu E2Kmdhb5RL LQ3TNrcHLg1 LDHmHWDeYt0 Czh4gNWizw7 A2uW14GXDHA CkiJzdjTZjA I26VdKlxsob 5WSsCbxPSWB JfSNArqHLnA 7m71Cdium7b uyLJ44Wx49 9bIzlqpjbHv vKRqOBZ5dF 7dmIdAzuKAg K5kqDmu095m 7aqx9h9gvN1 6sv2U5feUvR Cs7zEMEmK4L 82RuxBIYpqO 3S11PCJsZHB Kdqs644e3q9 BYFVBIACVwH CbsBFwIhh3C 77IlGvg8eCc FJ3f3gKxNS4 BMZvntlvBf5 9TiqFAOctO6 4g0PKFBAbj0 JgnkUAfmV7R 3leS8MhM2Ym 8XJ0VXgimx5 8Ek26lXChRc 1aBUaMsTSzt ILeJsaUEnk0 5zEPndtNss 8ieHv7VUTVT I8esxthrefY DeTDBIkDYuj EY8thM6jYQr JwB0xYyFbu7 2VMynIQSe0q 5HsTp85qmCs GMU7yWVILCI I6Vs6pkGWOR BstycmpIbWR 7y4EFeEGDfn GozyTlbBB0e KZwNGRnZ6Lh 7apWeFLbSH6 41eAuY2TiJ7 7XkhORauMOk 6pvIb2y1LNJ 8QtrWxce5c7 9VJ0DdwsQsQ dg6OglO317 LsK8l6MtlzZ 8aSUAHtB0dO 52GQMsD45at 68tZfqPtaBK A7Zx9PavYmg 4Knpc2ykmBf GnYgfz6zc2B 7pPBJpaEZEt fIiPkB5Shi Est7Xz3eHyo 7pbTngcR7TI 4Vm6XeDZsz3 A0U9wqnKZNp 7lbMRVgTX9U BKW2D2AvCON 2Mw3ihn54jO FSUMA9Rut39 2hiqJ5TrvZK 5lsnyK8KKC6 79GONZLb14R DNKbLox7nSL FHcsbOUbPid 3Lg50IkA2r6 3mD53AyDTOY FTOgIabb4a8 8bNfwdBhhhA 4NcR8lFAk6O DgPb0BGYW6M Gen8tekmn3 45R44h70CP2 9octKvS3EEQ 1FihUAKhto8 LAYACxKTub8 8l3Pe0ePded 9JUKReKdQp7 1ex4RLnuhz5 HNsIumJKGhb BX79rgdNFeh 6wUye7yRkHJ 2BMAyZLkMKl 5F8sd8MYj11 JWoPrECDyAO 4vhWLRZlTf7 44zPgDWaxMF 11WarH8X19H LvfuZEtIQ5F EAz9QEJN9Or AznuUhYBQFu KDh51Y3qffZ G0WKNfsYJ5U E6YLinpZ3ye EL73biMLcMd I55ih7crj5G CUREfArkZWX 7hvjY9G0xAW 6PJ4i9GPQqS IxGlTcGx8fp FzpwfBZ05uA 5YXHjTHSgXG HqhrW5tlC5M 46mcFFjYtwh 50QVNuWUFxo DIeQVztsCXB 3B9yGq6Dyo4 LDZ4cb1buBB 9LcDk45FF7t FJGqVRfskpD FqDadPiHjxt ILSHEzFJ9bR IRifniSNe5R 6MB0Y6Y1p5S Jsdqxafonj1 2XdaWqMjxzs 4Rq1tm6S6bQ ImoSBlHbycB 4V3X9tYycFf CVYXGB0ayON 1VAWJStHQJr J1pnhOkri2E 8oadHVWp6wD 5UHO20l6lBv Gwu55b109sX 2Glx8vcDUzB 1B5E3Wg1SBa ESVLDHCZGoJ 4Ap1AQrGdFv KHwmZad6eSl 4RKgisxMo6Z LPySpGLssfE JZAYEAAM4XY K72DYHdXrpH DSuK9gh0zY0 7PPxImfr4CJ 1iZ3bE944vh JLLquNMxWaG 2UWtaesJRiQ IKFHxADC7AS Jt06m669ncz Cp2aFl7W5wv IN4165LJhFP IjvRAPVZs3q 5gpkPCo1iUz HX96XYGdryQ 8Oe1Yay4wqY CoHLew4TSkJ 63K0vJ9Asrx 9MjD2kvDNZV KGcgzfjRB0c JsihN5IlwLv HNMhTaUOS3z 23FZHwlv0L8 HDHjgwD7IL0 KfdoWoQN4gu ExJ5KZbyxle BXHnEVRd8ut"
open PySem PySem.W PyProof.Rows
set_option maxRecDepth 100000 in
set_option maxHeartbeats 0 in
theorem PySem.Challenge.cw_quartersheet_k67_whole_lands_by_a_plain_holds : PySem.Challenge.rw_quartersheet_k67_whole_lands_by_a_plain.Holds := by
 w_on;o_law;k_head;(case hw=>w_witness2)
 k_fill
 refine Qs.HC (l:=PySem.Challenge.rw_quartersheet_k67_whole_lands_by_a_plain) rfl rfl (fun w h Y=>PySem.W.km_in_of Y) (fun w h Y=>PySem.W.km_tabs_of Y) ?F
 case F=>
  intro w mg fa h KX G hmg
  refine' Qs.GD KX G hmg (Qs.df ..) (Qs.df ..) (Qs.df ..) (Qs.df ..) (Qs.df ..) (Qs.df ..) (Qs.df ..) _ _ _ _ _ (Qs.df ..) (Qs.df ..) (Qs.df ..) (Qs.df ..) (Qs.df ..) (Qs.df ..) (Qs.df ..) (Qs.df ..) (Qs.df ..) (Qs.df ..) (Qs.df ..) (Qs.df ..) (Qs.df ..) (Qs.df ..) (Qs.df ..) (Qs.df ..) (Qs.df ..) (Qs.df ..) (Qs.df ..) (Qs.df ..) (Qs.df ..) _ _ _ _ (Qs.df ..) (Qs.df ..) (Qs.df ..) (Qs.df ..) (Qs.df ..) (Qs.df ..) (Qs.df ..) (Qs.df ..) (Qs.df ..) (Qs.df ..) (Qs.df ..) (Qs.df ..) (Qs.df ..) (Qs.df ..) (Qs.df ..) (Qs.df ..) _ _ _ _ _ _ _ _ _ _ _ _ _ _ _ _ _ _ _ _ _ _ _ _ _ _ _ _ _ _ _ _ _ _ _ _
  all_goals try first | k_is | exact rfl | kernel_rfl | decide | k_exc | kts_exm | kit_is
