import PyProof.Rows.All
import Wide.All
import OpenK.AllK
import Wide.FinOn
import Lean
import PyProof.EqAt
import PyProof.EqKinds
import PyProof.TupleCall
import PySem.Challenge.RW_quartersheet_k66_whole_rings_area_and_ri
set_option Elab.async false
set_option linter.all false
set_option maxRecDepth 100000
set_option maxHeartbeats 4000000
noncomputable section
section
open PySem PySem.Spec PyProof.Rows
abbrev IX:=@wpAny_bind
abbrev IY:=@Heap.get?_push_of_some
abbrev IZ:=@List.getElem?_eq_some_iff
abbrev I0:=@List.length_map
abbrev I8:=@List.length_append
abbrev I9:=@List.mem_map
abbrev I_:=@Nat.le_refl
abbrev Ja:=@List.mem_cons_of_mem
abbrev Jb:=@Bool.false_eq_true
abbrev Jc:=@List.mem_singleton
abbrev Jd:=@decide_eq_true
abbrev Je:=@Nat.zero_le
abbrev Jf:=@Array.getElem?_eq_getElem
abbrev Jg:=@List.mem_cons_self
abbrev Jh:=@List.mem_of_getElem?
abbrev Ji:=@List.take_of_length_le
abbrev Jj:=@List.mem_append
abbrev Jk:=@List.map_congr_left
abbrev Jl:=@List.map_cons
abbrev Jm:=@PassesOwn.never
abbrev Jn:=@List.map_append
abbrev Jo:=@Heap.lt_size
abbrev Jp:=@wpAny_pure
abbrev Jq:=@Bool.false_ne_true
abbrev Jr:=@List.mem_cons
abbrev Js:=@wpS_bind
abbrev Jt:=@Nat.lt_of_lt_of_le
abbrev Ju:=@Heap.get?_push_size
abbrev Jv:=@List.length_cons
abbrev Jw:=@List.take_add_one
abbrev Jx:=@List.append_assoc
abbrev Jy:=@List.getElem?_eq_getElem
abbrev Jz:=@congrArg
abbrev JA:=@Nat.le_trans
abbrev JB:=@of_decide_eq_true
abbrev JC:=@List.size_toArray
abbrev JD:=@List.mem_append_right
abbrev JE:=@List.map_map
abbrev JF:=@wpS_pure
abbrev JG:=@Option.isSome_iff_exists
abbrev JH:=@List.mem_filter
abbrev JI:=@Array.length_toList
abbrev JJ:=@Nat.ne_of_lt
abbrev JK:=@Heap.get?_update_other
abbrev JL:=@List.getElem?_map
abbrev JM:=@List.getElem?_append_left
abbrev JN:=@List.pairwise_map
abbrev JO:=@List.length_take
abbrev JP:=@List.eq_nil_of_length_eq_zero
abbrev JQ:=@Option.map_eq_some_iff
abbrev JR:=@List.pairwise_append
abbrev JS:=@List.mem_append_left
abbrev JT:=@decide_eq_false
abbrev JU:=@Int.toNat_natCast
abbrev JV:=@decide_eq_true_iff
abbrev JW:=@List.sum_cons
abbrev JX:=@List.mem_map_of_mem
abbrev JY:=@List.getElem?_append_right
abbrev JZ:=@List.take_append_drop
abbrev J0:=@List.drop_eq_getElem_cons
abbrev J_:=@List.append_nil
abbrev Ka:=@Array.toList_append
abbrev Kb:=@Array.getD_eq_getD_getElem?
abbrev Kc:=@Option.isSome_map
abbrev Kd:=@List.length_singleton
abbrev Ke:=@List.mem_range
abbrev Kf:=@wpAny_mono
abbrev Kg:=@Nat.pow_succ
abbrev Kh:=@List.map_nil
abbrev Ki:=@Bool.eq_iff_iff
abbrev Kj:=@List.length_filter_le
abbrev Kk:=@Nat.add_mul
abbrev Kl:=@List.sum_append
abbrev Km:=@List.pairwise_iff_getElem
abbrev Kn:=@List.nodup_cons
abbrev Ko:=@Array.getElem?_toList
abbrev Kq:=@List.take_length
abbrev Kr:=@Nat.pow_le_pow_right
abbrev Ks:=@List.getElem?_of_mem
abbrev Kt:=@List.range_succ
abbrev Ku:=@List.nil_append
abbrev Kv:=@Bool.and_eq_true
abbrev Kw:=@Nat.two_pow_pos
abbrev Kx:=@Nat.mul_assoc
abbrev Ky:=@List.pairwise_cons
abbrev Kz:=@List.filter_cons_of_neg
abbrev KA:=@Int.natCast_mul
abbrev KB:=@List.mem_of_mem_take
abbrev KC:=@Array.perm_iff_toList_perm
abbrev KE:=@Array.getElem?_eq_some_iff
abbrev KF:=@Int.le_refl
abbrev KG:=@List.lt_irrefl
abbrev KH:=@Nat.zero_add
abbrev KI:=@List.find?_cons
abbrev KJ:=@List.filter_append
abbrev KL:=@Int.emod_lt_of_pos
abbrev KM:=@Nat.pow_add
abbrev KN:=@List.length_drop
abbrev KO:=@Nat.lt_irrefl
abbrev KP:=@Nat.le_of_lt
abbrev KQ:=@List.flatMap_append
abbrev KR:=@List.drop_of_length_le
abbrev KS:=@Nat.le_of_not_lt
abbrev KU:=@Nat.ne_of_gt
abbrev KW:=@Nat.lt_or_ge
abbrev KY:=@Nat.mul_le_mul
abbrev KZ:=@List.mem_of_find?_eq_some
abbrev K0:=@List.getElem?_eq_none_iff
abbrev K1:=@List.extract_eq_take_drop
abbrev K2:=@Array.getElem_toList
abbrev K3:=@List.nodup_append
abbrev K4:=@List.length_range
abbrev K5:=@List.foldl_append
abbrev K6:=@Int.natCast_add
abbrev K7:=@Int.emod_nonneg
abbrev K8:=@List.sum_nil
abbrev K9:=@Int.zero_add
abbrev K_:=@List.pairwise_singleton
abbrev La:=@List.filter_cons_of_pos
abbrev Lb:=@of_decide_eq_false
abbrev Lc:=@Nat.lt_of_le_of_lt
abbrev Ld:=@List.sum
abbrev Le:=@Option.map_some
abbrev Lf:=@List.perm_append_comm
abbrev Lg:=@List.length_replicate
abbrev Lh:=@List.forIn_cons
abbrev Li:=@Bool.eq_false_iff
abbrev Lj:=@Array.toList_extract
abbrev Lk:=@List.not_mem_nil
abbrev Ll:=@Array.toList_inj
abbrev Lm:=@List.flatten_append
abbrev Ln:=@List.filterMap_cons
abbrev Lo:=@Nat.sub_zero
abbrev Lp:=@Int.min_comm
abbrev Lq:=@Int.max_comm
abbrev Lr:=@Nat.not_lt_zero
abbrev Ls:=@List.of_mem_zip
abbrev Lu:=@List.getElem?_take
abbrev Lv:=@List.getElem?_replicate
abbrev Lw:=@List.any_cons
abbrev Lx:=@List.range_succ_eq_map
abbrev Ly:=@List.length_pos_of_mem
abbrev Lz:=@Array.getElem?_eq_none
abbrev LA:=@List.find?_isSome
abbrev LB:=@Array.getElem?_setIfInBounds_ne
abbrev LC:=@List.drop_take
abbrev LD:=@Nat.succ_pos
abbrev LF:=@Nat.mul_comm
abbrev LG:=@Nat.lt_trans
abbrev LH:=@List.singleton_append
abbrev LI:=@List.pairwise_flatMap
abbrev LJ:=@Heap.get?_update_self
abbrev LK:=@Nat.lt_succ_self
abbrev LL:=@Nat.le_add_right
abbrev LM:=@List.mem_flatMap
abbrev LN:=@Nat.mul_le_mul_right
abbrev LP:=@List.mem_of_mem_drop
abbrev LQ:=@List.mem_erase_of_ne
abbrev LR:=@Array.toList_reverse
abbrev LS:=@Array.getElem?_setIfInBounds
abbrev LU:=@List.getElem_of_mem
abbrev LV:=@List.foldl_cons
abbrev LW:=@List.find?_some
abbrev LX:=@Int.add_mul
abbrev LY:=@wpS_mono
abbrev LZ:=@Nat.eq_zero_or_pos
abbrev L0:=@List.getElem?_drop
abbrev L1:=@List.find?_eq_none
abbrev L3:=@Int.le_trans
abbrev L4:=@Int.add_zero
abbrev L5:=@Array.forIn_toList
abbrev L6:=@List.drop_drop
abbrev L7:=@Nat.lt_trichotomy
abbrev L8:=@Nat.lt_succ_of_lt
abbrev L9:=@List.take_sublist
abbrev L_:=@List.flatMap_cons
abbrev Ma:=@List.ext_getElem?
abbrev Mb:=@List.all_cons
abbrev Mc:=@Int.add_assoc
abbrev Md:=@List.lookup_cons
abbrev Me:=@List.cons_append
abbrev Mf:=@List.all_eq_true
abbrev Mg:=@Int.min_eq_right
abbrev Mh:=@Int.max_eq_right
abbrev Mi:=@Array.toList_map
abbrev Mj:=@Nat.le_of_eq
abbrev Mk:=@Nat.div_add_mod
abbrev Ml:=@Nat.add_zero
abbrev Mm:=@List.prefix_rfl
abbrev Mn:=@List.length_nil
abbrev Mo:=@List.filter_map
abbrev Mp:=@Int.zero_mul
abbrev Mq:=@Int.min_eq_left
abbrev Mr:=@Int.max_eq_left
abbrev Ms:=@Nat.add_eq
abbrev Mt:=@List.take_zero
abbrev Mu:=@List.forIn_nil
abbrev Mv:=@List.find?_map
abbrev Mw:=@List.drop_zero
abbrev Mx:=@Nat.one_mul
abbrev My:=@List.map_id
end
namespace Tim
open PySem PyProof.Rows
variable {prog:Program}{A:Around}{E:Value→Shared→Prop}{s:Shared}{a₀:Array Keyed}{κ:SortKind}{key:Keyed→Int}
section
variable {w:World}
def dQ (prog:Program)(w:World)(A:Around)(E:Value→Shared→Prop)(s:Shared)(a₀:Array Keyed)(κ:SortKind)(key:Keyed→Int):Prop :=
 ∀ (x y:Keyed) (C:Bool→Shared→Prop),x∈a₀.toList→y∈a₀.toList→C (decide (key x < key y)) s→wpAny (model prog w) A (keyLt' κ x.1 y.1) C (fun _ _=>False) s
structure SB (a₀:Array Keyed)(κ:SortKind)(st:SortSt):Prop where
 perm:(arrOf st).Perm a₀
 kind:kindOf st=κ
 ok:failedOf st=none
theorem SB.size {st:SortSt}(h:SB a₀ κ st):(arrOf st).size=a₀.size:=h.perm.size_eq
theorem SB.mem {st:SortSt}(h:SB a₀ κ st)(B:x∈(arrOf st).toList):x∈a₀.toList:=(KC.mp h.perm).mem_iff.mp B
theorem SB.set {st:SortSt}(h:SB a₀ κ st)(B:xs.Perm (arrOf st)):SB a₀ κ (setArr st xs):=⟨B.trans h.perm,h.kind,h.ok⟩
def kat (key:Keyed→Int)(xs:Array Keyed)(i:Nat):Int:=match xs[i]? with
 | some p=>key p
 | none=>0
theorem gT (h:xs[i]? = ys[j]?):kat key xs i=kat key ys j:=by unfold kat;rw[h]
theorem aw (h:xs[i]? = some p):kat key xs i=key p:=by unfold kat;rw[h]
def Seg (key:Keyed→Int)(xs:Array Keyed)(lo hi:Nat):Prop:=∀ i j,lo≤i→i≤j→j < hi→kat key xs i≤kat key xs j
theorem wE (L:dQ prog w A E s a₀ κ key){st:SortSt}(B:kindOf st=κ)(G:x∈a₀.toList)(J:y∈a₀.toList)(h:Q (some (decide (key x < key y))) st):
  wpS (model prog w) A E s (lt' x y) Q st:=by
 rw[lt'_eq];refine Js (wpS_get ?_);rw[B];refine Js (wpS_lift (wpAny_attempt (Kf (L x y (fun b s'=>b=decide (key x < key y)∧s'=s) G J ⟨rfl,rfl⟩) (fun b s' O =>?_) fun _ _ e=>e.elim)));obtain⟨rfl,rfl⟩:=O;exact⟨rfl,JF h⟩
theorem du {st:SortSt}(hi:arr[i]? = some p)(h:Q p st):wpS (model prog w) A E s (elem' arr i) Q st:=by
 rw[elem'_eq,hi];exact JF h
theorem fz {xs:Array Keyed}{i:Nat}{p:Keyed}(h:xs[i]? = some p):p∈xs.toList:=by
 have:p∈xs:=Array.mem_of_getElem? h
 exact Array.mem_toList_iff.mpr this
theorem mM (L:dQ prog w A E s a₀ κ key){i j:Nat}{st:SortSt}{Q:Option Bool→SortSt→Prop}(B:SB a₀ κ st)(hi:i < a₀.size)(hj:j < a₀.size)(h:Q (some (decide (kat key (arrOf st) i < kat key (arrOf st) j))) st):
  wpS (model prog w) A E s (ltAt' i j) Q st:=by
 rw[ltAt'_eq];refine Js (wpS_get ?_);have G:(arrOf st)[i]? = some ((arrOf st)[i]'(by rw[B.size];exact hi)):=Jf _;have J:(arrOf st)[j]? = some ((arrOf st)[j]'(by rw[B.size];exact hj)):=Jf _;refine Js (du G (Js (du J ?_)));refine wE L B.kind (B.mem (fz G)) (B.mem (fz J)) ?_;rw[aw G,aw J]at h;exact h
def gj:Bool→Keyed→Array Keyed→Nat→Nat→Nat→StateT SortSt Sem (Option Nat):=sortPriv% PySem.Builtin.gallop
def mI (left:Bool)(x:Keyed)(u:Array Keyed)(base i:Nat):StateT SortSt Sem (Option Bool):=do
 let y ← elem' u (base + i)
 if left then lt' y x else return (← lt' x y).map (!·)
abbrev St3:=Option (Option Nat) × Nat × Nat
def wH (left:Bool)(x:Keyed)(u:Array Keyed)(base n p q:Nat):StateT SortSt Sem (Option Nat):=do
 let r ← forIn [0:n] ((none,p,q):St3) fun _ r =>
  if r.2.1 ≥ r.2.2 then pure (ForInStep.done (none,r.2.1,r.2.2)) else do
   let y ← mI left x u base (r.2.1 + (r.2.2 - r.2.1) / 2)
   match y with
   | some more=>if more=true then pure (ForInStep.yield (none,r.2.1 + (r.2.2 - r.2.1) / 2 + 1,r.2.2)) else pure (ForInStep.yield (none,r.2.1,r.2.1 + (r.2.2 - r.2.1) / 2))
   | _=>pure (ForInStep.done (some none,r.2.1,r.2.2))
 match r.1 with
 | some v=>pure v
 | none=>pure (some r.2.2)
def Dm (left:Bool)(x:Keyed)(u:Array Keyed)(base n room:Nat)(pl:Nat→Nat)(stop:Bool→Bool):StateT SortSt Sem St3 :=
 forIn [0:n] ((none,0,1):St3) fun _ r =>
  if r.2.2 ≥ room then pure (ForInStep.done (none,r.2.1,r.2.2)) else do
   let y ← mI left x u base (pl r.2.2)
   match y with
   | some more=>if stop more=true then pure (ForInStep.done (none,r.2.1,r.2.2)) else pure (ForInStep.yield (none,r.2.2,2 * r.2.2 + 1))
   | _=>pure (ForInStep.done (some none,r.2.1,r.2.2))
theorem yt (left:Bool)(x:Keyed)(u:Array Keyed)(base n B:Nat):gj left x u base n B=(do
  let mut was:=0
  let mut step:=1
  let mut p:=0
  let mut q:=0
  let some right ← mI left x u base B | return none
  if right then
   let room:=n - B
   for _ in [0:n] do
    if step ≥ room then break
    let some more ← mI left x u base (B + step) | return none
    if !more then break
    was:=step
    step:=2 * step + 1
   p:=B + was + 1
   q:=B + min step room
  else
   let room:=B + 1
   for _ in [0:n] do
    if step ≥ room then break
    let some found ← mI left x u base (B - step) | return none
    if found then break
    was:=step
    step:=2 * step + 1
   p:=B + 1 - min step room
   q:=B - was
  for _ in [0:n] do
   if p ≥ q then break
   let m:=p + (q - p) / 2
   let some more ← mI left x u base m | return none
   if more then p:=m + 1 else q:=m
  return some q):=rfl
theorem yq (left:Bool)(x:Keyed)(u:Array Keyed)(base n B:Nat):gj left x u base n B=(do
  let y ← mI left x u base B
  match y with
  | some right =>
   if right=true then do
    let r ← Dm left x u base n (n - B) (fun k=>B + k) (fun m => !m)
    match r.1 with
    | some v=>pure v
    | none=>wH left x u base n (B + r.2.1 + 1) (B + min r.2.2 (n - B))
   else do
    let r ← Dm left x u base n (B + 1) (fun k=>B - k) (fun m=>m)
    match r.1 with
    | some v=>pure v
    | none=>wH left x u base n (B + 1 - min r.2.2 (B + 1)) (B - r.2.1)
  | _=>pure none):=by
 rw[yt];unfold Dm wH;dsimp only
 congr 1
 funext y
 cases y with
 | none=>rfl
 | some r =>
  cases r with
  | true =>
   dsimp only;rw[if_pos rfl,if_pos rfl]
   congr 1
   funext r
   obtain⟨G,J,O⟩:=r;cases G with
   | some v=>rfl
   | none =>
    dsimp only
    congr 1
    funext r
    obtain⟨G,J,O⟩:=r;cases G<;>rfl
  | false =>
   dsimp only;rw[if_neg (by decide),if_neg (by decide)]
   congr 1
   funext r
   obtain⟨G,J,O⟩:=r;cases G with
   | some v=>rfl
   | none =>
    dsimp only
    congr 1
    funext r
    obtain⟨G,J,O⟩:=r;cases G<;>rfl
def aT (key:Keyed→Int)(left:Bool)(x:Keyed)(u:Array Keyed)(base i:Nat):Bool:=if left then decide (kat key u (base + i) < key x) else !decide (key x < kat key u (base + i))
theorem iN (B:Seg key u base (base + n))(G:j≤i)(hi:i < n)(h:aT key left x u base i=true):aT key left x u base j=true:=by
 have:=B (base + j) (base + i) (by simp) (by lia) (by lia)
 unfold aT at h ⊢;cases left with
 | true =>
  rw[if_pos rfl]at h ⊢;have h':=JB h;exact Jd (by lia)
 | false =>
  rw[if_neg (by decide)]at h ⊢;have h':¬ key x < kat key u (base + i):=by simpa using h
  have:¬ key x < kat key u (base + j):=by lia
  simpa using this
theorem uK (L:dQ prog w A E s a₀ κ key){left:Bool}{x:Keyed}{u:Array Keyed}{base n i:Nat}{st:SortSt}{Q:Option Bool→SortSt→Prop}(G:kindOf st=κ)(J:x∈a₀.toList)(O:∀ y∈u.toList,y∈a₀.toList)
  (U:base + n≤u.size) (hi:i < n) (h:Q (some (aT key left x u base i)) st):wpS (model prog w) A E s (mI left x u base i) Q st:=by
 unfold mI;have B:u[base + i]? = some (u[base + i]'(by lia)):=Jf _;refine Js (du B ?_);unfold aT at h;rw[aw B]at h;cases left with
 | true =>
  rw[if_pos rfl]at h ⊢;exact wE L G (O _ (fz B)) J h
 | false =>
  rw[if_neg (by decide)]at h ⊢;exact Js (wE L G J (O _ (fz B)) (JF h))
theorem zD (L:dQ prog w A E s a₀ κ key){st:SortSt}(hk:kindOf st=κ)(hx:x∈a₀.toList)(hu:∀ y∈u.toList,y∈a₀.toList)
  (hb:base + n≤u.size) (Y:Seg key u base (base + n)) (O:p≤q) (hq:q≤n) (lo:∀ i,i < p→aT key left x u base i=true) (hi:∀ i,q≤i→i < n→aT key left x u base i=false)
  (h:∀ k,k≤n→(∀ i,i < k→aT key left x u base i=true)→(∀ i,k≤i→i < n→aT key left x u base i=false)→Q (some k) st):wpS (model prog w) A E s (wH left x u base n p q) Q st:=by
 unfold wH;refine Js (LY (wpS_forRange (I:=fun t c B=>B=st∧∃ p q,c=(none,p,q)∧p≤q∧q≤n∧q - p≤n - t∧(∀ i,i < p→aT key left x u base i=true)∧(∀ i,q≤i→i < n→aT key left x u base i=false))
  (Q:=fun c B=>B=st∧∃ q,c=(none,q,q)∧q≤n∧(∀ i,i < q→aT key left x u base i=true)∧(∀ i,q≤i→i < n→aT key left x u base i=false)) ?step ?fin ⟨rfl,p,q,rfl,O,hq,by lia,lo,hi⟩) ?post)
 case post =>
  rintro c B ⟨rfl,q,rfl,h1,h2,U⟩;exact JF (h q h1 h2 U)
 case fin =>
  rintro c B ⟨rfl,p,q,rfl,h1,h2,U,G,J⟩;have e:p=q:=by lia
  subst e;exact⟨rfl,p,rfl,h2,G,J⟩
 case step =>
  rintro t c B _ ht ⟨rfl,p,q,rfl,h1,h2,U,G,J⟩;dsimp only;by_cases e:p ≥ q
  ·rw[if_pos e];have e':p=q:=by lia
   subst e';exact JF ⟨rfl,p,rfl,h2,G,J⟩
  ·rw[if_neg e];refine Js (uK L hk hx hu hb (n:=n) (by lia) ?_);dsimp only;cases hm:aT key left x u base (p + (q - p) / 2) with
   | true =>
    rw[if_pos rfl];exact JF ⟨rfl,_,_,rfl,by lia,h2,by lia,fun i hi=>iN Y (by lia) (by lia) hm,J⟩
   | false =>
    rw[if_neg (by decide)];refine JF ⟨rfl,_,_,rfl,by simp,by lia,by lia,G,fun i h6 h7 =>?_⟩;cases z:aT key left x u base i with
    | false=>rfl
    | true=>rw[iN Y h6 h7 z]at hm;cases hm
theorem Dk (L:dQ prog w A E s a₀ κ key)(G:∀ m,stop m=(m != good)){st:SortSt}(hk:kindOf st=κ)(hx:x∈a₀.toList)(hu:∀ y∈u.toList,y∈a₀.toList)
  (hb:base + n≤u.size) (hr:room≤n) (U:∀ k,k < room→pl k < n) (h0:aT key left x u base (pl 0)=good) (Y:0 < room)
  (h:∀ B step,B < step→B < room→aT key left x u base (pl B)=good→(room≤step∨aT key left x u base (pl step) = !good)→Q (none,B,step) st):wpS (model prog w) A E s (Dm left x u base n room pl stop) Q st:=by
 unfold Dm;refine wpS_forRange (I:=fun t c J=>J=st∧∃ B step,c=(none,B,step)∧B < step∧B < room∧t + 1≤step∧aT key left x u base (pl B)=good) ?step ?fin ⟨rfl,0,1,rfl,by simp,Y,by simp,h0⟩
 case fin =>
  rintro c J ⟨rfl,B,step,rfl,h1,h2,h3,O⟩;exact h B step h1 h2 O (.inl (by lia))
 case step =>
  rintro t c J _ ht ⟨rfl,B,step,rfl,h1,h2,h3,O⟩;dsimp only;by_cases e:step ≥ room
  ·rw[if_pos e];exact JF (h B step h1 h2 O (.inl e))
  ·rw[if_neg e];refine Js (uK L hk hx hu hb (U step (by lia)) ?_);dsimp only;by_cases hm:aT key left x u base (pl step)=good
   ·have e2:stop (aT key left x u base (pl step))=false:=by rw[G,hm];cases good<;>rfl
    rw[e2,if_neg (by decide)];exact JF ⟨rfl,step,2 * step + 1,rfl,by lia,by lia,by lia,hm⟩
   ·have hm':aT key left x u base (pl step) = !good:=by
     cases q:aT key left x u base (pl step)<;>cases good<;>simp_all
    have e2:stop (aT key left x u base (pl step))=true:=by rw[G,hm'];cases good<;>rfl
    rw[e2,if_pos rfl];exact JF (h B step h1 h2 O (.inr hm'))
theorem gz (L:dQ prog w A E s a₀ κ key){st:SortSt}(G:kindOf st=κ)(J:x∈a₀.toList)(O:∀ y∈u.toList,y∈a₀.toList)
  (U:base + n≤u.size) (hh:hint < n) (Y:Seg key u base (base + n))
  (h:∀ k,k≤n→(∀ i,i < k→aT key left x u base i=true)→(∀ i,k≤i→i < n→aT key left x u base i=false)→Q (some k) st):wpS (model prog w) A E s (gj left x u base n hint) Q st:=by
 rw[yq];have dn:∀ i,i < n→aT key left x u base i=false→∀ j,i≤j→j < n→aT key left x u base j=false:=fun i hi e j hj a1=>by
  cases q:aT key left x u base j with
  | false=>rfl
  | true=>rw[iN Y hj a1 q]at e;cases e
 refine Js (uK L G J O U hh ?_);dsimp only;cases hp:aT key left x u base hint with
 | true =>
  rw[if_pos rfl];refine Js (Dk L (by intro m;cases m<;>rfl) G J O U (by simp) (fun k G=>by lia) hp (by lia) fun a0 step h1 h2 h3 B =>?_);dsimp only;refine zD L G J O U Y (by lia) (by lia) (fun i hi=>iN Y (by lia) (by lia) h3) (fun i h5 h6 =>?_) h;rcases B with B | B
  ·lia
  ·by_cases h7:n - hint≤step
   ·lia
   ·exact dn (hint + step) (by lia) B i (by lia) h6
 | false =>
  rw[if_neg (by decide)];refine Js (Dk L (by intro m;cases m<;>rfl) G J O U (by assumption) (fun k G=>by lia) hp (by simp) fun a0 step h1 h2 h3 B =>?_);dsimp only;refine zD L G J O U Y (by omega) (by lia) (fun i hi =>?_) (fun i h5 h6=>dn (hint - a0) (by lia) h3 i h5 h6) h;rcases B with B | B
  ·lia
  ·by_cases h7:hint + 1≤step
   ·lia
   ·exact iN Y (by lia) (by lia) B
end
end Tim
set_option maxHeartbeats 4000000
namespace Tim
open PySem PyProof.Rows
variable {prog:Program}{A:Around}{E:Value→Shared→Prop}{s:Shared}{a₀:Array Keyed}{κ:SortKind}{key:Keyed→Int}
section
variable {w:World}
def loP:Array Keyed→Array Keyed→StateT SortSt Sem (Array Keyed):=sortPriv% PySem.Builtin.mergeLo
abbrev bc (st:SortSt)(g:Nat):SortSt:=SortSt.mk' (kindOf st) (arrOf st) (pendingOf st) g (failedOf st)
abbrev St7:=Option (Array Keyed) × Array Keyed × Nat × Nat × Nat × Nat × Nat
abbrev St6:=Option (Array Keyed) × Array Keyed × Nat × Nat × Nat × Nat
abbrev St5:=Option (Array Keyed) × Array Keyed × Nat × Nat × Nat
def rA (u v o:Array Keyed)(i j:Nat):Array Keyed:=o++u.extract i u.size++v.extract j v.size
def yu (u v o:Array Keyed)(i j:Nat):Array Keyed:=o++v.extract j v.size++u.extract i u.size
def uP (u v:Array Keyed)(g:Nat)(r:St6):StateT SortSt Sem (ForInStep St6):=do
 let y ← elem' v r.2.2.2.1
 let x ← elem' u r.2.2.1
 let z ← lt' y x
 match z with
 | some won =>
  if won=true then do
   let y ← elem' v r.2.2.2.1
   if (r.2.2.2.1 + 1 == v.size)=true then pure (.done (some (rA u v (r.2.1.push y) r.2.2.1 (r.2.2.2.1 + 1)),r.2.1.push y,r.2.2.1,r.2.2.2.1 + 1,0,r.2.2.2.2.2 + 1))
   else if r.2.2.2.2.2 + 1 ≥ g then pure (.done (none,r.2.1.push y,r.2.2.1,r.2.2.2.1 + 1,0,r.2.2.2.2.2 + 1))
   else pure (.yield (none,r.2.1.push y,r.2.2.1,r.2.2.2.1 + 1,0,r.2.2.2.2.2 + 1))
  else do
   let x ← elem' u r.2.2.1
   if (r.2.2.1 + 1 + 1 == u.size)=true then pure (.done (some (yu u v (r.2.1.push x) (r.2.2.1 + 1) r.2.2.2.1),r.2.1.push x,r.2.2.1 + 1,r.2.2.2.1,r.2.2.2.2.1 + 1,0))
   else if r.2.2.2.2.1 + 1 ≥ g then pure (.done (none,r.2.1.push x,r.2.2.1 + 1,r.2.2.2.1,r.2.2.2.2.1 + 1,0))
   else pure (.yield (none,r.2.1.push x,r.2.2.1 + 1,r.2.2.2.1,r.2.2.2.2.1 + 1,0))
 | _=>pure (.done (some (rA u v r.2.1 r.2.2.1 r.2.2.2.1),r.2.1,r.2.2.1,r.2.2.2.1,r.2.2.2.2.1,r.2.2.2.2.2))
def vo (u v o:Array Keyed)(i j g ca cb:Nat):StateT SortSt Sem (ForInStep St7):=do
 let x ← elem' u i
 if (i + 1 + 1 == u.size)=true then pure (.done (some (yu u v (o.push x) (i + 1) j),o.push x,i + 1,j,g,ca,cb))
 else if (decide (ca < 7) && decide (cb < 7))=true then pure (.done (none,o.push x,i + 1,j,g,ca,cb))
 else pure (.yield (none,o.push x,i + 1,j,g,ca,cb))
def vn (u v o:Array Keyed)(i j g ca cb:Nat):StateT SortSt Sem (ForInStep St7):=do
 let y ← elem' v j
 if (j + 1 == v.size)=true then pure (.done (some (rA u v (o.push y) i (j + 1)),o.push y,i,j + 1,g,ca,cb)) else do
  let x ← elem' u i
  let z ← gj true x v (j + 1) (v.size - (j + 1)) 0
  match z with
  | some k =>
   if k > 0 then
    if (j + 1 + k == v.size)=true then pure (.done (some (rA u v (o.push y++v.extract (j + 1) (j + 1 + k)) i (j + 1 + k)),o.push y++v.extract (j + 1) (j + 1 + k),i,j + 1 + k,g,ca,k))
    else vo u v (o.push y++v.extract (j + 1) (j + 1 + k)) i (j + 1 + k) g ca k
   else vo u v (o.push y) i (j + 1) g ca k
  | _=>pure (.done (some (rA u v (o.push y) i (j + 1)),o.push y,i,j + 1,g,ca,cb))
def vk (u v o:Array Keyed)(i j g ca cb:Nat):StateT SortSt Sem (ForInStep St7):=do
 modify fun st=>bc st g
 let y ← elem' v j
 let z ← gj false y u i (u.size - i) 0
 match z with
 | some k =>
  if k > 0 then
   if (i + k + 1 == u.size)=true then pure (.done (some (yu u v (o++u.extract i (i + k)) (i + k) j),o++u.extract i (i + k),i + k,j,g,k,cb))
   else if (i + k == u.size)=true then pure (.done (some (rA u v (o++u.extract i (i + k)) (i + k) j),o++u.extract i (i + k),i + k,j,g,k,cb))
   else vn u v (o++u.extract i (i + k)) (i + k) j g k cb
  else vn u v o i j g k cb
 | _=>pure (.done (some (rA u v o i j),o,i,j,g,ca,cb))
def vm (u v:Array Keyed)(r:St7):StateT SortSt Sem (ForInStep St7) :=
 if r.2.2.2.2.1 > 1 then vk u v r.2.1 r.2.2.1 r.2.2.2.1 (r.2.2.2.2.1 - 1) r.2.2.2.2.2.1 r.2.2.2.2.2.2 else vk u v r.2.1 r.2.2.1 r.2.2.2.1 r.2.2.2.2.1 r.2.2.2.2.2.1 r.2.2.2.2.2.2
def nQ (u v:Array Keyed)(r:St5):StateT SortSt Sem (ForInStep St5):=do
 let q ← forIn [0:u.size + v.size] ((none,r.2.1,r.2.2.1,r.2.2.2.1,0,0):St6) fun _ q=>uP u v r.2.2.2.2 q
 match q.1 with
 | some z=>pure (.done (some z,q.2.1,q.2.2.1,q.2.2.2.1,r.2.2.2.2))
 | none=>do
  liftM (rule "list.sort.gallop")
  let p ← forIn [0:u.size + v.size] ((none,q.2.1,q.2.2.1,q.2.2.2.1,r.2.2.2.2 + 1,q.2.2.2.2.1,q.2.2.2.2.2):St7) fun _ p=>vm u v p
  match p.1 with
  | some z=>pure (.done (some z,p.2.1,p.2.2.1,p.2.2.2.1,p.2.2.2.2.1))
  | none=>do
   modify fun st=>bc st (p.2.2.2.2.1 + 1)
   pure (.yield (none,p.2.1,p.2.2.1,p.2.2.2.1,p.2.2.2.2.1 + 1))
theorem Gq (u v:Array Keyed):loP u v=(do
  liftM (rule "list.sort.merge-lo")
  let y ← elem' v 0
  if (1 == v.size)=true then pure (rA u v #[y] 0 1) else
   if (0 + 1 == u.size)=true then pure (yu u v #[y] 0 1) else do
    let st ← get
    let r ← forIn [0:u.size + v.size] ((none,#[y],0,1,gallopOf st):St5) fun _ r=>nQ u v r
    match r.1 with
    | some z=>pure z
    | none=>liftM (unsupported "internal:list.sort.merge-bound" : Sem (Array Keyed))):=by
 kernel_rfl
abbrev Srt (key:Keyed→Int)(l:List Keyed):Prop:=l.Pairwise fun x y=>key x≤key y
theorem mr:Srt key u.toList↔Seg key u 0 u.size:=by
 constructor
 ·intro h i j _ B hj;by_cases e:i=j
  ·subst e;exact KF _
  have G:u[i]? = some (u.toList[i]'(by simp;lia)):=by simp
  have J:u[j]? = some (u.toList[j]'(by simp;omega)):=by simp
  rw[aw G,aw J];exact Km.mp h i j (by simp;lia) (by simp;omega) (by lia)
 ·intro h;refine Km.mpr fun i j hi hj B =>?_;have hi':i < u.size:=by simpa using hi
  have hj':j < u.size:=by simpa using hj
  have G:u[i]? = some (u.toList[i]):=by simp
  have J:u[j]? = some (u.toList[j]):=by simp
  have:=h i j (Je _) (by lia) hj'
  rw[aw G,aw J]at this;exact this
theorem uu (h1:Srt key (o++m))(h2:Srt key (o++r))(J:∀ x∈m,∀ y∈r,key x≤key y):Srt key (o++m++r):=by
 unfold Srt at h1 h2 ⊢;rw[JR]at h1 h2 ⊢;refine⟨JR.mpr h1,h2.2.1,fun x B y G =>?_⟩;rcases Jj.mp B with B | B
 ·exact h2.2.2 x B y G
 ·exact J x B y G
def Res (key:Keyed→Int)(u v z:Array Keyed):Prop:=z.toList.Perm (u.toList++v.toList)∧Srt key z.toList
structure MI (key:Keyed→Int)(u v o:Array Keyed)(i j:Nat):Prop where
 perm:(o.toList++(u.toList.drop i++v.toList.drop j)).Perm (u.toList++v.toList)
 sa:Srt key (o.toList++u.toList.drop i)
 sb:Srt key (o.toList++v.toList.drop j)
 hi:i≤u.size
 hj:j≤v.size
theorem MI.len (h:MI key u v o i j):o.size=i + j:=by
 have:=h.perm.length_eq
 have h1:=h.hi;have h2:=h.hj;simp only[I8,KN,JI]at this
 lia
theorem MI.takeA (h:MI key u v o i j)(B:o'.toList=o.toList++(u.toList.drop i).take k)(G:i + k≤u.size)(J:∀ x∈(u.toList.drop i).take k,∀ y∈v.toList.drop j,key x≤key y):MI key u v o' (i + k) j:=by
 have e:(u.toList.drop i).take k++u.toList.drop (i + k)=u.toList.drop i:=by rw[← L6];exact JZ _ _
 refine⟨?_,?_,?_,G,h.hj⟩
 ·rw[B]
  have:o.toList++(u.toList.drop i).take k++(u.toList.drop (i + k)++v.toList.drop j)=o.toList++(u.toList.drop i++v.toList.drop j):=by
   rw[Jx,← Jx ((u.toList.drop i).take k),e]
  rw[this];exact h.perm
 ·rw[B,Jx,e];exact h.sa
 ·rw[B];have h1:Srt key (o.toList++(u.toList.drop i).take k):=by
   have:=h.sa
   rw[← e,← Jx]at this;exact (JR.mp this).1
  exact uu h1 h.sb J
theorem AE (o T U D W:List Keyed)(e:T++D=W):(o++T++(U++D)).Perm (o++(U++W)):=by
 rw[← e,Jx];refine List.Perm.append_left _ ?_;rw[← Jx,← Jx];exact List.Perm.append_right _ Lf
theorem MI.takeB (h:MI key u v o i j)(B:o'.toList=o.toList++(v.toList.drop j).take k)(G:j + k≤v.size)(J:∀ x∈(v.toList.drop j).take k,∀ y∈u.toList.drop i,key x≤key y):MI key u v o' i (j + k):=by
 have e:(v.toList.drop j).take k++v.toList.drop (j + k)=v.toList.drop j:=by rw[← L6];exact JZ _ _
 refine⟨?_,?_,?_,h.hi,G⟩
 ·rw[B];exact (AE _ _ _ _ _ e).trans h.perm
 ·rw[B];have h1:Srt key (o.toList++(v.toList.drop j).take k):=by
   have:=h.sb
   rw[← e,← Jx]at this;exact (JR.mp this).1
  exact uu h1 h.sa J
 ·rw[B,Jx,e];exact h.sb
theorem pY (u:Array Keyed)(i:Nat):(u.extract i u.size).toList=u.toList.drop i:=by
 rw[Lj,K1,Ji (by simp)]
theorem Fb (u:Array Keyed)(i k:Nat):(u.extract i (i + k)).toList=(u.toList.drop i).take k:=by
 rw[Lj,K1]
 congr 1
 simp
theorem mW (h:MI key u v o i j)(B:i=u.size∨j=v.size):Res key u v (rA u v o i j):=by
 have e:(rA u v o i j).toList=o.toList++u.toList.drop i++v.toList.drop j:=by
  unfold rA;rw[Ka,Ka,pY,pY]
 refine⟨by rw[e,Jx];exact h.perm,?_⟩;rw[e];rcases B with B | B
 ·rw[B,KR (by simp),J_];exact h.sb
 ·rw[B,KR (l:=v.toList) (by simp),J_];exact h.sa
theorem pW (h:MI key u v o i j)(B:∀ x∈v.toList.drop j,∀ y∈u.toList.drop i,key x≤key y):Res key u v (yu u v o i j):=by
 have e:(yu u v o i j).toList=o.toList++v.toList.drop j++u.toList.drop i:=by
  unfold yu;rw[Ka,Ka,pY,pY]
 refine⟨?_,?_⟩
 ·rw[e,Jx];exact (List.Perm.append_left _ Lf).trans h.perm
 ·rw[e];exact uu h.sb h.sa B
end
section
variable {w:World}
structure Pre (a₀:Array Keyed)(key:Keyed→Int)(u v:Array Keyed):Prop where
 mu:∀ y∈u.toList,y∈a₀.toList
 mv:∀ y∈v.toList,y∈a₀.toList
 su:Seg key u 0 u.size
 sv:Seg key v 0 v.size
 hu:1≤u.size
 hv:1≤v.size
 first:kat key v 0 < kat key u 0
 last:kat key v (v.size - 1) < kat key u (u.size - 1)
theorem gg {u:Array Keyed}{i:Nat}{y:Keyed}(h:y∈u.toList.drop i):∃ t,i≤t∧t < u.size∧u[t]? = some y:=by
 obtain⟨t,B,e⟩:=LU h;rw[KN,JI]at B;rw[List.getElem_drop]at e;refine⟨i + t,by simp,by lia,?_⟩;rw[← e,K2];exact Jf _
theorem hV {u:Array Keyed}{i k:Nat}{y:Keyed}(h:y∈(u.toList.drop i).take k):∃ t,i≤t∧t < i + k∧t < u.size∧u[t]? = some y:=by
 obtain⟨t,B,e⟩:=LU h;rw[JO,KN,JI]at B;rw[List.getElem_take,List.getElem_drop]at e;refine⟨i + t,by simp,by lia,by lia,?_⟩;rw[← e,K2];exact Jf _
theorem Pre.lastA {u v:Array Keyed}{i j:Nat}(P:Pre a₀ key u v)(hi:i + 1=u.size):∀ x∈v.toList.drop j,∀ y∈u.toList.drop i,key x≤key y:=fun x G y J=>by
 obtain⟨t,h1,h2,O⟩:=gg G;obtain⟨r,U,Y,B⟩:=gg J;have e:r=u.size - 1:=by lia
 rw[e]at B;rw[← aw (key:=key) O,← aw (key:=key) B]
 have:=P.sv t (v.size - 1) (Je _) (by lia) (by lia)
 have:=P.last
 lia
theorem iL (o:Array Keyed)(u:Array Keyed)(h:u[i]? = some x):(o.push x).toList=o.toList++(u.toList.drop i).take 1:=by
 obtain⟨hi,e⟩:=KE.mp h
 have:u.toList.drop i=x::u.toList.drop (i + 1):=by
  rw[J0 (by simpa using hi),K2,e]
 rw[this];simp
theorem Gj (L:dQ prog w A E s a₀ κ key){u v o:Array Keyed}{i j g ca cb:Nat}{st:SortSt}{Q:ForInStep St6→SortSt→Prop}(hk:kindOf st=κ)(P:Pre a₀ key u v)(M:MI key u v o i j)(hi:i + 1 < u.size)(hj:j < v.size)
  (hd:∀ z r,Res key u v z→Q (.done (some z,r)) st) (hn:∀ o' i' j' ca' cb',MI key u v o' i' j'→i' + 1 < u.size→j' < v.size→o.size < o'.size→Q (.done (none,o',i',j',ca',cb')) st∧Q (.yield (none,o',i',j',ca',cb')) st) :
  wpS (model prog w) A E s (uP u v g (none,o,i,j,ca,cb)) Q st:=by
 unfold uP;have B:v[j]? = some v[j]:=Jf hj;have G:u[i]? = some u[i]:=Jf (by omega);dsimp only;refine Js (du B (Js (du G (Js (wE L hk (P.mv _ (fz B)) (P.mu _ (fz G)) ?_)))));dsimp only;have ml:=M.len;by_cases c:key v[j] < key u[i]
 ·rw[if_pos (Jd c)];refine Js (du B ?_);have M':MI key u v (o.push v[j]) i (j + 1):=M.takeB (iL o v B) (by assumption) fun x O y U=>by
   obtain⟨t,t1,t2,t3,J⟩:=hV O;obtain⟨r,Y,r2,r3⟩:=gg U;have et:t=j:=by lia
   rw[et,B]at J;have ex:=Option.some.inj J
   have:=P.su i r (Je _) Y r2
   rw[aw G,aw r3]at this;rw[← ex];lia
  have ml':=M'.len;by_cases e:j + 1=v.size
  ·rw[if_pos (by simpa using e)];exact JF (hd _ _ (mW M' (.inr e)))
  ·rw[if_neg (by simpa using e)];obtain⟨q1,q2⟩:=hn _ i (j + 1) 0 (cb + 1) M' hi (by lia) (by simp)
   split
   ·exact JF q1
   ·exact JF q2
 ·rw[if_neg (by simpa using c)];refine Js (du G ?_);have M':MI key u v (o.push u[i]) (i + 1) j:=M.takeA (iL o u G) (by lia) fun x O y U=>by
   obtain⟨t,t1,t2,t3,J⟩:=hV O;obtain⟨r,Y,r2,r3⟩:=gg U;have et:t=i:=by lia
   rw[et,G]at J;have ex:=Option.some.inj J
   have:=P.sv j r (Je _) Y r2
   rw[aw B,aw r3]at this;rw[← ex];lia
  have ml':=M'.len;by_cases e:i + 1 + 1=u.size
  ·rw[if_pos (by simpa using e)];exact JF (hd _ _ (pW M' (P.lastA e)))
  ·rw[if_neg (by simpa using e)];obtain⟨q1,q2⟩:=hn _ (i + 1) j (ca + 1) 0 M' (by lia) hj (by simp)
   split
   ·exact JF q1
   ·exact JF q2
theorem tJ {u v o:Array Keyed}{i j g J O n:Nat}{st:SortSt}{Q:ForInStep St7→SortSt→Prop}(P:Pre a₀ key u v)(M:MI key u v o i j)(hi:i + 1 < u.size)(hj:j < v.size)(Y:∀ y∈v.toList.drop j,kat key u i≤key y)(hs:n≤o.size)
  (hd:∀ z r,Res key u v z→Q (.done (some z,r)) st) (hn:∀ o' i' j' g' ca' cb',MI key u v o' i' j'→i' + 1 < u.size→j' < v.size→n < o'.size→Q (.done (none,o',i',j',g',ca',cb')) st∧Q (.yield (none,o',i',j',g',ca',cb')) st) :
  wpS (model prog w) A E s (vo u v o i j g J O) Q st:=by
 unfold vo;have B:u[i]? = some u[i]:=Jf (by omega);refine Js (du B ?_);have ml:=M.len;have M':MI key u v (o.push u[i]) (i + 1) j:=M.takeA (iL o u B) (by lia) fun x G y hy=>by
  obtain⟨t,t1,t2,t3,U⟩:=hV G;have et:t=i:=by lia
  rw[et,B]at U;have ex:=Option.some.inj U
  have:=Y y hy
  rw[aw B]at this;rw[← ex];exact this
 have ml':=M'.len;by_cases e:i + 1 + 1=u.size
 ·rw[if_pos (by simpa using e)];exact JF (hd _ _ (pW M' (P.lastA e)))
 ·rw[if_neg (by simpa using e)];obtain⟨q1,q2⟩:=hn _ (i + 1) j g J O M' (by lia) hj (by lia)
  split
  ·exact JF q1
  ·exact JF q2
theorem xq (o u:Array Keyed)(i k:Nat):(o++u.extract i (i + k)).toList=o.toList++(u.toList.drop i).take k:=by rw[Ka,Fb]
theorem pF (h:Seg key u a b)(h1:a≤c)(h2:d≤b):Seg key u c d:=fun i j x y z=>h i j (by lia) y (by lia)
theorem tI (L:dQ prog w A E s a₀ κ key){u v o:Array Keyed}{i j g ca cb n:Nat}{st:SortSt}{Q:ForInStep St7→SortSt→Prop}(hk:kindOf st=κ)(P:Pre a₀ key u v)(M:MI key u v o i j)(hi:i + 1 < u.size)(hj:j < v.size)(hx:∀ y∈u.toList.drop i,kat key v j≤key y)(hs:n≤o.size)
  (O:∀ z r,Res key u v z→Q (.done (some z,r)) st) (hn:∀ o' i' j' g' ca' cb',MI key u v o' i' j'→i' + 1 < u.size→j' < v.size→n < o'.size→Q (.done (none,o',i',j',g',ca',cb')) st∧Q (.yield (none,o',i',j',g',ca',cb')) st) :
  wpS (model prog w) A E s (vn u v o i j g ca cb) Q st:=by
 unfold vn;have U:v[j]? = some v[j]:=Jf hj;have Y:u[i]? = some u[i]:=Jf (by omega);refine Js (du U ?_);have ml:=M.len;have M':MI key u v (o.push v[j]) i (j + 1):=M.takeB (iL o v U) (by assumption) fun x G y J=>by
  obtain⟨t,t1,t2,t3,t4⟩:=hV G;have et:t=j:=by lia
  rw[et,U]at t4;have ex:=Option.some.inj t4
  have:=hx y J
  rw[aw U]at this;rw[← ex];exact this
 have ml':=M'.len;by_cases e:j + 1=v.size
 ·rw[if_pos (by simpa using e)];exact JF (O _ _ (mW M' (.inr e)))
 ·rw[if_neg (by simpa using e)];refine Js (du Y (Js (gz L hk (P.mu _ (fz Y)) P.mv (by lia) (by lia) (pF P.sv (by simp) (by lia)) fun k k1 k2 k3 =>?_)));dsimp only;have lo:∀ t,j + 1≤t→t < j + 1 + k→kat key v t < key u[i]:=fun t t1 t2=>by
   have:=k2 (t - (j + 1)) (by lia)
   unfold aT at this;rw[if_pos rfl,show j + 1 + (t - (j + 1))=t by lia]at this;exact JB this
  have hi':∀ t,j + 1 + k≤t→t < v.size→key u[i]≤kat key v t:=fun t t1 t2=>by
   have:=k3 (t - (j + 1)) (by lia) (by lia)
   unfold aT at this;rw[if_pos rfl,show j + 1 + (t - (j + 1))=t by lia]at this
   have:=Lb this
   lia
  have B:∀ y∈v.toList.drop (j + 1 + k),kat key u i≤key y:=fun y J=>by
   obtain⟨r,r1,r2,r3⟩:=gg J
   have:=hi' r r1 r2
   rw[aw r3]at this;rw[aw Y];exact this
  by_cases hk0:k > 0
  ·rw[if_pos hk0];have M2:MI key u v (o.push v[j]++v.extract (j + 1) (j + 1 + k)) i (j + 1 + k):=M'.takeB (xq _ v (j + 1) k) (by lia) fun x G y J=>by
    obtain⟨t,t1,t2,t3,t4⟩:=hV G;obtain⟨r,r1,r2,r3⟩:=gg J;have a1:=lo t t1 t2;have a2:=P.su i r (Je _) r1 r2;rw[aw t4]at a1;rw[aw Y,aw r3]at a2
    lia
   have a0:=M2.len;by_cases e3:j + 1 + k=v.size
   ·rw[if_pos (by simpa using e3)];exact JF (O _ _ (mW M2 (.inr e3)))
   ·rw[if_neg (by simpa using e3)];exact tJ P M2 hi (by lia) B (by lia) O hn
  ·rw[if_neg hk0];have k0:k=0:=by lia
   subst k0;exact tJ P M' hi (by lia) B (by lia) O hn
theorem tH (L:dQ prog w A E s a₀ κ key){u v o:Array Keyed}{i j g ca cb:Nat}{st:SortSt}{Q:ForInStep St7→SortSt→Prop}(O:kindOf st=κ)(P:Pre a₀ key u v)(M:MI key u v o i j)(hi:i + 1 < u.size)(hj:j < v.size)
  (G:∀ z r,Res key u v z→Q (.done (some z,r)) (bc st g)) (hn:∀ o' i' j' g' ca' cb',MI key u v o' i' j'→i' + 1 < u.size→j' < v.size→o.size < o'.size→Q (.done (none,o',i',j',g',ca',cb')) (bc st g)∧Q (.yield (none,o',i',j',g',ca',cb')) (bc st g)) :
  wpS (model prog w) A E s (vk u v o i j g ca cb) Q st:=by
 unfold vk;have J:v[j]? = some v[j]:=Jf hj;refine Js (wpS_modify (Js (du J (Js (gz L O (P.mv _ (fz J)) P.mu (by lia) (by lia) (pF P.su (by simp) (by lia)) fun k k1 k2 k3 =>?_)))));dsimp only;have ml:=M.len;have lo:∀ t,i≤t→t < i + k→kat key u t≤key v[j]:=fun t U Y=>by
  have:=k2 (t - i) (by lia)
  unfold aT at this;rw[if_neg (by decide),show i + (t - i)=t by lia]at this
  have:¬ key v[j] < kat key u t:=by simpa using this
  lia
 have hi':∀ t,i + k≤t→t < u.size→key v[j] < kat key u t:=fun t U Y=>by
  have:=k3 (t - i) (by lia) (by lia)
  unfold aT at this;rw[if_neg (by decide),show i + (t - i)=t by lia]at this
  have:key v[j] < kat key u t:=by simpa using this
  exact this
 have B:∀ y∈u.toList.drop (i + k),kat key v j≤key y:=fun y hy=>by
  obtain⟨r,r1,r2,r3⟩:=gg hy
  have:=hi' r r1 r2
  rw[aw r3]at this;rw[aw J];lia
 by_cases hk0:k > 0
 ·rw[if_pos hk0];have M2:MI key u v (o++u.extract i (i + k)) (i + k) j:=M.takeA (xq _ u i k) (by lia) fun x a0 y hy=>by
   obtain⟨t,U,Y,t3,t4⟩:=hV a0;obtain⟨r,r1,r2,r3⟩:=gg hy;have a1:=lo t U Y;have a2:=P.sv j r (Je _) r1 r2;rw[aw t4]at a1;rw[aw J,aw r3]at a2
   lia
  have a3:=M2.len;by_cases e3:i + k + 1=u.size
  ·rw[if_pos (by simpa using e3)];exact JF (G _ _ (pW M2 (P.lastA e3)))
  ·rw[if_neg (by simpa using e3)];by_cases e4:i + k=u.size
   ·rw[if_pos (by simpa using e4)];exact JF (G _ _ (mW M2 (.inl e4)))
   ·rw[if_neg (by simpa using e4)];exact tI L (st:=bc st g) O P M2 (by lia) hj B (by simp) G hn
 ·rw[if_neg hk0];have k0:k=0:=by lia
  subst k0;exact tI L (st:=bc st g) O P M hi hj B (by simp) G hn
theorem BY (L:dQ prog w A E s a₀ κ key){st:SortSt}(hk:kindOf st=κ)(P:Pre a₀ key u v)(M:MI key u v o i j)(hi:i + 1 < u.size)(hj:j < v.size)
  (hd:∀ z r g',Res key u v z→Q (.done (some z,r)) (bc st g')) (hn:∀ o' J O g' g'',MI key u v o' J O→J + 1 < u.size→O < v.size→o.size < o'.size→Q (.yield (none,o',J,O,g')) (bc st g'')) :
  wpS (model prog w) A E s (nQ u v (none,o,i,j,g)) Q st:=by
 unfold nQ;have ml:=M.len;refine Js (LY (wpS_forRange (I:=fun t c B=>B=st∧∃ o' J O U Y,c=(none,o',J,O,U,Y)∧MI key u v o' J O∧J + 1 < u.size∧O < v.size∧o.size + t≤o'.size)
  (Q:=fun c B=>B=st∧((∃ z r,c=(some z,r)∧Res key u v z)∨∃ o' J O U Y,c=(none,o',J,O,U,Y)∧MI key u v o' J O∧J + 1 < u.size∧O < v.size∧o.size < o'.size)) ?step ?fin ⟨rfl,o,i,j,0,0,rfl,M,hi,hj,by simp⟩) ?post)
 case fin =>
  rintro c B ⟨rfl,o',J,O,U,Y,rfl,M',h1,h2,h3⟩
  have:=M'.len
  lia
 case step =>
  rintro t c B _ ht ⟨rfl,o',J,O,U,Y,rfl,M',h1,h2,h3⟩;exact Gj L hk P M' h1 h2 (fun z r hz=>⟨rfl,.inl ⟨z,r,rfl,hz⟩⟩) fun o2 i2 j2 a2 a3 M2 g1 g2 g3=>⟨⟨rfl,.inr ⟨o2,i2,j2,a2,a3,rfl,M2,g1,g2,by lia⟩⟩,rfl,o2,i2,j2,a2,a3,rfl,M2,g1,g2,by lia⟩
 case post =>
  rintro c B ⟨rfl,h⟩;rcases h with⟨z,r,rfl,hz⟩ | ⟨o',J,O,U,Y,rfl,M',h1,h2,h3⟩
  ·exact JF (hd z _ (gallopOf B) hz)
  ·dsimp only;refine Js (wpS_lift (wpAny_rule ⟨rfl,?_⟩));refine Js (LY (wpS_forRange (I:=fun t c G=>∃ g',G=bc B g'∧∃ o2 i2 j2 g2 U Y,c=(none,o2,i2,j2,g2,U,Y)∧MI key u v o2 i2 j2∧i2 + 1 < u.size∧j2 < v.size∧o'.size + t≤o2.size)
    (Q:=fun c G=>∃ g',G=bc B g'∧((∃ z r,c=(some z,r)∧Res key u v z)∨∃ o2 i2 j2 g2 U Y,c=(none,o2,i2,j2,g2,U,Y)∧MI key u v o2 i2 j2∧i2 + 1 < u.size∧j2 < v.size∧o.size < o2.size)) ?gstep ?gfin ⟨gallopOf B,rfl,o',J,O,g + 1,U,Y,rfl,M',h1,h2,by simp⟩) ?gpost)
   case gfin =>
    rintro c G ⟨g',rfl,o2,i2,j2,g2,U,Y,rfl,M2,q1,q2,q3⟩
    have:=M2.len
    have:=M'.len
    lia
   case gstep =>
    rintro t c G _ ht ⟨g',rfl,o2,i2,j2,g2,U,Y,rfl,M2,q1,q2,q3⟩;show wpS _ _ _ _ (vm u v (none,o2,i2,j2,g2,U,Y)) _ _;unfold vm;dsimp only
    split
    ·exact tH L (st:=bc B g') hk P M2 q1 q2 (fun z r hz=>⟨_,rfl,.inl ⟨z,r,rfl,hz⟩⟩) fun o3 i3 j3 g3 a0 a1 M3 k1 k2 k3=>⟨⟨_,rfl,.inr ⟨o3,i3,j3,g3,a0,a1,rfl,M3,k1,k2,by lia⟩⟩,_,rfl,o3,i3,j3,g3,a0,a1,rfl,M3,k1,k2,by lia⟩
    ·exact tH L (st:=bc B g') hk P M2 q1 q2 (fun z r hz=>⟨_,rfl,.inl ⟨z,r,rfl,hz⟩⟩) fun o3 i3 j3 g3 a0 a1 M3 k1 k2 k3=>⟨⟨_,rfl,.inr ⟨o3,i3,j3,g3,a0,a1,rfl,M3,k1,k2,by lia⟩⟩,_,rfl,o3,i3,j3,g3,a0,a1,rfl,M3,k1,k2,by lia⟩
   case gpost =>
    rintro c G ⟨g',rfl,h⟩;rcases h with⟨z,r,rfl,hz⟩ | ⟨o2,i2,j2,g2,U,Y,rfl,M2,q1,q2,q3⟩
    ·exact JF (hd z _ g' hz)
    ·dsimp only;exact Js (wpS_modify (JF (hn o2 i2 j2 _ _ M2 q1 q2 q3)))
theorem Hz (L:dQ prog w A E s a₀ κ key){u v:Array Keyed}{st:SortSt}{Q:Array Keyed→SortSt→Prop}(hk:kindOf st=κ)(P:Pre a₀ key u v)(G:∀ z g',Res key u v z→Q z (bc st g')):wpS (model prog w) A E s (loP u v) Q st:=by
 rw[Gq];refine Js (wpS_lift (wpAny_rule ⟨rfl,?_⟩));have hu:=P.hu;have hv:=P.hv;have Y:v[0]? = some v[0]:=Jf (by assumption);refine Js (du Y ?_);have M0:MI key u v #[] 0 0:=⟨by simp,by simpa using mr.mpr P.su,by simpa using mr.mpr P.sv,Je _,Je _⟩;have M:MI key u v #[v[0]] 0 (0 + 1):=M0.takeB (by have:=iL #[] v Y;simpa using this) (by omega) fun x hx y hy=>by
  obtain⟨t,t1,t2,t3,t4⟩:=hV hx;obtain⟨r,r1,r2,r3⟩:=gg hy;have et:t=0:=by lia
  rw[et]at t4;have a1:=P.su 0 r (Je _) r1 r2;have a2:=P.first;rw[aw t4]at a2;rw[aw r3]at a1
  lia
 rw[KH]at M;by_cases c1:1=v.size
 ·rw[if_pos (by simpa using c1)];exact JF (G _ (gallopOf st) (mW M (.inr c1)))
 ·rw[if_neg (by simpa using c1)];by_cases c2:0 + 1=u.size
  ·rw[if_pos (by simpa using c2)];exact JF (G _ (gallopOf st) (pW M (P.lastA c2)))
  ·rw[if_neg (by simpa using c2)];refine Js (wpS_get ?_);refine Js (LY (wpS_forRange (I:=fun t c B=>∃ g',B=bc st g'∧∃ o i j g,c=(none,o,i,j,g)∧MI key u v o i j∧i + 1 < u.size∧j < v.size∧t < o.size)
    (Q:=fun c B=>∃ g',B=bc st g'∧∃ z r,c=(some z,r)∧Res key u v z) ?step ?fin ⟨gallopOf st,rfl,#[v[0]],0,1,_,rfl,M,by lia,by lia,by simp⟩) ?post)
   case fin =>
    rintro c B ⟨g',rfl,o,i,j,g,rfl,J,h1,h2,h3⟩
    have:=J.len
    lia
   case step =>
    rintro t c B _ ht ⟨g',rfl,o,i,j,g,rfl,J,h1,h2,h3⟩;exact BY L (st:=bc st g') hk P J h1 h2 (fun z r O U=>⟨O,rfl,z,r,rfl,U⟩) fun o2 i2 j2 O g3 M2 q1 q2 q3=>⟨g3,rfl,o2,i2,j2,O,rfl,M2,q1,q2,by lia⟩
   case post =>
    rintro c B ⟨g',rfl,z,r,rfl,U⟩;exact JF (G z g' U)
end
section
variable {w:World}
def hiP:Array Keyed→Array Keyed→StateT SortSt Sem (Array Keyed):=sortPriv% PySem.Builtin.mergeHi
abbrev Sh7:=Option (Array Keyed) × Nat × Nat × Array Keyed × Nat × Nat × Nat
abbrev Sh6:=Option (Array Keyed) × Nat × Nat × Array Keyed × Nat × Nat
abbrev Sh5:=Option (Array Keyed) × Nat × Nat × Array Keyed × Nat
def rB (u v o:Array Keyed)(i j:Nat):Array Keyed:=u.extract 0 i++v.extract 0 j++o.reverse
def yw (u v o:Array Keyed)(i j:Nat):Array Keyed:=v.extract 0 j++u.extract 0 i++o.reverse
def CC (u v:Array Keyed)(g:Nat)(r:Sh6):StateT SortSt Sem (ForInStep Sh6):=do
 let y ← elem' v (r.2.2.1 - 1)
 let x ← elem' u (r.2.1 - 1)
 let z ← lt' y x
 match z with
 | some won =>
  if won=true then do
   let x ← elem' u (r.2.1 - 1)
   if (r.2.1 - 1 == 0)=true then pure (.done (some (rB u v (r.2.2.2.1.push x) (r.2.1 - 1) r.2.2.1),r.2.1 - 1,r.2.2.1,r.2.2.2.1.push x,r.2.2.2.2.1 + 1,0))
   else if r.2.2.2.2.1 + 1 ≥ g then pure (.done (none,r.2.1 - 1,r.2.2.1,r.2.2.2.1.push x,r.2.2.2.2.1 + 1,0))
   else pure (.yield (none,r.2.1 - 1,r.2.2.1,r.2.2.2.1.push x,r.2.2.2.2.1 + 1,0))
  else do
   let y ← elem' v (r.2.2.1 - 1)
   if (r.2.2.1 - 1 == 1)=true then pure (.done (some (yw u v (r.2.2.2.1.push y) r.2.1 (r.2.2.1 - 1)),r.2.1,r.2.2.1 - 1,r.2.2.2.1.push y,0,r.2.2.2.2.2 + 1))
   else if r.2.2.2.2.2 + 1 ≥ g then pure (.done (none,r.2.1,r.2.2.1 - 1,r.2.2.2.1.push y,0,r.2.2.2.2.2 + 1))
   else pure (.yield (none,r.2.1,r.2.2.1 - 1,r.2.2.2.1.push y,0,r.2.2.2.2.2 + 1))
 | _=>pure (.done (some (rB u v r.2.2.2.1 r.2.1 r.2.2.1),r.2.1,r.2.2.1,r.2.2.2.1,r.2.2.2.2.1,r.2.2.2.2.2))
def zG (u v o:Array Keyed)(i j g ca cb:Nat):StateT SortSt Sem (ForInStep Sh7):=do
 let x ← elem' u (i - 1)
 if (i - 1 == 0)=true then pure (.done (some (rB u v (o.push x) (i - 1) j),i - 1,j,o.push x,g,ca,cb))
 else if (decide (ca < 7) && decide (cb < 7))=true then pure (.done (none,i - 1,j,o.push x,g,ca,cb))
 else pure (.yield (none,i - 1,j,o.push x,g,ca,cb))
def zF (u v o:Array Keyed)(i j g ca cb:Nat):StateT SortSt Sem (ForInStep Sh7):=do
 let y ← elem' v (j - 1)
 if (j - 1 == 1)=true then pure (.done (some (yw u v (o.push y) i (j - 1)),i,j - 1,o.push y,g,ca,cb)) else do
  let x ← elem' u (i - 1)
  let z ← gj true x v 0 (j - 1) (j - 1 - 1)
  match z with
  | some k =>
   if j - 1 - k > 0 then
    if (k == 1)=true then pure (.done (some (yw u v (o.push y++(v.extract k (j - 1)).reverse) i k),i,k,o.push y++(v.extract k (j - 1)).reverse,g,ca,j - 1 - k))
    else if (k == 0)=true then pure (.done (some (rB u v (o.push y++(v.extract k (j - 1)).reverse) i k),i,k,o.push y++(v.extract k (j - 1)).reverse,g,ca,j - 1 - k))
    else zG u v (o.push y++(v.extract k (j - 1)).reverse) i k g ca (j - 1 - k)
   else zG u v (o.push y) i (j - 1) g ca (j - 1 - k)
  | _=>pure (.done (some (rB u v (o.push y) i (j - 1)),i,j - 1,o.push y,g,ca,cb))
def zE (u v o:Array Keyed)(i j g ca cb:Nat):StateT SortSt Sem (ForInStep Sh7):=do
 modify fun st=>bc st g
 let y ← elem' v (j - 1)
 let z ← gj false y u 0 i (i - 1)
 match z with
 | some k =>
  if i - k > 0 then
   if (k == 0)=true then pure (.done (some (rB u v (o++(u.extract k i).reverse) k j),k,j,o++(u.extract k i).reverse,g,i - k,cb))
   else zF u v (o++(u.extract k i).reverse) k j g (i - k) cb
  else zF u v o i j g (i - k) cb
 | _=>pure (.done (some (rB u v o i j),i,j,o,g,ca,cb))
def ym (u v:Array Keyed)(r:Sh7):StateT SortSt Sem (ForInStep Sh7) :=
 if r.2.2.2.2.1 > 1 then zE u v r.2.2.2.1 r.2.1 r.2.2.1 (r.2.2.2.2.1 - 1) r.2.2.2.2.2.1 r.2.2.2.2.2.2 else zE u v r.2.2.2.1 r.2.1 r.2.2.1 r.2.2.2.2.1 r.2.2.2.2.2.1 r.2.2.2.2.2.2
def uE (u v:Array Keyed)(r:Sh5):StateT SortSt Sem (ForInStep Sh5):=do
 let q ← forIn [0:u.size + v.size] ((none,r.2.1,r.2.2.1,r.2.2.2.1,0,0):Sh6) fun _ q=>CC u v r.2.2.2.2 q
 match q.1 with
 | some z=>pure (.done (some z,q.2.1,q.2.2.1,q.2.2.2.1,r.2.2.2.2))
 | none=>do
  liftM (rule "list.sort.gallop")
  let p ← forIn [0:u.size + v.size] ((none,q.2.1,q.2.2.1,q.2.2.2.1,r.2.2.2.2 + 1,q.2.2.2.2.1,q.2.2.2.2.2):Sh7) fun _ p=>ym u v p
  match p.1 with
  | some z=>pure (.done (some z,p.2.1,p.2.2.1,p.2.2.2.1,p.2.2.2.2.1))
  | none=>do
   modify fun st=>bc st (p.2.2.2.2.1 + 1)
   pure (.yield (none,p.2.1,p.2.2.1,p.2.2.2.1,p.2.2.2.2.1 + 1))
theorem GF (u v:Array Keyed):hiP u v=(do
  liftM (rule "list.sort.merge-hi")
  let x ← elem' u (u.size - 1)
  if (u.size - 1 == 0)=true then pure (rB u v #[x] (u.size - 1) v.size) else
   if (v.size == 1)=true then pure (yw u v #[x] (u.size - 1) v.size) else do
    let st ← get
    let r ← forIn [0:u.size + v.size] ((none,u.size - 1,v.size,#[x],gallopOf st):Sh5) fun _ r=>uE u v r
    match r.1 with
    | some z=>pure z
    | none=>liftM (unsupported "internal:list.sort.merge-bound" : Sem (Array Keyed))):=by
 kernel_rfl
theorem qp (h1:Srt key (m++o))(h2:Srt key (r++o))(J:∀ x∈r,∀ y∈m,key x≤key y):Srt key (r++(m++o)):=by
 unfold Srt at h1 h2 ⊢;rw[JR]at h2;refine JR.mpr ⟨h2.1,h1,fun x G y B =>?_⟩;rcases Jj.mp B with B | B
 ·exact J x G y B
 ·exact h2.2.2 x G y B
structure HI (key:Keyed→Int)(u v o:Array Keyed)(i j:Nat):Prop where
 perm:(u.toList.take i++v.toList.take j++o.toList.reverse).Perm (u.toList++v.toList)
 sa:Srt key (u.toList.take i++o.toList.reverse)
 sb:Srt key (v.toList.take j++o.toList.reverse)
 hi:i≤u.size
 hj:j≤v.size
theorem HI.len (h:HI key u v o i j):o.size + i + j=u.size + v.size:=by
 have:=h.perm.length_eq
 have h1:=h.hi;have h2:=h.hj;simp only[I8,JO,List.length_reverse,JI]at this
 lia
theorem qj (l:List Keyed)(h:k≤i):l.take k++(l.take i).drop k=l.take i:=by
 have:=JZ k (l.take i)
 rwa [List.take_take,Nat.min_eq_left h]at this
theorem F9 (T D V R W:List Keyed)(e:T++D=W):(T++V++(D++R)).Perm (W++V++R):=by
 rw[← e,Jx,Jx,Jx];refine List.Perm.append_left _ ?_;rw[← Jx,← Jx];exact List.Perm.append_right _ Lf
theorem F8 (T D U R W:List Keyed)(e:T++D=W):(U++T++(D++R)).Perm (U++W++R):=by
 rw[← e];simp only[Jx];exact List.Perm.refl _
theorem HI.takeA (h:HI key u v o i j)(B:o'.toList.reverse=(u.toList.take i).drop k++o.toList.reverse)(G:k≤i)(J:∀ x∈v.toList.take j,∀ y∈(u.toList.take i).drop k,key x≤key y):HI key u v o' k j:=by
 have e:=qj u.toList G;have hi:=h.hi;refine⟨?_,?_,?_,by lia,h.hj⟩
 ·rw[B];exact (F9 _ _ _ _ _ e).trans h.perm
 ·rw[B,← Jx,e];exact h.sa
 ·rw[B];have h1:Srt key ((u.toList.take i).drop k++o.toList.reverse):=by
   have:=h.sa
   rw[← e,Jx]at this;exact (JR.mp this).2.1
  exact qp h1 h.sb J
theorem HI.takeB (h:HI key u v o i j)(B:o'.toList.reverse=(v.toList.take j).drop k++o.toList.reverse)(G:k≤j)(J:∀ x∈u.toList.take i,∀ y∈(v.toList.take j).drop k,key x≤key y):HI key u v o' i k:=by
 have e:=qj v.toList G;have hj:=h.hj;refine⟨?_,?_,?_,h.hi,by lia⟩
 ·rw[B];exact (F8 _ _ _ _ _ e).trans h.perm
 ·rw[B];have h1:Srt key ((v.toList.take j).drop k++o.toList.reverse):=by
   have:=h.sb
   rw[← e,Jx]at this;exact (JR.mp this).2.1
  exact qp h1 h.sa J
 ·rw[B,← Jx,e];exact h.sb
theorem m8 (u:Array Keyed)(i:Nat):(u.extract 0 i).toList=u.toList.take i:=by
 rw[Lj,K1];simp
theorem iO (u:Array Keyed)(k i:Nat):(u.extract k i).toList=(u.toList.take i).drop k:=by
 rw[Lj,K1,LC]
theorem mX (h:HI key u v o i j)(B:i=0∨j=0):Res key u v (rB u v o i j):=by
 have e:(rB u v o i j).toList=u.toList.take i++v.toList.take j++o.toList.reverse:=by
  unfold rB;rw[Ka,Ka,m8,m8,LR]
 refine⟨by rw[e];exact h.perm,?_⟩;rw[e];rcases B with B | B
 ·rw[B];simpa using h.sb
 ·have:=h.sa
  rw[B];simpa using this
theorem pX (h:HI key u v o i j)(B:∀ x∈v.toList.take j,∀ y∈u.toList.take i,key x≤key y):Res key u v (yw u v o i j):=by
 have e:(yw u v o i j).toList=v.toList.take j++u.toList.take i++o.toList.reverse:=by
  unfold yw;rw[Ka,Ka,m8,m8,LR]
 refine⟨?_,?_⟩
 ·rw[e];exact (List.Perm.append_right _ Lf).trans h.perm
 ·rw[e,Jx];exact qp h.sa h.sb B
theorem gf {u:Array Keyed}{i:Nat}{y:Keyed}(h:y∈u.toList.take i):∃ t,t < i∧t < u.size∧u[t]? = some y:=by
 obtain⟨t,B,e⟩:=LU h;rw[JO,JI]at B;rw[List.getElem_take]at e;refine⟨t,by lia,by lia,?_⟩;rw[← e,K2];exact Jf _
theorem f_ {u:Array Keyed}{i k:Nat}{y:Keyed}(h:y∈(u.toList.take i).drop k):∃ t,k≤t∧t < i∧t < u.size∧u[t]? = some y:=by
 rw[LC]at h;obtain⟨t,B,O,G,J⟩:=hV h;exact⟨t,B,by lia,G,J⟩
theorem Pre.firstB {u v:Array Keyed}{i j:Nat}(P:Pre a₀ key u v)(hj:j=1):∀ x∈v.toList.take j,∀ y∈u.toList.take i,key x≤key y:=fun x G y J=>by
 obtain⟨t,h1,h2,B⟩:=gf G;obtain⟨r,Y,O,U⟩:=gf J;have e:t=0:=by lia
 rw[e]at B;rw[← aw (key:=key) B,← aw (key:=key) U]
 have:=P.su 0 r (Je _) (Je _) O
 have:=P.first
 lia
theorem jW (o u:Array Keyed)(h1:1≤i)(h:u[i - 1]? = some x):(o.push x).toList.reverse=(u.toList.take i).drop (i - 1)++o.toList.reverse:=by
 obtain⟨hi,e⟩:=KE.mp h
 have:(u.toList.take i).drop (i - 1)=[x]:=by
  rw[LC,show i - (i - 1)=1 by lia,J0 (by simpa using hi),K2,e];rfl
 rw[this];simp
theorem Ac (o u:Array Keyed)(k i:Nat):(o++(u.extract k i).reverse).toList.reverse=(u.toList.take i).drop k++o.toList.reverse:=by
 rw[Ka,LR,List.reverse_append,List.reverse_reverse,iO]
theorem CB (L:dQ prog w A E s a₀ κ key){u v o:Array Keyed}{i j g ca cb:Nat}{st:SortSt}{Q:ForInStep Sh6→SortSt→Prop}(hk:kindOf st=κ)(P:Pre a₀ key u v)(M:HI key u v o i j)(hi:1≤i)(hj:2≤j)
  (hd:∀ z r,Res key u v z→Q (.done (some z,r)) st) (hn:∀ o' i' j' ca' cb',HI key u v o' i' j'→1≤i'→2≤j'→o.size < o'.size→Q (.done (none,i',j',o',ca',cb')) st∧Q (.yield (none,i',j',o',ca',cb')) st) :
  wpS (model prog w) A E s (CC u v g (none,i,j,o,ca,cb)) Q st:=by
 unfold CC;have b1:=M.hi;have b2:=M.hj;have B:v[j - 1]? = some v[j - 1]:=Jf (by omega);have G:u[i - 1]? = some u[i - 1]:=Jf (by omega);dsimp only;refine Js (du B (Js (du G (Js (wE L hk (P.mv _ (fz B)) (P.mu _ (fz G)) ?_)))));dsimp only;have ml:=M.len;by_cases c:key v[j - 1] < key u[i - 1]
 ·rw[if_pos (Jd c)];refine Js (du G ?_);have M':HI key u v (o.push u[i - 1]) (i - 1) j:=M.takeA (jW o u hi G) (by simp) fun x O y U=>by
   obtain⟨r,r1,r2,Y⟩:=gf O;obtain⟨t,t1,t2,t3,J⟩:=f_ U;have et:t=i - 1:=by lia
   rw[et,G]at J;have ex:=Option.some.inj J
   have:=P.sv r (j - 1) (Je _) (by lia) (by lia)
   rw[aw B,aw Y]at this;rw[← ex];lia
  have ml':=M'.len;by_cases e:i - 1=0
  ·rw[if_pos (by simpa using e)];exact JF (hd _ _ (mX M' (.inl e)))
  ·rw[if_neg (by simpa using e)];obtain⟨q1,q2⟩:=hn _ (i - 1) j (ca + 1) 0 M' (by lia) hj (by simp)
   split
   ·exact JF q1
   ·exact JF q2
 ·rw[if_neg (by simpa using c)];refine Js (du B ?_);have M':HI key u v (o.push v[j - 1]) i (j - 1):=M.takeB (jW o v (by lia) B) (by simp) fun x O y U=>by
   obtain⟨r,r1,r2,Y⟩:=gf O;obtain⟨t,t1,t2,t3,J⟩:=f_ U;have et:t=j - 1:=by lia
   rw[et,B]at J;have ex:=Option.some.inj J
   have:=P.su r (i - 1) (Je _) (by lia) (by lia)
   rw[aw G,aw Y]at this;rw[← ex];lia
  have ml':=M'.len;by_cases e:j - 1=1
  ·rw[if_pos (by simpa using e)];exact JF (hd _ _ (pX M' (P.firstB e)))
  ·rw[if_neg (by simpa using e)];obtain⟨q1,q2⟩:=hn _ i (j - 1) 0 (cb + 1) M' hi (by lia) (by simp)
   split
   ·exact JF q1
   ·exact JF q2
theorem wM {u v o:Array Keyed}{i j g J O n:Nat}{st:SortSt}{Q:ForInStep Sh7→SortSt→Prop}(P:Pre a₀ key u v)(M:HI key u v o i j)(hi:1≤i)(hj:2≤j)(Y:∀ y∈v.toList.take j,key y≤kat key u (i - 1))(hs:n≤o.size)
  (hd:∀ z r,Res key u v z→Q (.done (some z,r)) st) (hn:∀ o' i' j' g' ca' cb',HI key u v o' i' j'→1≤i'→2≤j'→n < o'.size→Q (.done (none,i',j',o',g',ca',cb')) st∧Q (.yield (none,i',j',o',g',ca',cb')) st) :
  wpS (model prog w) A E s (zG u v o i j g J O) Q st:=by
 unfold zG;have b1:=M.hi;have B:u[i - 1]? = some u[i - 1]:=Jf (by omega);refine Js (du B ?_);have ml:=M.len;have M':HI key u v (o.push u[i - 1]) (i - 1) j:=M.takeA (jW o u hi B) (by simp) fun x G y hy=>by
  obtain⟨t,t1,t2,t3,U⟩:=f_ hy;have et:t=i - 1:=by lia
  rw[et,B]at U;have ex:=Option.some.inj U
  have:=Y x G
  rw[aw B]at this;rw[← ex];exact this
 have ml':=M'.len;by_cases e:i - 1=0
 ·rw[if_pos (by simpa using e)];exact JF (hd _ _ (mX M' (.inl e)))
 ·rw[if_neg (by simpa using e)];obtain⟨q1,q2⟩:=hn _ (i - 1) j g J O M' (by lia) hj (by lia)
  split
  ·exact JF q1
  ·exact JF q2
theorem wL (L:dQ prog w A E s a₀ κ key){u v o:Array Keyed}{i j g ca cb n:Nat}{st:SortSt}{Q:ForInStep Sh7→SortSt→Prop}(hk:kindOf st=κ)(P:Pre a₀ key u v)(M:HI key u v o i j)(hi:1≤i)(hj:2≤j)(hx:∀ y∈u.toList.take i,key y≤kat key v (j - 1))(hs:n≤o.size)
  (O:∀ z r,Res key u v z→Q (.done (some z,r)) st) (hn:∀ o' i' j' g' ca' cb',HI key u v o' i' j'→1≤i'→2≤j'→n < o'.size→Q (.done (none,i',j',o',g',ca',cb')) st∧Q (.yield (none,i',j',o',g',ca',cb')) st) :
  wpS (model prog w) A E s (zF u v o i j g ca cb) Q st:=by
 unfold zF;have b1:=M.hi;have b2:=M.hj;have Y:v[j - 1]? = some v[j - 1]:=Jf (by omega);have e2:u[i - 1]? = some u[i - 1]:=Jf (by omega);refine Js (du Y ?_);have ml:=M.len;have M':HI key u v (o.push v[j - 1]) i (j - 1):=M.takeB (jW o v (by lia) Y) (by simp) fun x G y U=>by
  obtain⟨t,J,t2,t3,t4⟩:=f_ U;have et:t=j - 1:=by lia
  rw[et,Y]at t4;have ex:=Option.some.inj t4
  have:=hx x G
  rw[aw Y]at this;rw[← ex];exact this
 have ml':=M'.len;by_cases e:j - 1=1
 ·rw[if_pos (by simpa using e)];exact JF (O _ _ (pX M' (P.firstB e)))
 ·rw[if_neg (by simpa using e)];refine Js (du e2 (Js (gz L hk (P.mu _ (fz e2)) P.mv (by lia) (by lia) (pF P.sv (by simp) (by lia)) fun k k1 k2 k3 =>?_)));dsimp only;have lo:∀ t,t < k→kat key v t < key u[i - 1]:=fun t J=>by
   have:=k2 t J
   unfold aT at this;rw[if_pos rfl,KH]at this;exact JB this
  have up:∀ t,k≤t→t < j - 1→key u[i - 1]≤kat key v t:=fun t J t2=>by
   have:=k3 t J t2
   unfold aT at this;rw[if_pos rfl,KH]at this
   have:=Lb this
   lia
  have B:∀ y∈v.toList.take k,key y≤kat key u (i - 1):=fun y U=>by
   obtain⟨r,r1,r2,r3⟩:=gf U
   have:=lo r r1
   rw[aw r3]at this;rw[aw e2];lia
  by_cases hk0:j - 1 - k > 0
  ·rw[if_pos hk0];have M2:HI key u v (o.push v[j - 1]++(v.extract k (j - 1)).reverse) i k:=M'.takeB (Ac _ v k (j - 1)) (by omega) fun x G y U=>by
    obtain⟨r,r1,r2,r3⟩:=gf G;obtain⟨t,J,t2,t3,t4⟩:=f_ U;have a1:=up t J t2;have a2:=P.su r (i - 1) (Je _) (by lia) (by lia);rw[aw t4]at a1;rw[aw e2,aw r3]at a2
    lia
   have a0:=M2.len;by_cases e3:k=1
   ·rw[if_pos (by simpa using e3)];exact JF (O _ _ (pX M2 (P.firstB e3)))
   ·rw[if_neg (by simpa using e3)];by_cases e4:k=0
    ·rw[if_pos (by simpa using e4)];exact JF (O _ _ (mX M2 (.inr e4)))
    ·rw[if_neg (by simpa using e4)];exact wM P M2 hi (by lia) B (by lia) O hn
  ·rw[if_neg hk0];have k0:k=j - 1:=by lia
   subst k0;exact wM P M' hi (by lia) B (by lia) O hn
theorem wK (L:dQ prog w A E s a₀ κ key){u v o:Array Keyed}{i j g ca cb:Nat}{st:SortSt}{Q:ForInStep Sh7→SortSt→Prop}(O:kindOf st=κ)(P:Pre a₀ key u v)(M:HI key u v o i j)(hi:1≤i)(hj:2≤j)
  (U:∀ z r,Res key u v z→Q (.done (some z,r)) (bc st g)) (hn:∀ o' i' j' g' ca' cb',HI key u v o' i' j'→1≤i'→2≤j'→o.size < o'.size→Q (.done (none,i',j',o',g',ca',cb')) (bc st g)∧Q (.yield (none,i',j',o',g',ca',cb')) (bc st g)) :
  wpS (model prog w) A E s (zE u v o i j g ca cb) Q st:=by
 unfold zE;have b1:=M.hi;have b2:=M.hj;have J:v[j - 1]? = some v[j - 1]:=Jf (by omega);refine Js (wpS_modify (Js (du J (Js (gz L O (P.mv _ (fz J)) P.mu (by lia) (by lia) (pF P.su (by simp) (by lia)) fun k k1 k2 k3 =>?_)))));dsimp only;have ml:=M.len;have lo:∀ t,t < k→kat key u t≤key v[j - 1]:=fun t G=>by
  have:=k2 t G
  unfold aT at this;rw[if_neg (by decide),KH]at this
  have:¬ key v[j - 1] < kat key u t:=by simpa using this
  lia
 have up:∀ t,k≤t→t < i→key v[j - 1] < kat key u t:=fun t G Y=>by
  have:=k3 t G Y
  unfold aT at this;rw[if_neg (by decide),KH]at this
  have:key v[j - 1] < kat key u t:=by simpa using this
  exact this
 have B:∀ y∈u.toList.take k,key y≤kat key v (j - 1):=fun y hy=>by
  obtain⟨r,r1,r2,r3⟩:=gf hy
  have:=lo r r1
  rw[aw r3]at this;rw[aw J];omega
 by_cases hk0:i - k > 0
 ·rw[if_pos hk0];have M2:HI key u v (o++(u.extract k i).reverse) k j:=M.takeA (Ac _ u k i) (by omega) fun x a0 y hy=>by
   obtain⟨r,r1,r2,r3⟩:=gf a0;obtain⟨t,G,Y,t3,t4⟩:=f_ hy;have a1:=up t G Y;have a2:=P.sv r (j - 1) (Je _) (by lia) (by lia);rw[aw t4]at a1;rw[aw J,aw r3]at a2
   lia
  have a3:=M2.len;by_cases e3:k=0
  ·rw[if_pos (by simpa using e3)];exact JF (U _ _ (mX M2 (.inl e3)))
  ·rw[if_neg (by simpa using e3)];exact wL L (st:=bc st g) O P M2 (by lia) hj B (by simp) U hn
 ·rw[if_neg hk0];have k0:k=i:=by lia
  subst k0;exact wL L (st:=bc st g) O P M hi hj B (by simp) U hn
theorem xK (L:dQ prog w A E s a₀ κ key){st:SortSt}(hk:kindOf st=κ)(P:Pre a₀ key u v)(M:HI key u v o i j)(hi:1≤i)(hj:2≤j)
  (hd:∀ z r g',Res key u v z→Q (.done (some z,r)) (bc st g')) (hn:∀ o' J O g' g'',HI key u v o' J O→1≤J→2≤O→o.size < o'.size→Q (.yield (none,J,O,o',g')) (bc st g'')) :
  wpS (model prog w) A E s (uE u v (none,i,j,o,g)) Q st:=by
 unfold uE;have ml:=M.len;refine Js (LY (wpS_forRange (I:=fun t c B=>B=st∧∃ o' J O U Y,c=(none,J,O,o',U,Y)∧HI key u v o' J O∧1≤J∧2≤O∧o.size + t≤o'.size)
  (Q:=fun c B=>B=st∧((∃ z r,c=(some z,r)∧Res key u v z)∨∃ o' J O U Y,c=(none,J,O,o',U,Y)∧HI key u v o' J O∧1≤J∧2≤O∧o.size < o'.size)) ?step ?fin ⟨rfl,o,i,j,0,0,rfl,M,hi,hj,by simp⟩) ?post)
 case fin =>
  rintro c B ⟨rfl,o',J,O,U,Y,rfl,M',h1,h2,h3⟩
  have:=M'.len
  lia
 case step =>
  rintro t c B _ ht ⟨rfl,o',J,O,U,Y,rfl,M',h1,h2,h3⟩;exact CB L hk P M' h1 h2 (fun z r hz=>⟨rfl,.inl ⟨z,r,rfl,hz⟩⟩) fun o2 i2 j2 a2 a3 M2 g1 g2 g3=>⟨⟨rfl,.inr ⟨o2,i2,j2,a2,a3,rfl,M2,g1,g2,by lia⟩⟩,rfl,o2,i2,j2,a2,a3,rfl,M2,g1,g2,by lia⟩
 case post =>
  rintro c B ⟨rfl,h⟩;rcases h with⟨z,r,rfl,hz⟩ | ⟨o',J,O,U,Y,rfl,M',h1,h2,h3⟩
  ·exact JF (hd z _ (gallopOf B) hz)
  ·dsimp only;refine Js (wpS_lift (wpAny_rule ⟨rfl,?_⟩));refine Js (LY (wpS_forRange (I:=fun t c G=>∃ g',G=bc B g'∧∃ o2 i2 j2 g2 U Y,c=(none,i2,j2,o2,g2,U,Y)∧HI key u v o2 i2 j2∧1≤i2∧2≤j2∧o'.size + t≤o2.size)
    (Q:=fun c G=>∃ g',G=bc B g'∧((∃ z r,c=(some z,r)∧Res key u v z)∨∃ o2 i2 j2 g2 U Y,c=(none,i2,j2,o2,g2,U,Y)∧HI key u v o2 i2 j2∧1≤i2∧2≤j2∧o.size < o2.size)) ?gstep ?gfin ⟨gallopOf B,rfl,o',J,O,g + 1,U,Y,rfl,M',h1,h2,by simp⟩) ?gpost)
   case gfin =>
    rintro c G ⟨g',rfl,o2,i2,j2,g2,U,Y,rfl,M2,q1,q2,q3⟩
    have:=M2.len
    have:=M'.len
    lia
   case gstep =>
    rintro t c G _ ht ⟨g',rfl,o2,i2,j2,g2,U,Y,rfl,M2,q1,q2,q3⟩;show wpS _ _ _ _ (ym u v (none,i2,j2,o2,g2,U,Y)) _ _;unfold ym;dsimp only
    split
    ·exact wK L (st:=bc B g') hk P M2 q1 q2 (fun z r hz=>⟨_,rfl,.inl ⟨z,r,rfl,hz⟩⟩) fun o3 i3 j3 g3 a0 a1 M3 k1 k2 k3=>⟨⟨_,rfl,.inr ⟨o3,i3,j3,g3,a0,a1,rfl,M3,k1,k2,by lia⟩⟩,_,rfl,o3,i3,j3,g3,a0,a1,rfl,M3,k1,k2,by lia⟩
    ·exact wK L (st:=bc B g') hk P M2 q1 q2 (fun z r hz=>⟨_,rfl,.inl ⟨z,r,rfl,hz⟩⟩) fun o3 i3 j3 g3 a0 a1 M3 k1 k2 k3=>⟨⟨_,rfl,.inr ⟨o3,i3,j3,g3,a0,a1,rfl,M3,k1,k2,by lia⟩⟩,_,rfl,o3,i3,j3,g3,a0,a1,rfl,M3,k1,k2,by lia⟩
   case gpost =>
    rintro c G ⟨g',rfl,h⟩;rcases h with⟨z,r,rfl,hz⟩ | ⟨o2,i2,j2,g2,U,Y,rfl,M2,q1,q2,q3⟩
    ·exact JF (hd z _ g' hz)
    ·dsimp only;exact Js (wpS_modify (JF (hn o2 i2 j2 _ _ M2 q1 q2 q3)))
theorem HS (L:dQ prog w A E s a₀ κ key){u v:Array Keyed}{st:SortSt}{Q:Array Keyed→SortSt→Prop}(hk:kindOf st=κ)(P:Pre a₀ key u v)(G:∀ z g',Res key u v z→Q z (bc st g')):wpS (model prog w) A E s (hiP u v) Q st:=by
 rw[GF];refine Js (wpS_lift (wpAny_rule ⟨rfl,?_⟩));have hu:=P.hu;have hv:=P.hv;have Y:u[u.size - 1]? = some u[u.size - 1]:=Jf (by omega);refine Js (du Y ?_);have tu:u.toList.take u.size=u.toList:=Ji (by simp);have tv:v.toList.take v.size=v.toList:=Ji (by simp);have M0:HI key u v #[] u.size v.size:=⟨by rw[tu,tv];simp,by rw[tu];simpa using mr.mpr P.su,by rw[tv];simpa using mr.mpr P.sv,I_ _,I_ _⟩;have M:HI key u v #[u[u.size - 1]] (u.size - 1) v.size:=M0.takeA (by have:=jW #[] u (by omega) Y;simpa using this) (by simp) fun x hx y hy=>by
  obtain⟨r,r1,r2,r3⟩:=gf hx;obtain⟨t,t1,t2,t3,t4⟩:=f_ hy;have et:t=u.size - 1:=by lia
  rw[et]at t4;have a1:=P.sv r (v.size - 1) (Je _) (by lia) (by lia);have a2:=P.last;rw[aw t4]at a2;rw[aw r3]at a1
  lia
 by_cases c1:u.size - 1=0
 ·rw[if_pos (by simpa using c1)];exact JF (G _ (gallopOf st) (mX M (.inl c1)))
 ·rw[if_neg (by simpa using c1)];by_cases c2:v.size=1
  ·rw[if_pos (by simpa using c2)];exact JF (G _ (gallopOf st) (pX M (P.firstB c2)))
  ·rw[if_neg (by simpa using c2)];refine Js (wpS_get ?_);refine Js (LY (wpS_forRange (I:=fun t c B=>∃ g',B=bc st g'∧∃ o i j g,c=(none,i,j,o,g)∧HI key u v o i j∧1≤i∧2≤j∧t < o.size)
    (Q:=fun c B=>∃ g',B=bc st g'∧∃ z r,c=(some z,r)∧Res key u v z) ?step ?fin ⟨gallopOf st,rfl,#[u[u.size - 1]],u.size - 1,v.size,_,rfl,M,by lia,by lia,by simp⟩) ?post)
   case fin =>
    rintro c B ⟨g',rfl,o,i,j,g,rfl,J,h1,h2,h3⟩
    have:=J.len
    lia
   case step =>
    rintro t c B _ ht ⟨g',rfl,o,i,j,g,rfl,J,h1,h2,h3⟩;exact xK L (st:=bc st g') hk P J h1 h2 (fun z r O U=>⟨O,rfl,z,r,rfl,U⟩) fun o2 i2 j2 O g3 M2 q1 q2 q3=>⟨g3,rfl,o2,i2,j2,O,rfl,M2,q1,q2,by lia⟩
   case post =>
    rintro c B ⟨g',rfl,z,r,rfl,U⟩;exact JF (G z g' U)
end
section
variable {w:World}
abbrev Sa:=Option (Option Nat) × Nat
abbrev Sd:=Option (Option Nat) × Nat × Nat
def yZ (lo a n:Nat):StateT SortSt Sem Sa :=
 forIn [a:n] ((none,a):Sa) fun _ r=>do
  let z ← ltAt' (lo + r.2) (lo + r.2 - 1)
  match z with
  | some less=>if less=true then pure (.done (none,r.2)) else pure (.yield (none,r.2 + 1))
  | _=>pure (.done (some none,r.2))
def Do (lo a n:Nat):StateT SortSt Sem Sd :=
 forIn [a:n] ((none,a,0):Sd) fun _ r=>do
  let z ← ltAt' (lo + r.2.1) (lo + r.2.1 - 1)
  match z with
  | some less =>
   if less=true then
    if r.2.2 > 0 then do
     reverseSlice' (lo + r.2.1 - (r.2.2 + 1)) (lo + r.2.1)
     pure (.yield (none,r.2.1 + 1,0))
    else pure (.yield (none,r.2.1 + 1,0))
   else do
    let y ← ltAt' (lo + r.2.1 - 1) (lo + r.2.1)
    match y with
    | some more=>if more=true then pure (.done (none,r.2.1,r.2.2)) else pure (.yield (none,r.2.1 + 1,r.2.2 + 1))
    | _=>pure (.done (some none,r.2.1,r.2.2))
  | _=>pure (.done (some none,r.2.1,r.2.2))
def pG (lo m n:Nat):StateT SortSt Sem (Option Nat):=do
 reverseSlice' lo (lo + m)
 let r ← yZ lo m n
 match r.1 with
 | some v=>pure v
 | none=>pure (some r.2)
def mY (lo m n:Nat):StateT SortSt Sem (Option Nat):=do
 liftM (rule "list.sort.descending-run")
 let r ← Do lo (m + 1) n
 match r.1 with
 | some v=>pure v
 | none =>
  if r.2.2 > 0 then do
   reverseSlice' (lo + r.2.1 - (r.2.2 + 1)) (lo + r.2.1)
   pG lo r.2.1 n
  else pG lo r.2.1 n
theorem F6 (lo n:Nat):countRun' lo n=(do
  let r ← yZ lo 1 n
  match r.1 with
  | some v=>pure v
  | none =>
   if (r.2 == n)=true then pure (some r.2)
   else if r.2 > 1 then do
    let z ← ltAt' lo (lo + r.2 - 1)
    match z with
    | some up=>if up=true then pure (some r.2) else do
      reverseSlice' lo (lo + r.2)
      mY lo r.2 n
    | _=>pure none
   else mY lo r.2 n):=by
 kernel_rfl
def Fal (key:Keyed→Int)(xs:Array Keyed)(lo hi:Nat):Prop:=∀ i j,lo≤i→i≤j→j < hi→kat key xs j≤kat key xs i
def Off (xs ys:Array Keyed)(lo hi:Nat):Prop:=∀ t,(t < lo∨hi≤t)→ys[t]? = xs[t]?
theorem Off.refl (xs:Array Keyed)(lo hi:Nat):Off xs xs lo hi:=fun _ _=>rfl
theorem Off.trans {lo hi:Nat}(h:Off xs ys lo hi)(g:Off ys zs lo hi):Off xs zs lo hi:=fun t B=>(g t B).trans (h t B)
theorem vh (hj:j≤xs.size)(k:Nat):kat key (mirror xs i j ((j - i) / 2)) k=if i≤k∧k < j then kat key xs (i + j - 1 - k) else kat key xs k:=by
 have e:=getElem?_mirror_all (i:=i) hj k;by_cases h1:i≤k∧k < j
 ·rw[if_pos h1]at e ⊢;exact gT e
 ·rw[if_neg h1]at e ⊢;exact gT e
theorem pR {i j lo hi:Nat}(hj:j≤xs.size)(h1:lo≤i)(h2:j≤hi):Off xs (mirror xs i j ((j - i) / 2)) lo hi:=fun t B=>by
 rw[getElem?_mirror_all hj,if_neg (by lia)]
theorem eP (hj:j≤xs.size)(B:∀ k,i≤k→k < j→kat key xs k=kat key xs (j - 1))(k:Nat):kat key (mirror xs i j ((j - i) / 2)) k=kat key xs k:=by
 rw[vh hj]
 split
 ·rw[B _ (by lia) (by lia),B k (by lia) (by lia)]
 ·rfl
theorem uG {st:SortSt}(h:Q () (setArr st (mirror (arrOf st) i j ((j - i) / 2)))):wpS (model prog w) A E s (reverseSlice' i j) Q st:=by
 rw[reverseSlice'_eq];exact wpS_modify h
theorem yY (L:dQ prog w A E s a₀ κ key){lo a n:Nat}{st:SortSt}(O:SB a₀ κ st)(hz:lo + n≤a₀.size)(h1:1≤a)(J:a≤n)(U:Seg key (arrOf st) lo (lo + a))
  (h:∀ m,a≤m→m≤n→Seg key (arrOf st) lo (lo + m)→(m=n∨kat key (arrOf st) (lo + m) < kat key (arrOf st) (lo + m - 1))→Q (none,m) st):wpS (model prog w) A E s (yZ lo a n) Q st:=by
 unfold yZ;refine wpS_forRange (I:=fun t c G=>G=st∧c=(none,t)∧Seg key (arrOf st) lo (lo + t)) ?step ?fin ⟨rfl,rfl,U⟩
 case fin =>
  rintro c G ⟨rfl,rfl,B⟩;rw[show max a n=n by lia]at B ⊢;exact h n J (I_ _) B (.inl rfl)
 case step =>
  rintro t c G Y a0 ⟨rfl,rfl,B⟩;refine Js (mM L O (by dsimp only;lia) (by dsimp only;lia) ?_);dsimp only;by_cases e:kat key (arrOf G) (lo + t) < kat key (arrOf G) (lo + t - 1)
  ·rw[if_pos (Jd e)];exact JF (h t Y (by lia) B (.inr e))
  ·rw[if_neg (by simpa using e)];refine JF ⟨rfl,rfl,fun i j x y z =>?_⟩;by_cases q:j < lo + t
   ·exact B i j x y q
   ·have ej:j=lo + t:=by lia
    subst ej;by_cases q2:i=lo + t
    ·rw[q2];exact KF _
    ·have:=B i (lo + t - 1) x (by lia) (by lia)
     lia
theorem qE (L:dQ prog w A E s a₀ κ key){lo m n:Nat}{st:SortSt}(G:SB a₀ κ st)(O:lo + n≤a₀.size)(h1:1≤m)(B:m≤n)(U:Fal key (arrOf st) lo (lo + m))
  (h:∀ k xs,1≤k→k≤n→xs.Perm (arrOf st)→Off (arrOf st) xs lo (lo + n)→Seg key xs lo (lo + k)→Q (some k) (setArr st xs)):wpS (model prog w) A E s (pG lo m n) Q st:=by
 unfold pG;have hsz:lo + m≤(arrOf st).size:=by rw[G.size];lia
 refine Js (uG ?_);have J:(mirror (arrOf st) lo (lo + m) ((lo + m - lo) / 2)).Perm (arrOf st):=mirror_perm _ _ _ _;have hB':=G.set J;refine Js (yY L hB' O h1 B (fun i j x y z =>?_) fun k k1 k2 k3 _=>JF (h k _ (by lia) k2 J (pR hsz (by simp) (by lia)) k3));show kat key (mirror (arrOf st) lo (lo + m) ((lo + m - lo) / 2)) i≤kat key (mirror (arrOf st) lo (lo + m) ((lo + m - lo) / 2)) j;rw[vh hsz,vh hsz,if_pos (by lia),if_pos (by lia)];exact U _ _ (by lia) (by lia) (by lia)
theorem Fa (L:dQ prog w A E s a₀ κ key){lo a n:Nat}{st:SortSt}(hB:SB a₀ κ st)(hz:lo + n≤a₀.size)(h1:1≤a)(a0:a≤n)(hs:Fal key (arrOf st) lo (lo + a))
  (h:∀ m q xs,a≤m→m≤n→xs.Perm (arrOf st)→Off (arrOf st) xs lo (lo + n)→Fal key xs lo (lo + m)→q + 1≤m→(∀ i,lo + m - (q + 1)≤i→i < lo + m→kat key xs i=kat key xs (lo + m - 1))→Q (none,m,q) (setArr st xs)):wpS (model prog w) A E s (Do lo a n) Q st:=by
 unfold Do;refine wpS_forRange (I:=fun t c O=>∃ q xs,O=setArr st xs∧c=(none,t,q)∧xs.Perm (arrOf st)∧Off (arrOf st) xs lo (lo + n)∧Fal key xs lo (lo + t)∧q + 1≤t∧∀ i,lo + t - (q + 1)≤i→i < lo + t→kat key xs i=kat key xs (lo + t - 1)) ?step ?fin
  ⟨0,arrOf st,rfl,rfl,Array.Perm.refl _,Off.refl _ _ _,hs,by omega,fun i x y=>by congr 1;lia⟩
 case fin =>
  rintro c O ⟨q,xs,rfl,rfl,G,U,J,hq,Y⟩;rw[show max a n=n by lia]at J hq Y ⊢;exact h n q xs a0 (I_ _) G U J hq Y
 case step =>
  rintro t c O ht a1 ⟨q,xs,rfl,rfl,G,U,J,hq,Y⟩;have hB':=hB.set G;have hsz:lo + t≤xs.size:=by rw[G.size_eq,hB.size];lia
  refine Js (mM L hB' (by dsimp only;lia) (by dsimp only;lia) ?_);dsimp only;show wpS _ _ _ _ (if decide (kat key xs (lo + t) < kat key xs (lo + t - 1))=true then _ else _) _ _;by_cases e:kat key xs (lo + t) < kat key xs (lo + t - 1)
  ·rw[if_pos (Jd e)];have B:∀ ys:Array Keyed,(∀ k,kat key ys k=kat key xs k)→Fal key ys lo (lo + (t + 1)):=by
    intro ys hk i j x y z;rw[hk,hk];by_cases r:j < lo + t
    ·exact J i j x y r
    ·have ej:j=lo + t:=by lia
     subst ej;by_cases q2:i=lo + t
     ·rw[q2];exact KF _
     ·have:=J i (lo + t - 1) x (by lia) (by lia)
      lia
   by_cases hq0:q > 0
   ·rw[if_pos hq0];refine Js (uG (JF ⟨0,mirror xs (lo + t - (q + 1)) (lo + t) ((lo + t - (lo + t - (q + 1))) / 2),rfl,rfl,(mirror_perm _ _ _ _).trans G,U.trans (pR hsz (by lia) (by lia)),B _ (eP hsz Y),by simp,fun i x y=>by congr 1;lia⟩))
   ·rw[if_neg hq0];exact JF ⟨0,xs,rfl,rfl,G,U,B _ (fun _=>rfl),by simp,fun i x y=>by congr 1;lia⟩
  ·rw[if_neg (by simpa using e)];refine Js (mM L hB' (by lia) (by lia) ?_);dsimp only;show wpS _ _ _ _ (if decide (kat key xs (lo + t - 1) < kat key xs (lo + t))=true then _ else _) _ _;by_cases e2:kat key xs (lo + t - 1) < kat key xs (lo + t)
   ·rw[if_pos (Jd e2)];exact JF (h t q xs ht (by lia) G U J hq Y)
   ·rw[if_neg (by simpa using e2)];have eq:kat key xs (lo + t)=kat key xs (lo + t - 1):=by lia
    refine JF ⟨q + 1,xs,rfl,rfl,G,U,fun i j x y z =>?_,by lia,fun i x y =>?_⟩
    ·by_cases r:j < lo + t
     ·exact J i j x y r
     ·have ej:j=lo + t:=by lia
      subst ej;by_cases q2:i=lo + t
      ·rw[q2];exact KF _
      ·rw[eq];exact J i (lo + t - 1) x (by lia) (by lia)
    ·rw[show lo + (t + 1) - 1=lo + t by rfl];by_cases q2:i=lo + t
     ·rw[q2]
     ·rw[eq];exact Y i (by lia) (by lia)
theorem oH (L:dQ prog w A E s a₀ κ key){lo m n:Nat}{st:SortSt}(G:SB a₀ κ st)(O:lo + n≤a₀.size)(U:m + 1≤n)(hs:Fal key (arrOf st) lo (lo + (m + 1)))
  (h:∀ k xs,1≤k→k≤n→xs.Perm (arrOf st)→Off (arrOf st) xs lo (lo + n)→Seg key xs lo (lo + k)→Q (some k) (setArr st xs)):wpS (model prog w) A E s (mY lo m n) Q st:=by
 unfold mY;refine Js (wpS_lift (wpAny_rule ⟨rfl,?_⟩));refine Js (Fa L G O (by simp) U hs fun k q xs k1 k2 J ho hf hq he =>?_);dsimp only;have hsz:lo + k≤xs.size:=by rw[J.size_eq,G.size];lia
 by_cases hq0:q > 0
 ·rw[if_pos hq0];refine Js (uG ?_);have B:(mirror xs (lo + k - (q + 1)) (lo + k) ((lo + k - (lo + k - (q + 1))) / 2)).Perm (arrOf st):=(mirror_perm _ _ _ _).trans J;refine qE L (st:=setArr st (mirror xs (lo + k - (q + 1)) (lo + k) ((lo + k - (lo + k - (q + 1))) / 2))) (G.set B) O (by lia) k2 (fun i j x y z =>?_) fun r ys Y r2 r3 r4 r5=>h r ys Y r2 (r3.trans B) ((ho.trans (pR hsz (by lia) (by lia))).trans r4) r5;show kat key (mirror xs _ _ _) j≤kat key (mirror xs _ _ _) i;rw[eP hsz he,eP hsz he];exact hf i j x y z
 ·rw[if_neg hq0];exact qE L (st:=setArr st xs) (G.set J) O (by lia) k2 hf fun r ys Y r2 r3 r4 r5=>h r ys Y r2 (r3.trans J) (ho.trans r4) r5
theorem F4 (L:dQ prog w A E s a₀ κ key){lo n:Nat}{st:SortSt}(G:SB a₀ κ st)(J:lo + n≤a₀.size)(h1:1≤n)
  (h:∀ k xs,1≤k→k≤n→xs.Perm (arrOf st)→Off (arrOf st) xs lo (lo + n)→Seg key xs lo (lo + k)→Q (some k) (setArr st xs)):wpS (model prog w) A E s (countRun' lo n) Q st:=by
 rw[F6];refine Js (yY L G J (I_ 1) h1 (fun i j x y z=>by rw[show i=j by lia];exact KF _) fun m Y m2 B O =>?_);dsimp only;by_cases e:m=n
 ·rw[if_pos (by simpa using e)];exact JF (h m (arrOf st) Y m2 (Array.Perm.refl _) (Off.refl _ _ _) B)
 ·rw[if_neg (by simpa using e)];have lt:kat key (arrOf st) (lo + m) < kat key (arrOf st) (lo + m - 1):=O.resolve_left e;by_cases g:m > 1
  ·rw[if_pos g];refine Js (mM L G (by lia) (by lia) ?_);dsimp only;by_cases c:kat key (arrOf st) lo < kat key (arrOf st) (lo + m - 1)
   ·rw[if_pos (Jd c)];exact JF (h m (arrOf st) Y m2 (Array.Perm.refl _) (Off.refl _ _ _) B)
   ·rw[if_neg (by simpa using c)];have hsz:lo + m≤(arrOf st).size:=by rw[G.size];lia
    have all:∀ k,lo≤k→k < lo + m→kat key (arrOf st) k=kat key (arrOf st) (lo + m - 1):=by
     intro k x y;have a1:=B lo k (I_ _) x y;have a2:=B k (lo + m - 1) x (by lia) (by lia)
     lia
    refine Js (uG ?_);have hp:(mirror (arrOf st) lo (lo + m) ((lo + m - lo) / 2)).Perm (arrOf st):=mirror_perm _ _ _ _;refine oH L (G.set hp) J (by lia) (fun i j x y z =>?_) fun r ys r1 r2 r3 r4 r5=>h r ys r1 r2 (r3.trans hp) ((pR hsz (by simp) (by lia)).trans r4) r5;show kat key (mirror (arrOf st) _ _ _) j≤kat key (mirror (arrOf st) _ _ _) i;rw[eP hsz all,eP hsz all];by_cases q:j < lo + m
    ·rw[all i x (by lia),all j (by lia) q];exact KF _
    ·have U:j=lo + m:=by lia
     subst U;by_cases q2:i=lo + m
     ·rw[q2];exact KF _
     ·rw[all i x (by lia)];lia
  ·rw[if_neg g];have em:m=1:=by lia
   subst em;refine oH L G J (by lia) (fun i j x y z =>?_) h;by_cases q:i=j
   ·rw[q];exact KF _
   ·have ei:i=lo:=by lia
    have U:j=lo + 1:=by lia
    subst ei;subst U
    have:i + 1 - 1=i:=by simp
    rw[this]at lt
    lia
end
section
variable {w:World}
theorem zy (B:src < xs.size)(G:d≤src)(k:Nat):kat key (bubble xs src d) k=if k=src - d then kat key xs src else if src - d < k∧k≤src then kat key xs (k - 1) else kat key xs k:=by
 have e:=getElem?_bubble B d G k;by_cases h1:k=src - d
 ·rw[if_pos h1]at e ⊢;exact gT e
 ·rw[if_neg h1]at e ⊢;by_cases h2:src - d < k∧k≤src
  ·rw[if_pos h2]at e ⊢;exact gT e
  ·rw[if_neg h2]at e ⊢;exact gT e
def Di (lo k:Nat):StateT SortSt Sem (Option Bool × Nat × Nat) :=
 forIn [0:k] ((none,0,k):Option Bool × Nat × Nat) fun _ r =>
  if r.2.1 ≥ r.2.2 then pure (.done (none,r.2.1,r.2.2)) else do
   let z ← ltAt' (lo + k) (lo + (r.2.1 + r.2.2) / 2)
   match z with
   | some less=>if less=true then pure (.yield (none,r.2.1,(r.2.1 + r.2.2) / 2)) else pure (.yield (none,(r.2.1 + r.2.2) / 2 + 1,r.2.2))
   | _=>pure (.done (some false,r.2.1,r.2.2))
def HL (lo n ok:Nat):StateT SortSt Sem (Option Bool × Unit) :=
 forIn [max ok 1:n] ((none,()):Option Bool × Unit) fun k _=>do
  let r ← Di lo k
  match r.1 with
  | some v=>pure (.done (some v,()))
  | none=>do
   moveDown' (lo + k) (lo + r.2.1)
   pure (.yield (none,()))
theorem GE (lo n ok:Nat):binarySort' lo n ok=(do
  let r ← HL lo n ok
  match r.1 with
  | some v=>pure v
  | none=>pure true):=by kernel_rfl
theorem E9 (L:dQ prog w A E s a₀ κ key){lo k:Nat}{st:SortSt}(U:SB a₀ κ st)(Y:lo + k < a₀.size)(O:Seg key (arrOf st) lo (lo + k))
  (h:∀ l,l≤k→(∀ i,lo≤i→i < lo + l→kat key (arrOf st) i≤kat key (arrOf st) (lo + k))→(∀ i,lo + l≤i→i < lo + k→kat key (arrOf st) (lo + k) < kat key (arrOf st) i)→Q (none,l,l) st):wpS (model prog w) A E s (Di lo k) Q st:=by
 unfold Di;refine wpS_forRange (I:=fun t c B=>B=st∧∃ l r,c=(none,l,r)∧l≤r∧r≤k∧r - l≤k - t∧(∀ i,lo≤i→i < lo + l→kat key (arrOf st) i≤kat key (arrOf st) (lo + k))∧(∀ i,lo + r≤i→i < lo + k→kat key (arrOf st) (lo + k) < kat key (arrOf st) i)) ?step ?fin
  ⟨rfl,0,k,rfl,by simp,by simp,by simp,fun i x y=>by lia,fun i x y=>by lia⟩
 case fin =>
  rintro c B ⟨rfl,l,r,rfl,h1,h2,h3,G,J⟩;have e:l=r:=by lia
  subst e;exact h l h2 G J
 case step =>
  rintro t c B _ ht ⟨rfl,l,r,rfl,h1,h2,h3,G,J⟩;dsimp only;by_cases e:l ≥ r
  ·rw[if_pos e];have e':l=r:=by lia
   subst e';exact JF (h l h2 G J)
  ·rw[if_neg e];refine Js (mM L U Y (by lia) ?_);dsimp only;by_cases c:kat key (arrOf B) (lo + k) < kat key (arrOf B) (lo + (l + r) / 2)
   ·rw[if_pos (Jd c)];refine JF ⟨rfl,_,_,rfl,by lia,by lia,by lia,G,fun i x y =>?_⟩
    have:=O (lo + (l + r) / 2) i (by simp) x y
    lia
   ·rw[if_neg (by simpa using c)];refine JF ⟨rfl,_,_,rfl,by lia,by omega,by lia,fun i x y =>?_,J⟩
    have:=O i (lo + (l + r) / 2) x (by lia) (by lia)
    lia
theorem Fo {lo p q:Nat}(h1:lo≤q)(h2:q≤p)(B:p < xs.size)(G:Seg key xs lo p)(J:∀ i,lo≤i→i < q→kat key xs i≤kat key xs p)(O:∀ i,q≤i→i < p→kat key xs p < kat key xs i):Seg key (bubble xs p (p - q)) lo (p + 1):=by
 intro i j x y z;rw[zy B (Nat.sub_le _ _),zy B (Nat.sub_le _ _),show p - (p - q)=q from Nat.sub_sub_self h2]
 clear B
 repeat' split
 all_goals first
  | (exfalso;lia)
  | exact KF _
  | exact J _ (by omega) (by lia)
  | exact Int.le_of_lt (O _ (by lia) (by lia))
  | exact G _ _ (by lia) (by lia) (by lia)
theorem GD (L:dQ prog w A E s a₀ κ key){lo n ok:Nat}{st:SortSt}(Y:SB a₀ κ st)(hz:lo + n≤a₀.size)(a0:ok≤n)(hs:Seg key (arrOf st) lo (lo + ok))
  (h:∀ xs,xs.Perm (arrOf st)→Off (arrOf st) xs lo (lo + n)→Seg key xs lo (lo + n)→Q true (setArr st xs)):wpS (model prog w) A E s (binarySort' lo n ok) Q st:=by
 rw[GE];unfold HL;refine Js (LY (wpS_forRange (I:=fun t c G=>c=(none,())∧∃ xs,G=setArr st xs∧xs.Perm (arrOf st)∧Off (arrOf st) xs lo (lo + n)∧Seg key xs lo (lo + min t n))
  (Q:=fun c G=>c=(none,())∧∃ xs,G=setArr st xs∧xs.Perm (arrOf st)∧Off (arrOf st) xs lo (lo + n)∧Seg key xs lo (lo + n)) ?step ?fin ?init) ?post)
 case post =>
  rintro c G ⟨rfl,xs,rfl,J,U,B⟩;exact JF (h xs J U B)
 case init =>
  refine⟨rfl,arrOf st,rfl,Array.Perm.refl _,Off.refl _ _ _,fun i j x y z =>?_⟩;by_cases h1:ok=0
  ·rw[show i=j by lia];exact KF _
  ·exact hs i j x y (by lia)
 case fin =>
  rintro c G ⟨rfl,xs,rfl,J,U,B⟩;refine⟨rfl,xs,rfl,J,U,?_⟩
  rwa [show min (max (max ok 1) n) n=n by lia]at B
 case step =>
  rintro k c G hk a1 ⟨rfl,xs,rfl,J,U,B⟩;rw[show min k n=k by lia]at B;have hB':=Y.set J;refine Js (E9 L hB' (by lia) B fun l hl h4 h5 =>?_);dsimp only;rw[moveDown'_eq];refine Js (wpS_modify (JF ⟨rfl,bubble xs (lo + k) (lo + k - (lo + l)),rfl,(bubble_perm _ _ _).trans J,?_,?_⟩))
  ·have O:lo + k < xs.size:=by rw[J.size_eq,Y.size];lia
   refine U.trans fun t ht =>?_;rw[getElem?_bubble O _ (by simp),if_neg (by lia),if_neg (by lia)]
  ·rw[show min (k + 1) n=k + 1 by lia];have O:lo + k < xs.size:=by rw[J.size_eq,Y.size];lia
   exact Fo (LL _ _) (by lia) O B h4 h5
def jw (xs:Array Keyed)(p:Nat)(z:List Keyed):Array Keyed:=z.zipIdx.foldl (fun a q=>a.setIfInBounds (p + q.2) q.1) xs
theorem vM (p:Nat):∀ (z:List Keyed) (n:Nat) (xs:Array Keyed),p + n + z.length≤xs.size→∀ t:Nat,((z.zipIdx n).foldl (fun a q=>a.setIfInBounds (p + q.2) q.1) xs)[t]? = if p + n≤t∧t < p + n + z.length then z[t - (p + n)]? else xs[t]?
 | [],n,xs,_,t=>by
  rw[if_neg (by simp)];rfl
 | x::z,n,xs,h,t=>by
  rw[List.zipIdx_cons,LV];have B:(x::z).length=z.length + 1:=rfl;rw[vM p z (n + 1) _ (by rw[Array.size_setIfInBounds];lia) t];by_cases c:p + n≤t∧t < p + n + (x::z).length
  ·rw[if_pos c];by_cases c2:t=p + n
   ·rw[if_neg (by lia),c2]
    have:p + n < xs.size:=by lia
    simp[LS,this]
   ·rw[if_pos (by lia)];have e:t - (p + n)=t - (p + (n + 1)) + 1:=by lia
    rw[e,List.getElem?_cons_succ]
  ·rw[if_neg c,if_neg (by lia),LS]
   have:p + n≠t:=by lia
   simp[this]
theorem kq (h:p + z.length≤xs.size)(t:Nat):(jw xs p z)[t]? = if p≤t∧t < p + z.length then z[t - p]? else xs[t]? := by
 have:=vM p z 0 xs (by omega) t
 simpa[jw] using this
theorem xu (h:p + z.length≤xs.size):(jw xs p z).toList=xs.toList.take p++z++xs.toList.drop (p + z.length):=by
 refine Ma fun t =>?_;rw[Ko,kq h];have lt:(xs.toList.take p).length=p:=by simp;lia
 by_cases c1:t < p
 ·rw[if_neg (by lia),Jx,JM (by rw[lt];exact c1),List.getElem?_take_of_lt c1,Ko]
 ·by_cases c2:t < p + z.length
  ·rw[if_pos ⟨by lia,c2⟩,JM (by rw[I8,lt];omega),JY (by rw[lt];lia),lt]
  ·rw[if_neg (by lia),JY (by rw[I8,lt];lia),I8,lt,L0,Ko]
   congr 1
   lia
abbrev gG (st:SortSt)(p:Array (Nat × Nat × Nat)):SortSt:=SortSt.mk' (kindOf st) (arrOf st) p (gallopOf st) (failedOf st)
theorem E3 (i:Nat):mergeAt' i=(do
  let st ← get
  match (pendingOf st)[i]?,(pendingOf st)[i + 1]? with
  | some (sa,na,pw),some (sb,nb,_)=>do
   set (gG st (((pendingOf st).setIfInBounds i (sa,na + nb,pw)).eraseIdxIfInBounds (i + 1)))
   let y ← elem' (arrOf st) sb
   let z ← gj false y (arrOf st) sa na 0
   match z with
   | some k =>
    if (na - k == 0)=true then pure true else do
     let x ← elem' (arrOf st) (sa + k + (na - k) - 1)
     let r ← gj true x (arrOf st) sb nb (nb - 1)
     match r with
     | some m =>
      if (m == 0)=true then pure true else do
       let t ← if na - k≤m then loP ((arrOf st).extract (sa + k) sb) ((arrOf st).extract sb (sb + m)) else hiP ((arrOf st).extract (sa + k) sb) ((arrOf st).extract sb (sb + m))
       modify fun st=>setArr st (jw (arrOf st) (sa + k) t.toList)
       let st ← get
       pure (failedOf st).isNone
     | _=>pure false
   | _=>pure false
  | _,_=>liftM (unsupported "internal:list.sort.pending" : Sem Bool)):=by
 kernel_rfl
end
section
variable {w:World}
abbrev Tri:=Nat × Nat × Nat
theorem EE {p:Array Tri}{B G:List Tri}{a b:Tri}(h:p.toList=B++a::b::G):p[B.length]? = some a∧p[B.length + 1]? = some b:=by
 rw[← Ko,← Ko,h];constructor
 ·rw[JY (I_ _)];simp
 ·rw[JY (by simp)];simp
theorem Cn {p:Array Tri}{B G:List Tri}{a b c:Tri}(h:p.toList=B++a::b::G):((p.setIfInBounds B.length c).eraseIdxIfInBounds (B.length + 1)).toList=B++c::G:=by
 have J:p.size=B.length + (G.length + 2):=by rw[← JI,h];simp
 rw[Array.eraseIdxIfInBounds,dif_pos (by rw[Array.size_setIfInBounds];lia),Array.toList_eraseIdx,Array.toList_setIfInBounds,h];rw[List.set_append_right _ _ (I_ _),Nat.sub_self,List.set_cons_zero,List.eraseIdx_append_of_length_le (by simp)];simp
theorem ie (B:b≤xs.size)(hi:a + i < b):kat key (xs.extract a b) i=kat key xs (a + i):=by
 apply gT
 rw[Array.getElem?_extract];simp
 lia
theorem mZ {xs:Array Keyed}{a b:Nat}(B:b≤xs.size):(xs.extract a b).size=b - a:=by
 rw[Array.size_extract];lia
theorem zK {xs:Array Keyed}{a b:Nat}{y:Keyed}(h:y∈(xs.extract a b).toList):y∈xs.toList:=by
 rw[iO]at h;exact KB (LP h)
theorem merged {xs z:Array Keyed}{lo p q r hi:Nat}(h1:lo≤p)(h2:p≤q)(h3:q≤r)(h4:r≤hi)(h5:hi≤xs.size)(R:Res key (xs.extract p q) (xs.extract q r) z)(s1:Seg key xs lo q)(s2:Seg key xs q hi)
  (lo1:∀ t,lo≤t→t < p→kat key xs t≤kat key xs q) (a3:∀ t,r≤t→t < hi→kat key xs (q - 1)≤kat key xs t):(jw xs p z.toList).Perm xs∧Off xs (jw xs p z.toList) lo hi∧Seg key (jw xs p z.toList) lo hi:=by
 obtain⟨zp,zs⟩:=R;have zl:z.toList.length=r - p:=by
  have e:=zp.length_eq;simp only[I8,JI]at e ⊢;rw[mZ (by lia),mZ (by lia)]at e
  lia
 have B:p + z.toList.length≤xs.size:=by lia
 have em:xs.toList=xs.toList.take p++((xs.extract p q).toList++(xs.extract q r).toList)++xs.toList.drop (p + z.toList.length):=by
  rw[iO,iO];have a1:(xs.toList.take q).drop p++(xs.toList.take r).drop q=(xs.toList.drop p).take z.toList.length:=by
   rw[LC,LC,show z.toList.length=(q - p) + (r - q) by lia,List.take_add,L6,show p + (q - p)=q by lia]
  have a2:(xs.toList.drop p).take z.toList.length++xs.toList.drop (p + z.toList.length)=xs.toList.drop p:=by
   have:=JZ z.toList.length (xs.toList.drop p)
   rwa [L6]at this
  rw[a1,Jx,a2];exact (JZ _ _).symm
 have a0:Seg key z 0 z.size:=mr.mp zs;have G:∀ t,(t < p∨r≤t)→kat key (jw xs p z.toList) t=kat key xs t:=fun t ht=>gT (by rw[kq B,if_neg (by lia)]);have kz:∀ t,p≤t→t < r→∃ x,x∈z.toList∧(jw xs p z.toList)[t]? = some x∧z[t - p]? = some x:=fun t J O=>by
  have Y:t - p < z.toList.length:=by lia
  refine⟨z.toList[t - p],List.getElem_mem Y,?_,?_⟩
  ·rw[kq B,if_pos ⟨J,by lia⟩];exact Jy Y
  ·rw[← Ko];exact Jy Y
 have U:∀ x∈z.toList,∃ t,((p≤t∧t < q)∨(q≤t∧t < r))∧key x=kat key xs t:=fun x hx=>by
  rcases Jj.mp (zp.mem_iff.mp hx) with hx|hx
  ·rw[iO]at hx;obtain⟨t,J,O,t3,t4⟩:=f_ hx;exact⟨t,.inl ⟨J,O⟩,(aw t4).symm⟩
  ·rw[iO]at hx;obtain⟨t,J,O,t3,t4⟩:=f_ hx;exact⟨t,.inr ⟨J,O⟩,(aw t4).symm⟩
 refine⟨?_,fun t ht=>by rw[kq B,if_neg (by lia)],?_⟩
 ·rw[KC,xu B]
  conv=>rhs;rw[em]
  exact List.Perm.append_right _ (List.Perm.append_left _ zp)
 have a4:z.size=r - p:=by rw[← JI];exact zl
 clear em B zl
 intro i j x y zz;by_cases i1:i < p
 ·rw[G i (.inl i1)];by_cases j1:j < p
  ·rw[G j (.inl j1)];exact s1 i j x y (Jt j1 h2)
  ·by_cases j2:j < r
   ·obtain⟨v,v1,v2,v3⟩:=kz j (KS j1) j2;rw[aw v2];obtain⟨t,ht,et⟩:=U v v1;rw[et];rcases ht with⟨J,O⟩|⟨J,O⟩
    ·exact s1 i t x (JA (KP i1) J) O
    ·exact L3 (lo1 i x i1) (s2 q t (I_ _) J (Jt O h4))
   ·rw[G j (.inr (KS j2))];exact L3 (lo1 i x i1) (s2 q j (I_ _) (JA h3 (KS j2)) zz)
 ·have i1':=KS i1;by_cases i2:i < r
  ·obtain⟨u,u1,u2,u3⟩:=kz i i1' i2;by_cases j2:j < r
   ·obtain⟨v,v1,v2,v3⟩:=kz j (JA i1' y) j2;rw[aw u2,aw v2];have e:=a0 (i - p) (j - p) (Je _) (Nat.sub_le_sub_right y p) (by rw[a4];exact Nat.sub_lt_sub_right (JA i1' y) j2);rw[aw u3,aw v3]at e;exact e
   ·have j2':=KS j2;rw[G j (.inr j2'),aw u2];obtain⟨t,ht,et⟩:=U u u1;rw[et];rcases ht with⟨J,O⟩ | ⟨J,O⟩
    ·exact L3 (s1 t (q - 1) (JA h1 J) (Nat.le_sub_one_of_lt O) (Nat.sub_one_lt (KU (Lc (Je _) O)))) (a3 j j2' zz)
    ·exact s2 t j J (JA (KP O) j2') zz
  ·have i2':=KS i2;rw[G i (.inr i2'),G j (.inr (JA i2' y))];exact s2 i j (JA h3 i2') y zz
theorem AG {xs:Array Keyed}{lo p q r hi:Nat}(h1:lo≤p)(h2:p < q)(h3:q < r)(h4:r≤hi)(h5:hi≤xs.size)(all:∀ y∈xs.toList,y∈a₀.toList)(U:Seg key xs lo q)(Y:Seg key xs q hi)
  (up1:kat key xs q < kat key xs p) (B:kat key xs (r - 1) < kat key xs (q - 1)):Pre a₀ key (xs.extract p q) (xs.extract q r):=by
 have J:(xs.extract p q).size=q - p:=mZ (by lia);have O:(xs.extract q r).size=r - q:=mZ (by lia);refine⟨fun y G=>all y (zK G),fun y G=>all y (zK G),fun i j x y z =>?_,fun i j x y z =>?_,by lia,by lia,?_,?_⟩
 ·rw[J]at z;rw[ie (by lia) (by lia),ie (by lia) (by lia)];exact U _ _ (by lia) (by lia) (by lia)
 ·rw[O]at z;rw[ie (by lia) (by lia),ie (by lia) (by lia)];exact Y _ _ (by simp) (by lia) (by lia)
 ·rw[ie (by lia) (by omega),ie (by lia) (by omega)];exact up1
 ·rw[J,O,ie (by lia) (by lia),ie (by lia) (by lia),show q + (r - q - 1)=r - 1 by lia,show p + (q - p - 1)=q - 1 by lia];exact B
theorem E2 (L:dQ prog w A E s a₀ κ key){st:SortSt}{Q:Bool→SortSt→Prop}(J:SB a₀ κ st){l1 l2:List Tri}{G U p B O q:Nat}(hp:(pendingOf st).toList=l1++(G,U,p)::(B,O,q)::l2)(a6:B=G + U)(h1:1≤U)(h2:1≤O)(hz:B + O≤a₀.size)
  (s1:Seg key (arrOf st) G B) (s2:Seg key (arrOf st) B (B + O))
  (h:∀ st',SB a₀ κ st'→(pendingOf st').toList=l1++(G,U + O,p)::l2→Seg key (arrOf st') G (B + O)→Off (arrOf st) (arrOf st') G (B + O)→Q true st'):wpS (model prog w) A E s (mergeAt' l1.length) Q st:=by
 rw[E3];refine Js (wpS_get ?_);obtain⟨e1,e2⟩:=EE hp;rw[e1,e2];dsimp only;have hsz:=J.size;have mem:∀ {i:Nat} {x:Keyed},(arrOf st)[i]? = some x→x∈a₀.toList:=fun e=>J.mem (fz e);have all:∀ y∈(arrOf st).toList,y∈a₀.toList:=fun y hy=>J.mem hy;refine Js ?_;show wpS _ _ _ _ (set _) _ _;have a0:∀ (t:SortSt) (R:PUnit→SortSt→Prop),R ⟨⟩ t→wpS (model prog w) A E s (set t:StateT SortSt Sem PUnit) R st:=fun t R hr=>by
  unfold wpS;rw[StateT.run_set];exact Jp ⟨rfl,hr⟩
 refine a0 _ _ ?_;have pn:=Cn (c:=(G,U + O,p)) hp;generalize hP:((pendingOf st).setIfInBounds l1.length (G,U + O,p)).eraseIdxIfInBounds (l1.length + 1)=P at pn ⊢;have f1:(arrOf st)[B]? = some (arrOf st)[B]:=Jf (by omega);refine Js (du f1 (Js (gz L (st:=gG st P) J.kind (mem f1) all (by lia) (by assumption) (by rw[← a6];exact s1) fun k k1 k2 k3 =>?_)));dsimp only;have lo1:∀ t,G≤t→t < G + k→kat key (arrOf st) t≤kat key (arrOf st) B:=fun t t1 t2=>by
  have:=k2 (t - G) (by lia)
  unfold aT at this;rw[if_neg (by decide),show G + (t - G)=t by lia,← aw (key:=key) f1]at this
  have:¬ kat key (arrOf st) B < kat key (arrOf st) t:=by simpa using this
  lia
 have up1:∀ t,G + k≤t→t < B→kat key (arrOf st) B < kat key (arrOf st) t:=fun t t1 t2=>by
  have:=k3 (t - G) (by lia) (by lia)
  unfold aT at this;rw[if_neg (by decide),show G + (t - G)=t by lia,← aw (key:=key) f1]at this
  have:kat key (arrOf st) B < kat key (arrOf st) t:=by simpa using this
  exact this
 have B1:SB a₀ κ (gG st P):=⟨J.perm,J.kind,J.ok⟩;by_cases c1:U - k=0
 ·rw[if_pos (by simpa using c1)];refine JF (h _ B1 pn (fun i j x y z =>?_) (Off.refl _ _ _));show kat key (arrOf st) i≤kat key (arrOf st) j;by_cases a1:j < B
  ·exact s1 i j x y a1
  ·by_cases a2:B≤i
   ·exact s2 i j a2 y z
   ·have:=lo1 i x (by lia)
    have:=s2 B j (I_ _) (by lia) z
    lia
 ·rw[if_neg (by simpa using c1)];have f2:(arrOf st)[G + k + (U - k) - 1]? = some (arrOf st)[B - 1]:=by
   rw[show G + k + (U - k) - 1=B - 1 by lia];exact Jf (by omega)
  have f3:(arrOf st)[B - 1]? = some (arrOf st)[B - 1]:=Jf (by omega);refine Js (du f2 (Js (gz L (st:=gG st P) J.kind (mem f2) all (by lia) (by lia) s2 fun m m1 m2 m3 =>?_)));dsimp only;have a7:∀ t,B≤t→t < B + m→kat key (arrOf st) t < kat key (arrOf st) (B - 1):=fun t t1 t2=>by
   have:=m2 (t - B) (by lia)
   unfold aT at this;rw[if_pos rfl,show B + (t - B)=t by lia,← aw (key:=key) f3]at this;exact JB this
  have a3:∀ t,B + m≤t→t < B + O→kat key (arrOf st) (B - 1)≤kat key (arrOf st) t:=fun t t1 t2=>by
   have:=m3 (t - B) (by lia) (by lia)
   unfold aT at this;rw[if_pos rfl,show B + (t - B)=t by lia,← aw (key:=key) f3]at this
   have:=Lb this
   lia
  by_cases c2:m=0
  ·rw[if_pos (by simpa using c2)];refine JF (h _ B1 pn (fun i j x y z =>?_) (Off.refl _ _ _));show kat key (arrOf st) i≤kat key (arrOf st) j;by_cases a1:j < B
   ·exact s1 i j x y a1
   ·by_cases a2:B≤i
    ·exact s2 i j a2 y z
    ·have:=s1 i (B - 1) x (by lia) (by lia)
     have:=a3 j (by lia) z
     lia
  ·rw[if_neg (by simpa using c2)];have o1:G≤G + k:=LL _ _;have o2:G + k < B:=by lia
   have o3:B < B + m:=by lia
   have o4:B + m≤B + O:=by lia
   have o5:B + O≤(arrOf st).size:=by lia
   have PR:Pre a₀ key ((arrOf st).extract (G + k) B) ((arrOf st).extract B (B + m)):=AG o1 o2 o3 o4 o5 all s1 s2 (up1 _ (I_ _) o2) (a7 _ (Nat.le_sub_one_of_lt o3) (Nat.sub_one_lt (KU (Lc (Je _) o3))));have fin:∀ (z:Array Keyed) (g':Nat),Res key ((arrOf st).extract (G + k) B) ((arrOf st).extract B (B + m)) z →
     wpS (model prog w) A E s (do
      modify fun st=>setArr st (jw (arrOf st) (G + k) z.toList)
      let st ← get
      pure (failedOf st).isNone:StateT SortSt Sem Bool) Q (bc (gG st P) g'):=fun z g' hz=>by
    obtain⟨Y,a4,a5⟩:=merged o1 (KP o2) (KP o3) o4 o5 hz s1 s2 lo1 a3;refine Js (wpS_modify (Js (wpS_get (JF ?_))));have a8:(failedOf (setArr (bc (gG st P) g') (jw (arrOf st) (G + k) z.toList))).isNone=true:=by
     show (failedOf st).isNone=true;rw[J.ok];rfl
    show Q (failedOf (setArr (bc (gG st P) g') (jw (arrOf st) (G + k) z.toList))).isNone _;rw[a8];exact h _ ⟨Y.trans J.perm,J.kind,J.ok⟩ pn a5 a4
   split
   ·exact Js (Hz L (st:=gG st P) J.kind PR fun z g' hz=>fin z g' hz)
   ·exact Js (HS L (st:=gG st P) J.kind PR fun z g' hz=>fin z g' hz)
end
section
variable {w:World}
abbrev So:=Option Unit × Unit
def Du (size pw:Nat):StateT SortSt Sem So :=
 forIn [0:size] ((none,()):So) fun _ _=>do
  let st ← get
  match (if (pendingOf st).size > 1 then (pendingOf st)[(pendingOf st).size - 2]? else none) with
  | some (_,_,older)=>if older≤pw then pure (.done (none,())) else do
    let b ← mergeAt' ((pendingOf st).size - 2)
    if (!b)=true then pure (.done (some (),())) else pure (.yield (none,()))
  | _=>pure (.done (none,()))
def pK (lo n:Nat):StateT SortSt Sem (ForInStep (Option Unit × Nat)):=do
 modify fun st=>gG st ((pendingOf st).push (lo,n,0))
 pure (.yield (none,lo + n))
def pJ (size lo n:Nat):StateT SortSt Sem (ForInStep (Option Unit × Nat)):=do
 let st ← get
 match (pendingOf st).back? with
 | some (s1,n1,_)=>do
  let q ← Du size (power' size (2 * s1 + n1) (2 * s1 + n1 + n1 + n) size)
  match q.1 with
  | some v=>pure (.done (some v,lo))
  | none=>do
   modify fun st=>gG st ((pendingOf st).modify ((pendingOf st).size - 1) fun (a,b,_)=>(a,b,power' size (2 * s1 + n1) (2 * s1 + n1 + n1 + n) size))
   pK lo n
 | _=>pK lo n
def qZ (size minrun:Nat)(r:Option Unit × Nat):StateT SortSt Sem (ForInStep (Option Unit × Nat)) :=
 if r.2 ≥ size then pure (.done (none,r.2)) else do
  let z ← countRun' r.2 (size - r.2)
  match z with
  | some found =>
   if found < minrun then do
    liftM (rule "list.sort.binary-insertion")
    let b ← binarySort' r.2 (min (size - r.2) minrun) found
    if (!b)=true then pure (.done (some (),r.2)) else pJ size r.2 (min (size - r.2) minrun)
   else pJ size r.2 found
  | _=>pure (.done (some (),r.2))
def yj (p:Array Tri):Nat:=if (if p.size - 2 > 0 then p[p.size - 2 - 1]?.map (·.2.1) else none).any (· < (p[p.size - 2 + 1]?.elim 0 (·.2.1))) then p.size - 2 - 1 else p.size - 2
def CY (size:Nat):StateT SortSt Sem So :=
 forIn [0:size] ((none,()):So) fun _ _=>do
  let st ← get
  if (pendingOf st).size≤1 then pure (.done (none,())) else do
   let b ← mergeAt' (yj (pendingOf st))
   if (!b)=true then pure (.done (some (),())) else pure (.yield (none,()))
theorem Eh:sortRuns'=(do
  let st ← get
  let r ← forIn [0:(arrOf st).size] ((none,0):Option Unit × Nat) fun _ r=>qZ (arrOf st).size (minRun' (arrOf st).size (arrOf st).size 0) r
  match r.1 with
  | some v=>pure v
  | none=>do
   let q ← CY (arrOf st).size
   match q.1 with
   | some v=>pure v
   | none=>pure ()):=by kernel_rfl
def b_ (key:Keyed→Int)(xs:Array Keyed):Nat→List Tri→Nat→Prop
 | a,[],e=>a=e
 | a,t::r,e=>t.1=a∧1≤t.2.1∧Seg key xs a (a + t.2.1)∧b_ key xs (a + t.2.1) r e
theorem b_.le:∀ {l:List Tri} {a e:Nat},b_ key xs a l e→a + l.length≤e
 | [],a,e,h=>by have:a=e:=h;simp;lia
 | t::r,a,e,h=>by
  obtain⟨_,h1,_,h2⟩:=h
  have:=b_.le h2
  simp;lia
theorem iG:∀ {l1:List Tri} {a:Nat},b_ key xs a (l1++l2) e↔∃ m,b_ key xs a l1 m∧b_ key xs m l2 e
 | [],a=>⟨fun h=>⟨a,rfl,h⟩,fun⟨m,h1,h2⟩=>by have:a=m:=h1;subst this;exact h2⟩
 | t::r,a=>by
  constructor
  ·rintro⟨h1,h2,B,O⟩;obtain⟨m,G,J⟩:=iG.mp O;exact⟨m,⟨h1,h2,B,G⟩,J⟩
  ·rintro⟨m,⟨h1,h2,B,G⟩,J⟩;exact⟨h1,h2,B,iG.mpr ⟨m,G,J⟩⟩
theorem b_.same:∀ {l:List Tri} {a e:Nat},b_ key xs a l e→(∀ t,a≤t→t < e→ys[t]? = xs[t]?)→b_ key ys a l e
 | [],a,e,h,_=>h
 | t::r,a,e,h,g=>by
  obtain⟨h1,h2,G,B⟩:=h;have J:=B.le;refine⟨h1,h2,fun i j x y z =>?_,b_.same B fun t x y=>g t (by lia) y⟩;rw[gT (g i x (by lia)),gT (g j (by lia) (by lia))];exact G i j x y z
theorem b_.alike:∀ {l l':List Tri} {a e:Nat},b_ key xs a l e→l'.map (fun t=>(t.1,t.2.1))=l.map (fun t=>(t.1,t.2.1))→b_ key xs a l' e
 | [],[],_,_,h,_=>h
 | [],_::_,_,_,_,g=>by simp at g
 | _::_,[],_,_,_,g=>by simp at g
 | t::r,t'::r',a,e,h,g=>by
  obtain⟨h1,h2,G,J⟩:=h;rw[Jl,Jl,List.cons.injEq,Prod.mk.injEq]at g;obtain⟨⟨O,B⟩,U⟩:=g;exact⟨by rw[O];exact h1,by rw[B];exact h2,by rw[B];exact G,by rw[B];exact b_.alike J U⟩
theorem F1 (h:i + 1 < l.length):∃ l1 a b l2,l=l1++a::b::l2∧l1.length=i:=by
 refine⟨l.take i,l[i],l[i + 1],l.drop (i + 2),?_,by rw[JO];lia⟩;have B:l.drop i=l[i]::l.drop (i + 1):=J0 (by omega);have G:l.drop (i + 1)=l[i + 1]::l.drop (i + 2):=J0 h;rw[← G,← B,JZ]
theorem FK (L:dQ prog w A E s a₀ κ key){st:SortSt}(hB:SB a₀ κ st)(T:b_ key (arrOf st) 0 (pendingOf st).toList e)(he:e≤a₀.size)(hi:i + 1 < (pendingOf st).size)
  (h:∀ B,SB a₀ κ B→b_ key (arrOf B) 0 (pendingOf B).toList e→(pendingOf B).size + 1=(pendingOf st).size→Off (arrOf st) (arrOf B) 0 e→Q true B):wpS (model prog w) A E s (mergeAt' i) Q st:=by
 obtain⟨l1,⟨sa,na,p⟩,⟨sb,nb,q⟩,l2,G,rfl⟩:=F1 (l:=(pendingOf st).toList) (i:=i) (by simpa using hi);have T':=T;rw[G]at T';obtain⟨m,T1,⟨Y,a2,a3,b1,b2,b3,J⟩⟩:=iG.mp T';have O:=J.le;have a0:=T1.le;dsimp only at Y a2 a3 b1 b2 b3 J O;subst Y;subst b1;refine E2 L hB G rfl a2 b2 (by lia) a3 b3 fun B B' P' S' U =>?_;have sz:(pendingOf B).size + 1=(pendingOf st).size:=by
  rw[← JI,← JI,P',G];simp;rfl
 refine h B B' ?_ sz fun t ht=>U t (by lia);rw[P'];refine iG.mpr ⟨sa,T1.same fun t x y=>U t (.inl y),rfl,by dsimp only;lia,?_,?_⟩
 ·dsimp only;rw[← Nat.add_assoc];exact S'
 ·dsimp only;rw[← Nat.add_assoc];exact J.same fun t x y=>U t (.inr x)
theorem Fc (L:dQ prog w A E s a₀ κ key){st:SortSt}(Y:SB a₀ κ st)(T:b_ key (arrOf st) 0 (pendingOf st).toList e)(he:e≤a₀.size)(hp:1≤(pendingOf st).size)
  (h:∀ B,SB a₀ κ B→b_ key (arrOf B) 0 (pendingOf B).toList e→1≤(pendingOf B).size→Off (arrOf st) (arrOf B) 0 e→Q (none,()) B):wpS (model prog w) A E s (Du size pw) Q st:=by
 unfold Du;refine wpS_forRange (I:=fun _ c B=>c=(none,())∧SB a₀ κ B∧b_ key (arrOf B) 0 (pendingOf B).toList e∧1≤(pendingOf B).size∧Off (arrOf st) (arrOf B) 0 e) ?step ?fin ⟨rfl,Y,T,hp,Off.refl _ _ _⟩
 case fin =>
  rintro c B ⟨rfl,G,J,U,O⟩;exact h B G J U O
 case step =>
  rintro t c B _ _ ⟨rfl,G,J,U,O⟩;refine Js (wpS_get ?_);by_cases g:(pendingOf B).size > 1
  ·rw[if_pos g,Jf (show (pendingOf B).size - 2 < (pendingOf B).size by lia)];dsimp only
   split
   ·exact JF (h B G J U O)
   ·refine Js (FK L G J he (by lia) fun a0 B2 T2 P2 O2 =>?_);rw[if_neg (by decide)];exact JF ⟨rfl,B2,T2,by lia,O.trans O2⟩
  ·rw[if_neg g];exact JF (h B G J U O)
theorem qJ {st:SortSt}{lo n:Nat}(B:SB a₀ κ st)(T:b_ key (arrOf st) 0 (pendingOf st).toList lo)(h1:1≤n)(G:Seg key (arrOf st) lo (lo + n))
  (h:∀ st',SB a₀ κ st'→b_ key (arrOf st') 0 (pendingOf st').toList (lo + n)→Q (.yield (none,lo + n)) st'):wpS (model prog w) A E s (pK lo n) Q st:=by
 unfold pK;refine Js (wpS_modify (JF (h _ ⟨B.perm,B.kind,B.ok⟩ ?_)));show b_ key (arrOf st) 0 ((pendingOf st).push (lo,n,0)).toList (lo + n);rw[Array.toList_push];exact iG.mpr ⟨lo,T,rfl,h1,G,rfl⟩
theorem qI (L:dQ prog w A E s a₀ κ key){st:SortSt}{lo n size:Nat}(J:SB a₀ κ st)(T:b_ key (arrOf st) 0 (pendingOf st).toList lo)(hz:lo + n≤a₀.size)(h1:1≤n)(O:Seg key (arrOf st) lo (lo + n))
  (h:∀ B,SB a₀ κ B→b_ key (arrOf B) 0 (pendingOf B).toList (lo + n)→Q (.yield (none,lo + n)) B):wpS (model prog w) A E s (pJ size lo n) Q st:=by
 unfold pJ;refine Js (wpS_get ?_);cases hb:(pendingOf st).back? with
 | none=>exact qJ J T h1 O h
 | some t =>
  obtain⟨s1,n1,p1⟩:=t;dsimp only;have ne:1≤(pendingOf st).size:=by
   rcases LZ (pendingOf st).size with e|e
   ·have:pendingOf st = #[]:=Array.eq_empty_of_size_eq_zero e
    rw[this]at hb;cases hb
   ·exact e
  refine Js (Fc L J T (by lia) ne fun B G Y P' U =>?_);dsimp only;refine Js (wpS_modify ?_);refine qJ (key:=key) (a₀:=a₀) (κ:=κ) ⟨G.perm,G.kind,G.ok⟩ ?_ h1 (fun i j x y z =>?_) h
  ·show b_ key (arrOf B) 0 ((pendingOf B).modify ((pendingOf B).size - 1) _).toList lo;refine Y.alike ?_;rw[Array.toList_modify];refine Ma fun k =>?_;rw[JL,JL,List.getElem?_modify]
   split
   ·cases (pendingOf B).toList[k]?<;>rfl
   ·cases (pendingOf B).toList[k]?<;>rfl
  ·show kat key (arrOf B) i≤kat key (arrOf B) j;rw[gT (U i (.inr x)),gT (U j (.inr (by lia)))];exact O i j x y z
theorem EW (L:dQ prog w A E s a₀ κ key){st:SortSt}{lo G:Nat}(J:SB a₀ κ st)(T:b_ key (arrOf st) 0 (pendingOf st).toList lo)(a0:lo≤a₀.size)
  (hd:a₀.size≤lo→Q (.done (none,lo)) st) (h:∀ B lo',lo < lo'→lo'≤a₀.size→SB a₀ κ B→b_ key (arrOf B) 0 (pendingOf B).toList lo'→Q (.yield (none,lo')) B):wpS (model prog w) A E s (qZ a₀.size G (none,lo)) Q st:=by
 unfold qZ;dsimp only;by_cases e:lo ≥ a₀.size
 ·rw[if_pos e];exact JF (hd e)
 ·rw[if_neg e];refine Js (F4 L J (by lia) (by lia) fun k xs k1 k2 O ho hs =>?_);dsimp only;have T1:b_ key xs 0 (pendingOf st).toList lo:=T.same fun t x y=>ho t (.inl y);by_cases c:k < G
  ·rw[if_pos c];refine Js (wpS_lift (wpAny_rule ⟨rfl,?_⟩));refine Js (GD L (st:=setArr st xs) (J.set O) (by lia) (by lia) hs fun ys yp yo U =>?_);rw[if_neg (by decide)];refine qI L (st:=setArr st ys) (J.set (yp.trans O)) ?_ (by lia) (by lia) U fun B Y T'=>h B _ (by lia) (by lia) Y T';exact T1.same fun t x y=>yo t (.inl y)
  ·rw[if_neg c];exact qI L (st:=setArr st xs) (J.set O) T1 (by lia) k1 hs fun B Y T'=>h B _ (by lia) (by lia) Y T'
theorem AZ (h:1 < p.size):yj p + 1 < p.size:=by
 unfold yj;by_cases g:p.size - 2 > 0
 ·have e:∀ (c:Bool),(if c=true then p.size - 2 - 1 else p.size - 2) + 1 < p.size:=fun c=>by cases c<;>simp<;>omega
  exact e _
 ·rw[if_neg (show ¬ ((if p.size - 2 > 0 then p[p.size - 2 - 1]?.map (·.2.1) else none).any (· < (p[p.size - 2 + 1]?.elim 0 (·.2.1))))=true by rw[if_neg g];simp)]
  lia
theorem EY (L:dQ prog w A E s a₀ κ key){st:SortSt}(O:SB a₀ κ st)(T:b_ key (arrOf st) 0 (pendingOf st).toList a₀.size)
  (h:∀ B,SB a₀ κ B→Seg key (arrOf B) 0 a₀.size→Q (none,()) B):wpS (model prog w) A E s (CY a₀.size) Q st:=by
 unfold CY;have fin:∀ B,SB a₀ κ B→b_ key (arrOf B) 0 (pendingOf B).toList a₀.size→(pendingOf B).size≤1→Q (none,()) B:=fun B J G h1=>by
  refine h B J fun i j x y z =>?_;cases hl:(pendingOf B).toList with
  | nil =>
   rw[hl]at G
   have:0=a₀.size:=G
   lia
  | cons t r =>
   have U:r=[]:=by
    have:=Jz List.length hl
    rw[JI,Jv]at this;exact List.length_eq_zero_iff.mp (by lia)
   rw[hl,U]at G;obtain⟨h2,h3,Y,h5⟩:=G;have h5':0 + t.2.1=a₀.size:=h5;exact Y i j x y (by lia)
 refine wpS_forRange (I:=fun t c B=>c=(none,())∧SB a₀ κ B∧b_ key (arrOf B) 0 (pendingOf B).toList a₀.size∧((pendingOf B).size≤1∨(pendingOf B).size + t≤a₀.size)) ?step ?fin ⟨rfl,O,T,.inr (by have:=T.le;rw[JI]at this;lia)⟩
 case fin =>
  rintro c B ⟨rfl,J,G,P'⟩;exact fin B J G (by lia)
 case step =>
  rintro t c B _ _ ⟨rfl,J,G,P'⟩;refine Js (wpS_get ?_);by_cases g:(pendingOf B).size≤1
  ·rw[if_pos g];exact JF (fin B J G g)
  ·rw[if_neg g];refine Js (FK L J G (I_ _) (AZ (by lia)) fun a0 B2 T2 P2 O2 =>?_);rw[if_neg (by decide)];exact JF ⟨rfl,B2,T2,by lia⟩
theorem yX (L:dQ prog w A E s a₀ κ key){st:SortSt}(hB:SB a₀ κ st)(hp:pendingOf st = #[])
  (h:∀ B,SB a₀ κ B→Seg key (arrOf B) 0 a₀.size→Q () B):wpS (model prog w) A E s sortRuns' Q st:=by
 rw[Eh];refine Js (wpS_get ?_);rw[hB.size];refine Js (LY (wpS_forRange (I:=fun t c B=>∃ lo,c=(none,lo)∧t≤lo∧lo≤a₀.size∧SB a₀ κ B∧b_ key (arrOf B) 0 (pendingOf B).toList lo)
  (Q:=fun c B=>c=(none,a₀.size)∧SB a₀ κ B∧b_ key (arrOf B) 0 (pendingOf B).toList a₀.size) ?step ?fin ⟨0,rfl,I_ _,Je _,hB,by rw[hp];rfl⟩) ?post)
 case fin =>
  rintro c B ⟨lo,rfl,h1,h2,G,J⟩;have e:lo=a₀.size:=by lia
  subst e;exact⟨rfl,G,J⟩
 case step =>
  rintro t c B _ _ ⟨lo,rfl,h1,h2,G,J⟩;refine EW L G J h2 (fun e =>?_) fun O U g1 g2 Y T2=>⟨U,rfl,by lia,g2,Y,T2⟩;have e':lo=a₀.size:=by lia
  subst e';exact⟨rfl,G,J⟩
 case post =>
  rintro c B ⟨rfl,G,J⟩;dsimp only;exact Js (EY L G J fun O Y S2=>JF (h O Y S2))
end
end Tim
end
section
open Lean in
local macro_rules
 | `(∃ $bs:explicitBinders, $b) =>do
  let r:=bs.raw[0]
  let gs:=if r.getKind == ``Lean.unbracketedExplicitBinders then #[(r[0].getArgs,if r[1].isNone then none else some r[1][1])] else r.getArgs.map fun g=>(g[1].getArgs,some g[3])
  let mut cs := #[]
  let mut c:=b.raw
  while c.getKind == `«term_∧_» do
   cs:=cs.push c[0]
   c:=c[2]
  cs:=cs.push c
  let n:=(gs.map (·.1.size)).sum
  if !([(1,4),(1,5),(2,2),(2,3),(2,4),(2,5),(2,6),(3,1),(3,2),(3,3),(3,4),(3,5),(3,6),(4,1),(4,4),(4,5),(4,6),(4,7),(5,4),(5,5),(5,6),(6,6),(6,9),(17,4)].contains (n,cs.size)) || (cs[0]!.getKind.toString.splitOn "inder").length > 1 || gs.any (fun g=>g.1.any fun x => !x[0].isIdent) then Macro.throwUnsupported
  let mut fs:Array Term := #[]
  for q in cs do
   let mut f:Term:=⟨q⟩
   for g in gs.reverse do
    for x in g.1.reverse do
     let i:Ident:=⟨x[0]⟩
     f ← match g.2 with
      | some t => `(fun ($i : $(⟨t⟩)) => $f)
      | none => `(fun $i => $f)
   fs:=fs.push f
  `($(mkCIdent (.str `L2 s!"EX{n}_{cs.size}")) $fs*)
noncomputable section
open PySem.W(Frag codeIn excIn findIn fnOf hideAll_get hideAll_none instObj keepIn kia_one kitOne lookIn methodObj mg_none_of mg_of nsIn subIn)
namespace L2
open PySem PySem.Spec PyProof.Rows
abbrev Mg9:=Str→Option Value
abbrev Pn9:=List (Addr × Obj)
abbrev LN9:=List (List Nat)
abbrev EV9:=Value→Shared→Prop
abbrev OV9:=Option Value
abbrev LV9:=List Value
abbrev AS9:=List (Addr × Str)
abbrev II9:=Int→Int→Prop
abbrev Sh9:=Shared
abbrev Pg9:=Program
abbrev Wd9:=World
abbrev Fd9:=FuncData
open Lean in
local macro_rules
 | `(#check $s:str) =>return mkNullNode (← (s.getString.splitOn " ").toArray.mapM fun w=>do
  let n:=w.toNat!/100
  let v:=fun s n=>(Array.range n).map fun i=>mkIdent (.mkSimple s!"{s}{i}")
  let a:=v "a" n
  let p:=v "p" (w.toNat!%100)
  let x:=v "x" n
  let b ← (x.zip a).mapM fun (x,a)=>`(bracketedBinder|($x : $a))
  let h ← p.mapM fun p=>`(bracketedBinder|(_ : $p $x*))
  let t ← a.foldrM (fun a t=>`($a→$t)) (← `(Prop))
  `(inductive $(mkIdent (.mkSimple s!"EX{n}_{p.size}")) {$a* : Type} ($p* : $t) : Prop | $(mkIdent `mk):ident $b* $h*))
#check "104 105 202 203 204 205 206 301 302 303 304 305 306 401 404 405 406 407 504 505 506 606 609 1704"
end L2
namespace L2
open PySem PySem.Spec PyProof.Rows
variable {H:Hp}{X:Cx}{s:Sh9}{pos:Pos}{prog:Pg9}{A:Around}{K:Frag}
abbrev Key:=Sum Int Str
def mP:Key→Value→Bool
 | .inl k,v=>Value.isInt k v
 | .inr x,v=>Value.isStrOf x v
def IH (w:Wd9):Key→Int
 | .inl k=>hashInt k
 | .inr x=>hashStr w x
theorem bN:∀ {k:Key} {v:Value},mP k v=true→(∃ i t,k=Sum.inl i∧v=Value.int i t)∨(∃ x t,k=Sum.inr x∧v=Value.str x t)
 | .inl i,v,h=>by
  obtain⟨t,e⟩:=Value.isInt_shape (k:=i) (v:=v) h;exact .inl ⟨i,t,rfl,e⟩
 | .inr x,v,h=>by
  obtain⟨t,e⟩:=Value.isStrOf_shape (x:=x) (v:=v) h;exact .inr ⟨x,t,rfl,e⟩
theorem Ba (i:Int)(t:Tok):mP (.inl i) (.int i t)=true:=by simp[mP,Value.isInt]
theorem A_ (x:Str)(t:Tok):mP (.inr x) (.str x t)=true:=by simp[mP,Value.isStrOf]
theorem GC (a b:Int):decide ((Sum.inl a:Key)=Sum.inl b)=(a == b):=by
 by_cases e:a=b
 ·subst e;simp
 ·have h:¬ (Sum.inl a:Key)=Sum.inl b:=fun q=>e (Sum.inl.inj q);rw[JT h];exact (beq_eq_false_iff_ne.mpr e).symm
theorem Gz (a b:Str):decide ((Sum.inr a:Key)=Sum.inr b)=decide (a=b):=by
 by_cases e:a=b
 ·subst e;simp
 ·have h:¬ (Sum.inr a:Key)=Sum.inr b:=fun q=>e (Sum.inr.inj q);rw[JT h,JT e]
theorem GB (a:Int)(b:Str):decide ((Sum.inl a:Key)=Sum.inr b)=false:=JT (fun q=>nomatch q)
theorem GA (a:Str)(b:Int):decide ((Sum.inr a:Key)=Sum.inl b)=false:=JT (fun q=>nomatch q)
def aX (prog:Pg9)(w:Wd9):PySem.KeyKind prog w Key where
 is:=mP
 hash:=IH w
 inj:=fun v a b ha hb=>by
  rcases bN ha with⟨i,t,rfl,rfl⟩|⟨x,t,rfl,rfl⟩
  ·rcases bN hb with⟨j,u,rfl,e⟩|⟨y,u,rfl,e⟩
   ·injection e with e1 _;rw[e1]
   ·exact nomatch e
  ·rcases bN hb with⟨j,u,rfl,e⟩|⟨y,u,rfl,e⟩
   ·exact nomatch e
   ·injection e with e1 _;rw[e1]
 byValue:=fun k v h=>by
  rcases bN h with⟨i,t,rfl,rfl⟩|⟨x,t,rfl,rfl⟩<;>rfl
 pyHash:=fun hv h=>by
  rcases bN hv with⟨i,t,rfl,rfl⟩|⟨x,t,rfl,rfl⟩
  ·exact wpAny_pyHash_int h
  ·exact wpAny_pyHash_str h
 eqBool:=fun hu hv h=>by
  rcases bN hu with⟨i,t,rfl,rfl⟩|⟨x,t,rfl,rfl⟩
  ·rcases bN hv with⟨j,u,rfl,rfl⟩|⟨y,u,rfl,rfl⟩
   ·rw[GC]at h;exact wpAny_eqBool_int h
   ·rw[GB]at h;exact SeqAt.EqAt.int_str i t y u _ _ _ _ h
  ·rcases bN hv with⟨j,u,rfl,rfl⟩|⟨y,u,rfl,rfl⟩
   ·rw[GA]at h;exact SeqAt.EqAt.str_int x t j u _ _ _ _ h
   ·rw[Gz]at h;exact wpAny_eqBool_str h
 «strs» := fun k x t v h=>by
  rcases bN h with⟨i,u,rfl,e⟩|⟨y,u,rfl,e⟩
  ·exact nomatch e
  ·injection e with e1 _;subst e1;cases v<;>rfl
theorem wD (prog:Pg9)(w:Wd9)(i:Int)(t:Tok):(aX prog w).is (.inl i) (.int i t)=true:=Ba i t
theorem wC (prog:Pg9)(w:Wd9)(x:Str)(t:Tok):(aX prog w).is (.inr x) (.str x t)=true:=A_ x t
inductive V where
 | non | bl (b:Bool) | int (i:Int) | str (x:Str) | byt (b:Array UInt8) | flt (b:UInt64) | ref (a:Addr) | ty (n:String)
 deriving DecidableEq
abbrev LK9:=List (Key × V)
abbrev OW9:=Option V
def bz:V→Value→Prop
 | .non,u=>u=Value.none
 | .bl b,u=>u=Value.bool b
 | .int i,u=>∃ t,u=Value.int i t
 | .str x,u=>∃ t,u=Value.str x t
 | .byt b,u=>∃ t,u=Value.bytes b t
 | .flt b,u=>∃ t,u=Value.float b t
 | .ref a,u=>u=Value.ref a
 | .ty n,u=>u=Value.type n
abbrev br:List V→LV9→Prop:=Paired bz
theorem br.length {xs:List V}{us:LV9}(r:br xs us):xs.length=us.length:=Paired.length r
theorem br.get:∀ {xs:List V} {us:LV9} {i:Nat} {x:V},br xs us→xs[i]? = some x→∃ u,us[i]? = some u∧bz x u
 | _,_,_,_,.nil,e=>by simp at e
 | _,_,0,_,.cons r _,e=>by simp at e;subst e;exact⟨_,rfl,r⟩
 | _,_,i + 1,x,.cons _ t,e=>by
  obtain⟨u,h1,h2⟩:=br.get (i:=i) (x:=x) t (by simpa using e);exact⟨u,by simpa using h1,h2⟩
theorem br.append:∀ {xs ys:List V} {us ws:LV9},br xs us→br ys ws→br (xs++ys) (us++ws)
 | _,_,_,_,.nil,s=>s
 | _,_,_,_,.cons r t,s=>.cons r (br.append t s)
theorem br.take:∀ {xs:List V} {us:LV9} (n:Nat),br xs us→br (xs.take n) (us.take n)
 | _,_,0,_=>.nil
 | _,_,_ + 1,.nil=>.nil
 | _,_,n + 1,.cons r t=>.cons r (br.take n t)
theorem br.drop:∀ {xs:List V} {us:LV9} (n:Nat),br xs us→br (xs.drop n) (us.drop n)
 | _,_,0,r=>r
 | _,_,_ + 1,.nil=>.nil
 | _,_,n + 1,.cons _ t=>br.drop n t
def pi:OW9→OV9→Prop
 | some v,some u=>bz v u
 | none,none=>True
 | _,_=>False
def KV {κ:Type}:List (κ × V)→List (κ × Value)→Prop:=Paired fun (p:κ × V) (q:κ × Value)=>p.1=q.1∧bz p.2 q.2
def kV:Key→V
 | .inl i=>.int i
 | .inr x=>.str x
inductive HO where
 
 | lst (xs:List V)
 
 | tup (xs:List V)
 
 | dK (kvs:LK9) | dT (kvs:List (List Key × V))
 
 | set (S:Int→Bool) (n:Nat)
 
 | ins (C dx:Addr) (fs:List (Str × V))
 
 | own (x:Addr)
 
 | xd (fs:List (Str × V))
 
 | met (f x:Addr)
 
 | rng (lo hi:Int)
 
 | frz (o:Obj) (u:HO)
 
 | tbl (ps:Array Value)
 
 | ext (φ:Heap→Prop)
abbrev Hp:=Addr→Option HO
def upd (H:Hp)(a:Addr)(o:HO):Hp:=fun b=>if b=a then some o else H b
def Nw (H:Hp)(o:HO)(R:Addr→Hp→Prop):Prop:=∀ p,H p=none→R p (upd H p o)
theorem ah:upd H a o a=some o:=by unfold upd;rw[if_pos rfl]
theorem aG {H:Hp}{a b:Addr}{o:HO}(h:b≠a):upd H a o b=H b:=by unfold upd;rw[if_neg h]
theorem yL:upd (upd H a o) a u=upd H a u:=by
 funext b;unfold upd;split<;>rfl
theorem qV {H:Hp}{a b:Addr}{o u:HO}(h:H a=some o)(h':H b=some u)(d:o≠u):a≠b:=by
 intro e;subst e;rw[h]at h';exact d (Option.some.inj h')
theorem bJ {H:Hp}{a b:Addr}{o:HO}(h:H a=some o)(h':H b=none):a≠b:=by
 intro e;subst e;rw[h]at h';cases h'
section
variable (P:Pg9)(w:Wd9)
def ci (H:Hp)(h:Heap)(a:Addr):HO→Prop
 | .lst xs=>xs.length≤sizeLine∧∃ (its:LV9) (n:Nat),br xs its∧h.get? a=some { cls:=.type "list",data:=.seq its.toArray n }
 | .tup xs=>xs.length≤sizeLine∧∃ its:LV9,br xs its∧IsTup h a its.toArray
 | .dK kvs=>kvs.length≤sizeLine∧(a == sysModules)=false∧∃ vs,KV kvs vs∧h.DictOf (aX P w) a vs
 | .dT kvs=>kvs.length≤sizeLine∧(a == sysModules)=false∧∃ xs:List (List Key × Addr × Value),
   Paired (fun (p:List Key × V) (q:List Key × Addr × Value)=>p.1=q.1∧H q.2.1=some (.tup (p.1.map kV))∧bz p.2 q.2.2) kvs xs ∧
   ∃ o es ep,h.get? a=some o∧o.ExactDict∧o.data=.dict es ep∧es.toList=xs.map (entryOfKey (tupleKind (aX P w)))∧(xs.map (·.1)).Nodup
 | .set S n=>h.SetOf (intKind P w) a S n
 | .ins C dx fs=>H dx=some (.own a)∧fs.length≤1000∧dx≠a∧h.get? a=some (instObj C dx) ∧
   ∃ mA,h.Ns1 dx mA∧(∀ f,pi (fs.lookup f) (mA f))∧PySem.Within mA (fs.map (·.1))
 | .own _=>∃ o,h.get? a=some o
 | .xd fs=>∃ mA,h.Ns1 a mA∧∀ f,pi (fs.lookup f) (mA f)
 | .rng lo hi=>∃ t u v,h.get? a=some { cls:=.type "range",data:=.fields #[.int lo t,.int hi u,.int 1 v] }
 | .frz o u=>h.get? a=some o∧ci H h a u
 | .tbl ps=>h.get? a=some { cls:=.none,data:=.fields ps }
 | .met f x=>h.get? a=some (methodObj (.ref f) (.ref x))
 | .ext φ=>φ h∧(∃ o,h.get? a=some o)∧∀ h1 h2:Heap,φ h1→(∀ o,h1.get? a=some o→h2.get? a=some o)→φ h2
def HOk (H:Hp)(h:Heap):Prop:=∀ a o,H a=some o→ci P w H h a o
end
section
variable {P:Pg9}{w:Wd9}{H':Hp}{h h':Heap}{a:Addr}{o:HO}
theorem ci.lt (x:ci P w H h a o):a < h.objs.size:=by
 cases o with
 | lst xs=>obtain⟨_,_,_,_,e⟩:=x;exact Jo e
 | tup xs=>obtain⟨_,_,_,p⟩:=x;exact p.lt
 | dK kvs=>obtain⟨_,_,_,_,o,_,_,e,_⟩:=x;exact Jo e
 | dT kvs=>obtain⟨_,_,_,_,o,_,_,e,_⟩:=x;exact Jo e
 | set S n=>obtain⟨o,_,_,_,e,_⟩:=x;exact Jo e
 | ins C dx fs=>obtain⟨_,_,_,e,_⟩:=x;exact Jo e
 | own y=>obtain⟨_,e⟩:=x;exact Jo e
 | xd fs=>obtain⟨_,⟨_,_,_,e,_⟩,_⟩:=x;exact Jo e
 | rng lo hi=>obtain⟨_,_,_,e⟩:=x;exact Jo e
 | frz ob u=>obtain⟨e,_⟩:=x;exact Jo e
 | tbl ps=>exact Jo (show h.get? a=some _ from x)
 | met f y=>exact Jo (show h.get? a=some _ from x)
 | ext φ=>obtain⟨_,⟨_,e⟩,_⟩:=x;exact Jo e
theorem Paired.mapP:∀ {l₁:List α} {l₂:List β},Paired F l₁ l₂→(∀ a b,F a b→G a b)→Paired G l₁ l₂
 | _,_,.nil,_=>.nil
 | _,_,.cons r t,f=>.cons (f _ _ r) (Paired.mapP t f)
theorem ci.stay (x:ci P w H h a o)(k:∀ b u,(b=a∨H b=some (.own a))→h.get? b=some u→h'.get? b=some u)
  (G:∀ b,H b=some (.own a)→H' b=some (.own a)) (J:∀ b xs,H b=some (.tup xs)→H' b=some (.tup xs)):ci P w H' h' a o:=by
 induction o with
 | lst xs=>obtain⟨z,its,n,r,e⟩:=x;exact⟨z,its,n,r,k _ _ (.inl rfl) e⟩
 | tup xs=>obtain⟨z,its,r,B,e,c⟩:=x;exact⟨z,its,r,B,k _ _ (.inl rfl) e,c⟩
 | dK kvs=>obtain⟨z,y,vs,r,B,es,ep,e,c⟩:=x;exact⟨z,y,vs,r,B,es,ep,k _ _ (.inl rfl) e,c⟩
 | dT kvs =>
  obtain⟨z,y,xs,r,B,es,ep,e,c,O,U,Y⟩:=x;exact⟨z,y,xs,Paired.mapP r fun p q z=>⟨z.1,J _ _ z.2.1,z.2.2⟩,B,es,ep,k _ _ (.inl rfl) e,c,O,U,Y⟩
 | set S n=>obtain⟨B,es,ep,t,e,c⟩:=x;exact⟨B,es,ep,t,k _ _ (.inl rfl) e,c⟩
 | ins C dx fs =>
  obtain⟨d,z,ne,e,mA,⟨od,es,ep,e2,c⟩,r⟩:=x;exact⟨G _ d,z,ne,k _ _ (.inl rfl) e,mA,⟨od,es,ep,k _ _ (.inr d) e2,c⟩,r⟩
 | own y=>obtain⟨B,e⟩:=x;exact⟨B,k _ _ (.inl rfl) e⟩
 | xd fs=>obtain⟨mA,⟨od,es,ep,e,c⟩,r⟩:=x;exact⟨mA,⟨od,es,ep,k _ _ (.inl rfl) e,c⟩,r⟩
 | rng lo hi=>obtain⟨t,u,v,e⟩:=x;exact⟨t,u,v,k _ _ (.inl rfl) e⟩
 | frz B u ih=>obtain⟨e,q⟩:=x;exact⟨k _ _ (.inl rfl) e,ih q⟩
 | tbl ps =>
  have e:h.get? a=some { cls:=.none,data:=.fields ps }:=x;show h'.get? a=some { cls:=.none,data:=.fields ps };exact k a _ (.inl rfl) e
 | met f y =>
  have e:h.get? a=some (methodObj (.ref f) (.ref y)):=x;show h'.get? a=some (methodObj (.ref f) (.ref y));exact k a _ (.inl rfl) e
 | ext φ=>obtain⟨p,⟨o,e⟩,st⟩:=x;exact⟨st _ _ p fun o q=>k _ _ (.inl rfl) q,⟨o,k _ _ (.inl rfl) e⟩,st⟩
theorem HOk.lt (x:HOk P w H h)(e:H a=some o):a < h.objs.size:=(x a o e).lt
theorem HOk.fresh (x:HOk P w H h)(e:h.objs.size≤a):H a=none:=by
 cases q:H a with
 | none=>rfl
 | some u=>exact absurd (Jt (x.lt q) e) (KO _)
theorem HOk.kept (x:HOk P w H h)(k:∀ b u,h.get? b=some u→h'.get? b=some u):HOk P w H h':=fun a o e =>
 (x a o e).stay (fun b u _ q=>k b u q) (fun _ q=>q) fun _ _ q=>q
theorem HOk.laid (x:HOk P w H h)(k:∀ b u,h.get? b=some u→h'.get? b=some u)(G:h.objs.size≤a)(new:ci P w (upd H a o) h' a o):HOk P w (upd H a o) h':=fun b u e=>by
 have B:=x.fresh G;by_cases hb:b=a
 ·subst hb;rw[ah]at e;cases e;exact new
 ·rw[aG hb]at e;exact (x b u e).stay (fun c v _ q=>k c v q) (fun c q=>by rw[aG (bJ q B)];exact q) fun c xs q=>by rw[aG (bJ q B)];exact q
end
def Rd (H:Hp)(a:Addr)(u:HO):Prop:=H a=some u∨∃ o,H a=some (.frz o u)
theorem Rd.ok {P:Pg9}{w:Wd9}{H:Hp}{h:Heap}{a:Addr}{u:HO}(r:Rd H a u)(x:HOk P w H h):ci P w H h a u:=by
 rcases r with r|⟨o,r⟩
 ·exact x a u r
 ·obtain⟨_,q⟩:=x a _ r;exact q
def Mut:Option HO→Prop
 | some (.lst _)=>True
 | some (.dK _)=>True
 | some (.dT _)=>True
 | some (.set _ _)=>True
 | some (.ins _ _ _)=>True
 | some (.ext _)=>True
 | _=>False
section
variable {P:Pg9}{w:Wd9}{h h':Heap}{x e:Addr}{o':HO}
theorem HOk.write (ok:HOk P w H h)(J:Mut (H x))(Y:e=x∨H e=some (.own x))(k:∀ b u,b≠e→h.get? b=some u→h'.get? b=some u)(U:∃ u,h'.get? e=some u)
  (new:ci P w (upd H x o') h' x o'):HOk P w (upd H x o') h':=fun b u q=>by
 have B:∀ c y,H c=some (.own y)→c≠x:=fun c y r z=>by subst z;rw[r]at J;exact J
 have G:∀ c xs,H c=some (.tup xs)→c≠x:=fun c xs r z=>by subst z;rw[r]at J;exact J
 by_cases hb:b=x
 ·subst hb;rw[ah]at q;cases q;exact new
 ·rw[aG hb]at q;by_cases hbe:b=e
  ·have q':H b=some (.own x):=by
    rcases Y with z|z
    ·exact absurd (hbe.trans z) hb
    ·rw[hbe];exact z
   rw[q]at q';cases q';obtain⟨v,hv⟩:=U;exact⟨v,by rw[hbe];exact hv⟩
  ·refine (ok b u q).stay (fun c v O r=>k c v ?_ r) (fun c r=>by rw[aG (B c b r)];exact r) fun c xs r=>by rw[aG (G c xs r)];exact r
   rcases O with rfl|O
   ·exact hbe
   ·rintro rfl;rcases Y with z | z
    ·exact B c b O z
    ·rw[O]at z;cases z;exact hb rfl
end
structure Un (fs ex:List Addr)(H H':Hp)(h h':Heap):Prop where
 keep:∀ b o,h.get? b=some o→H b=none→b∉fs→b∉ex→h'.get? b=some o
 slot:∀ b o,h.get? b=some o→H b=none→b∈fs→b∉ex→∃ sl,h'.get? b=some { o with slots:=sl }
 free:∀ b o,h.get? b=some o→H b=none→b∉ex→H' b=none
 there:∀ b o,h.get? b=some o→b∉ex→∃ o',h'.get? b=some o'
 tups:∀ b xs,H b=some (.tup xs)→H' b=some (.tup xs)
 frzs:∀ b o u,H b=some (.frz o u)→H' b=some (.frz o u)
 tbls:∀ b ps,H b=some (.tbl ps)→∃ more,H' b=some (.tbl (ps++more))
section
variable {fs fs' ex ex':List Addr}{H1 H2:Hp}{h h1 h2 h':Heap}{a x e:Addr}{o:HO}
theorem Un.any (u:Un fs ex H H1 h h1)(q:h.get? b=some ob)(n:H b=none)(B:b∉ex):∃ sl,h1.get? b=some { ob with slots:=sl }:=by
 by_cases hb:b∈fs
 ·exact u.slot b ob q n hb B
 ·exact⟨ob.slots,u.keep b ob q n hb B⟩
theorem Un.kept (k:∀ b u,h.get? b=some u→h'.get? b=some u):Un fs ex H H h h' :=
 ⟨fun b B q _ _ _=>k b B q,fun b B q _ _ _=>⟨B.slots,k b B q⟩,fun _ _ _ n _=>n,fun b B q _=>⟨B,k b B q⟩,fun _ _ q=>q,fun _ _ _ q=>q,fun _ ps q=>⟨#[],by rw[q];simp⟩⟩
theorem Un.refl:Un fs ex H H h h:=Un.kept fun _ _ q=>q
theorem Un.laid (k:∀ b u,h.get? b=some u→h'.get? b=some u)(G:h.objs.size≤a)(B:H a=none):Un fs ex H (upd H a o) h h' where
 keep:=fun b u q _ _ _=>k b u q
 slot:=fun b u q _ _ _=>⟨u.slots,k b u q⟩
 free:=fun b u q n _=>by rw[aG (JJ (Jt (Jo q) G))];exact n
 there:=fun b u q _=>⟨u,k b u q⟩
 tups:=fun b xs q=>by rw[aG (bJ q B)];exact q
 frzs:=fun b u xs q=>by rw[aG (bJ q B)];exact q
 tbls:=fun b ps q=>⟨#[],by rw[aG (bJ q B),q];simp⟩
theorem Un.write (B:Mut (H x))(Y:e=x∨H e=some (.own x))(k:∀ b u,b≠e→h.get? b=some u→h'.get? b=some u)(G:∃ u,h'.get? e=some u):Un fs ex H (upd H x o) h h':=by
 have O:∀ b,H b=none→b≠x:=fun b n z=>by subst z;rw[n]at B;exact B
 have U:∀ b,H b=none→b≠e:=fun b n z=>by
  subst z;rcases Y with r | r
  ·exact O b n r
  ·rw[n]at r;cases r
 have J:∀ b u,H b=some u→¬ Mut (some u)→b≠x:=fun b u q nm z=>by subst z;rw[q]at B;exact nm B
 refine⟨fun b u q n _ _=>k b u (U b n) q,fun b u q n _ _=>⟨u.slots,k b u (U b n) q⟩,fun b u q n _=>by rw[aG (O b n)];exact n,fun b u q _ =>?_,
  fun b xs q=>by rw[aG (J b _ q fun z=>z)];exact q,fun b u xs q=>by rw[aG (J b _ q fun z=>z)];exact q,fun b ps q=>⟨#[],by rw[aG (J b _ q fun z=>z),q];simp⟩⟩
 by_cases hbe:b=e
 ·subst hbe;exact G
 ·exact⟨u,k b u hbe q⟩
end
def trk (h:Heap)(H:Hp):List Addr:=(List.range h.objs.size).filter fun a=>(H a).isSome
def sy (h:Heap)(H:Hp):Heap:=PySem.W.hideAll h (trk h H)
theorem Bf (h:Heap)(H:Hp):(sy h H).objs.size=h.objs.size:=PySem.W.hideAll_size _ _
theorem Da (e:h.get? b=some o)(n:H b=none):(sy h H).get? b=some o :=
 hideAll_get _ e fun B=>by
  have q:(H b).isSome=true:=(JH.mp B).2;rw[n]at q;simp at q
theorem EO (e:(sy h H).get? b=some o):h.get? b=some o∧H b=none:=by
 have e':h.get? b=some o:=PySem.W.of_hideAll (trk h H) e;refine⟨e',?_⟩;cases q:H b with
 | none=>rfl
 | some x =>
  have B:b∈trk h H:=JH.mpr ⟨Ke.mpr (Jo e'),by simp[q]⟩;have z:(sy h H).get? b=none:=hideAll_none (trk h H) B;rw[z]at e;cases e
structure Mod (K:Frag)(mg:Mg9)(base:Heap):Prop where
 kin:K.In base
 glob:base.Ns mainGlobals mg
 blt:∃ mb,base.Ns builtinsNs mb∧∀ x:Str,x ≠ "__name__" → mb x=bootBuiltins x
 nolimit:base.NoLimit
structure Cx where
 prog:Pg9
 w:Wd9
 K:Frag
 mg:Mg9
 base:Heap
 A:Around
 N:List Str
 s₀:Sh9
 H₀:Hp
 env:Env
 outer:List Env
 stack:List Env
 ex:List Addr
 fn:Str→Bool
 calm:Bool
 pn:Pn9
 xe:EV9
def frs (l:List Env):List Addr:=l.filterMap (·.frame)
abbrev Cx.fs (X:Cx):List Addr:=frs X.outer
def Vis (sc:Scope)(x:Str):Prop:=sc.names.lookup x=some .local∨sc.names.lookup x=some .cell∨sc.names.lookup x=some .free
def Loc (sc:Scope)(x:Str):Prop:=sc.names.lookup x=some .local∨sc.names.lookup x=some .cell
def IU (env:Env)(h:Heap)(m:Mg9)(x:Str)(u:Value):Prop :=
 (env.kindOf x=some .local∧m x=some u)∨((env.kindOf x=some .cell∨env.kindOf x=some .free)∧∃ c,env.cells.lookup x=some c∧h.IsCell c (some u))
structure Cx.Ok (X:Cx):Prop where
 mod:Mod X.K X.mg X.base
 kind:X.env.scope.kind=.function
 glob:X.env.globals=mainGlobals
 blt:X.env.builtins=builtinsNs
 above:X.s₀.heap.objs.size≤X.env.locals
 inj:∀ x y c,X.env.cells.lookup x=some c→X.env.cells.lookup y=some c→x=y
 has:∀ x,(X.env.kindOf x=some .cell∨X.env.kindOf x=some .free)→∃ c,X.env.cells.lookup x=some c
 cab:∀ x c,X.fn x=true→X.env.cells.lookup x=some c→X.s₀.heap.objs.size≤c
 hd:X.calm=true→X.A.handled=none
 frames:X.A.frames=some X.stack
 stk:X.stack=X.outer∨(X.stack=X.env::X.outer∧X.env.frame=some X.env.locals)
 exf:∀ b∈X.ex,b≠X.env.locals∧∀ x c,X.env.cells.lookup x=some c→c≠b
 bs:∀ b o,X.base.get? b=some o→X.s₀.heap.get? b=some o∧X.H₀ b=none
 bsz:X.base.objs.size≤X.s₀.heap.objs.size
 noex:∀ b o,X.base.get? b=some o→b∉X.ex
 exfs:∀ b∈X.ex,b∉X.fs
 funs:X.s₀.heap.FunFrames X.base X.outer
 frf:∀ b∈X.fs,X.H₀ b=none
structure Inv (X:Cx)(pins:Pn9)(σ:List (OW9))(H:Hp)(s:Sh9):Prop where
 ok:X.Ok
 os:s.os=X.s₀.os
 bare:AllBare s.gens
 base:Un X.fs X.ex X.H₀ H X.s₀.heap s.heap
 loc:∃ m,s.heap.Ns X.env.locals m∧∀ (i:Nat) (x:Str) (v:V),X.N[i]? = some x→σ[i]? = some (some v)→Vis X.env.scope x→∃ u,bz v u∧IU X.env s.heap m x u
 cell:∀ x c,X.env.cells.lookup x=some c→∃ v,s.heap.IsCell c v
 free:H X.env.locals=none
 freeC:∀ x c,X.env.cells.lookup x=some c→H c=none
 pin:∀ p∈X.pn++pins,s.heap.get? p.1=some p.2∧H p.1=none∧p.1≠X.env.locals∧p.1∉X.fs∧∀ v,p.2.data≠.cell v
 hok:HOk X.prog X.w H s.heap
 len:σ.length=X.N.length
section
variable {pins:Pn9}{σ:List (OW9)}{H':Hp}{h':Heap}
theorem Cx.Ok.nofr (ok:X.Ok)(e:X.base.get? b=some o):b∉X.fs:=fun B=>by
 have:=(ok.funs.mem B).1
 rw[e]at this;cases this
theorem Inv.bs (I:Inv X pins σ H s):∀ b o,X.base.get? b=some o→s.heap.get? b=some o∧H b=none:=fun b o e =>
 ⟨I.base.keep b o (I.ok.bs b o e).1 (I.ok.bs b o e).2 (I.ok.nofr e) (I.ok.noex b o e),I.base.free b o (I.ok.bs b o e).1 (I.ok.bs b o e).2 (I.ok.noex b o e)⟩
theorem Inv.bk (I:Inv X pins σ H s):∀ b o,X.base.get? b=some o→s.heap.get? b=some o:=fun b o e=>(I.bs b o e).1
theorem Inv.mod (I:Inv X pins σ H s):Mod X.K X.mg X.base:=I.ok.mod
theorem Inv.kIn (I:Inv X pins σ H s):X.K.In s.heap:=I.ok.mod.kin.keeps I.bk
theorem Inv.nolimit (I:Inv X pins σ H s):s.heap.NoLimit:=I.ok.mod.nolimit.keeps I.bk
theorem Inv.lt (I:Inv X pins σ H s):X.env.locals < s.heap.objs.size:=let ⟨_,hn,_⟩:=I.loc;hn.lt
theorem Inv.sz (I:Inv X pins σ H s):X.s₀.heap.objs.size≤s.heap.objs.size:=JA I.ok.above (KP I.lt)
theorem Inv.nofs (I:Inv X pins σ H s)(h:s.heap.objs.size≤a):a∉X.fs:=fun B=>by
 obtain⟨_,o,G,_⟩:=I.ok.funs.mem B;exact absurd (Jt (Jo G) (JA I.sz h)) (KO _)
theorem Inv.cne (I:Inv X pins σ H s):∀ x c,X.env.cells.lookup x=some c→c≠X.env.locals:=fun x c e z=>by
 obtain⟨v,o,J,O⟩:=I.cell x c e;obtain⟨m,⟨o',es,ep,B,G,_⟩,_⟩:=I.loc;rw[z,B]at J;cases J;rw[G]at O;cases O
theorem Inv.funs (I:Inv X pins σ H s):s.heap.FunFrames X.base X.outer:=by
 have all:∀ (l:List Env),(∀ b∈frs l,b∈X.fs)→X.s₀.heap.FunFrames X.base l→s.heap.FunFrames X.base l:=by
  intro l
  induction l with
  | nil=>intro _ _;trivial
  | cons env r ih =>
   intro O U;obtain⟨Y,⟨L,o,B,hn,ho,hd⟩,hr⟩:=U;have G:L∈X.fs:=O L (by unfold frs;rw[Ln,B];exact Jg);obtain⟨sl,e⟩:=I.base.slot L o ho (I.ok.frf L G) G fun z=>I.ok.exfs L z G;exact⟨Y,⟨L,_,B,hn,e,hd⟩,ih (fun b J=>O b (by unfold frs;rw[Ln,B];exact Ja _ J)) hr⟩
 exact all X.outer (fun _ J=>J) I.ok.funs
theorem Inv.stack (I:Inv X pins σ H s):s.heap.FunFrames X.base X.stack:=by
 rcases I.ok.stk with e|⟨e,B⟩
 ·rw[e];exact I.funs
 ·rw[e];obtain⟨m,G,_⟩:=I.loc;refine .cons (by rw[I.ok.kind];decide) B G ?_ I.funs;exact Heap.get?_none_of_le (JA I.ok.bsz I.ok.above)
theorem Inv.stkSub (I:Inv X pins σ H s):∀ b∈frs X.stack,b∈X.env.locals::X.fs:=fun b B=>by
 rcases I.ok.stk with e|⟨e,G⟩
 ·rw[e]at B;exact Ja _ B
 ·rw[e]at B;unfold frs at B;rw[Ln,G]at B;exact B
theorem Inv.stkFree (I:Inv X pins σ H s):∀ b∈frs X.stack,H b=none:=fun b B=>by
 rcases Jr.mp (I.stkSub b B) with e|B
 ·rw[e];exact I.free
 ·obtain⟨_,o,G,_⟩:=I.ok.funs.mem B;exact I.base.free b o G (I.ok.frf b B) fun z=>I.ok.exfs b z B
theorem Inv.step {g':Array GenState}{t':Nat}{d':Drawn}{ch:List Addr}(I:Inv X pins σ H s)
  (G:∀ b∈ch,(b∈X.ex∨X.s₀.heap.objs.size≤b)∧b≠X.env.locals∧(∀ x c,X.env.cells.lookup x=some c→c≠b)∧∀ p∈X.pn++pins,p.1≠b)
  (keep:∀ b o,b≠X.env.locals→b∉X.fs→b∉ch→s.heap.get? b=some o→H b=none→h'.get? b=some o)
  (a0:∀ b o,b≠X.env.locals→b∈X.fs→b∉ch→s.heap.get? b=some o→H b=none→∃ sl,h'.get? b=some { o with slots:=sl }) (free:∀ b o,b∉ch→s.heap.get? b=some o→H b=none→H' b=none)
  (there:∀ b o,b∉ch→s.heap.get? b=some o→∃ o',h'.get? b=some o')
  (tups:∀ b xs,H b=some (.tup xs)→H' b=some (.tup xs)) (a1:∀ b o u,H b=some (.frz o u)→H' b=some (.frz o u)) (a2:∀ b ps,H b=some (.tbl ps)→∃ more,H' b=some (.tbl (ps++more)))
  (ns:∀ m,s.heap.Ns X.env.locals m→h'.Ns X.env.locals m) (a4:HOk X.prog X.w H' h') (hg:AllBare g') :
  Inv X pins σ H' { s with heap:=h',gens:=g',drawn:=d',toks:=t' }:=by
 have a3:∀ b o,X.s₀.heap.get? b=some o→b≠X.env.locals:=fun b o e=>JJ (Jt (Jo e) I.ok.above);have U:∀ b o,X.s₀.heap.get? b=some o→b∉X.ex→b∉ch:=fun b o e B hb=>by
  rcases (G b hb).1 with z|z
  ·exact B z
  ·exact absurd (Jt (Jo e) z) (KO _)
 have J:∀ x c,X.env.cells.lookup x=some c→∀ v,s.heap.IsCell c v→h'.IsCell c v:=fun x c e v ⟨o,ho,hd⟩=>by
  have O:c∉ch:=fun z=>(G c z).2.2.1 x c e rfl;by_cases hc:c∈X.fs
  ·obtain⟨sl,q⟩:=a0 c o (I.cne x c e) hc O ho (I.freeC x c e);exact⟨_,q,hd⟩
  ·exact⟨o,keep c o (I.cne x c e) hc O ho (I.freeC x c e),hd⟩
 refine⟨I.ok,I.os,hg,⟨fun b o e n hb B =>?_,fun b o e n hb B =>?_,fun b o e n B =>?_,fun b o e B =>?_,fun b xs e=>tups b xs (I.base.tups b xs e),fun b o xs e=>a1 b o xs (I.base.frzs b o xs e),fun b ps e =>?_⟩,?_,fun x c e =>?_,?_,fun x c e =>?_,fun p hp =>?_,a4,I.len⟩
 ·exact keep b o (a3 b o e) hb (U b o e B) (I.base.keep b o e n hb B) (I.base.free b o e n B)
 ·obtain⟨sl,Y⟩:=I.base.slot b o e n hb B;obtain⟨a5,e2⟩:=a0 b _ (a3 b o e) hb (U b o e B) Y (I.base.free b o e n B);exact⟨a5,e2⟩
 ·obtain⟨o',Y⟩:=I.base.there b o e B;exact free b o' (U b o e B) Y (I.base.free b o e n B)
 ·obtain⟨o',Y⟩:=I.base.there b o e B;exact there b o' (U b o e B) Y
 ·obtain⟨m1,Y⟩:=I.base.tbls b ps e;obtain⟨m2,e2⟩:=a2 b _ Y;exact⟨m1++m2,by rw[e2,Array.append_assoc]⟩
 ·obtain⟨m,hn,hl⟩:=I.loc;refine⟨m,ns m hn,fun i x v Y e2 e3 =>?_⟩;obtain⟨u,r,l⟩:=hl i x v Y e2 e3;refine⟨u,r,?_⟩;rcases l with l|⟨k,c,e,z⟩
  ·exact .inl l
  ·exact .inr ⟨k,c,e,J x c e _ z⟩
 ·obtain⟨v,z⟩:=I.cell x c e;exact⟨v,J x c e v z⟩
 ·obtain⟨m,⟨o,_,_,ho,_⟩,_⟩:=I.loc;exact free _ o (fun z=>(G _ z).2.1 rfl) ho I.free
 ·obtain⟨v,o,ho,hd⟩:=I.cell x c e;exact free c o (fun z=>(G c z).2.2.1 x c e rfl) ho (I.freeC x c e)
 ·obtain⟨e,n,ne,nf,d⟩:=I.pin p hp;have O:p.1∉ch:=fun z=>(G p.1 z).2.2.2 p hp rfl;exact⟨keep p.1 p.2 ne nf O e n,free p.1 p.2 O e n,ne,nf,d⟩
theorem Inv.un {t':Nat}(I:Inv X pins σ H s)(u:Un X.fs [] H H' s.heap h')(G:HOk X.prog X.w H' h'):Inv X pins σ H' { s with heap:=h',toks:=t' }:=by
 obtain⟨m,⟨o,es,ep,Y,r⟩,_⟩:=id I.loc;obtain⟨sl,hL⟩:=u.any Y I.free (by simp);exact I.step (g':=s.gens) (d':=s.drawn) (ch:=[]) (fun _ z=>nomatch z) (fun b o _ J _ e n=>u.keep b o e n J (by simp)) (fun b o _ J _ e n=>u.slot b o e n J (by simp)) (fun b o _ e n=>u.free b o e n (by simp)) (fun b o _ e=>u.there b o e (by simp)) u.tups u.frzs u.tbls (fun m' hm=>by
  obtain⟨o',O,U,B,r'⟩:=hm;rw[Y]at B;cases B;exact⟨_,O,U,hL,r'⟩) G I.bare
theorem Inv.call {g':Array GenState}{t':Nat}{d':Drawn}{ch:List Addr}(I:Inv X pins σ H s)(u:Un (frs X.stack) ch H H' s.heap h')(O:HOk X.prog X.w H' h')(hg:AllBare g')
  (G:∀ b∈ch,(b∈X.ex∨X.s₀.heap.objs.size≤b)∧b≠X.env.locals∧(∀ x c,X.env.cells.lookup x=some c→c≠b)∧∀ p∈X.pn++pins,p.1≠b) :
  Inv X pins σ H' { s with heap:=h',gens:=g',drawn:=d',toks:=t' }:=by
 obtain⟨m,⟨o,es,ep,ho,r⟩,_⟩:=id I.loc;obtain⟨sl,U⟩:=u.any ho I.free fun z=>(G _ z).2.1 rfl;exact I.step (ch:=ch) G (fun b o U hb B e n=>u.keep b o e n (fun z=>(Jr.mp (I.stkSub b z)).elim U hb) B) (fun b o _ _ B e n=>u.any e n B) (fun b o B e n=>u.free b o e n B) (fun b o B e=>u.there b o e B) u.tups u.frzs u.tbls (fun m' hm=>by
  obtain⟨o',Y,a0,J,r'⟩:=hm;rw[ho]at J;cases J;exact⟨_,Y,a0,U,r'⟩) O hg
theorem Inv.turned {t':Nat}{it:Addr}(I:Inv X pins σ H s)(k:∀ b o,b≠it→s.heap.get? b=some o→h'.get? b=some o)(O:H it=none)(J:it≠X.env.locals)
  (h1:it∈X.ex∨X.s₀.heap.objs.size≤it) (h2:∀ x c,X.env.cells.lookup x=some c→c≠it) (U:∀ p∈X.pn++pins,p.1≠it):Inv X pins σ H { s with heap:=h',toks:=t' }:=by
 have G:∀ b u,H b=some u→b≠it:=fun b u e z=>by rw[z,O]at e;cases e
 refine I.step (g':=s.gens) (d':=s.drawn) (ch:=[it]) (fun b Y =>?_) (fun b o _ _ B e _=>k b o (fun z=>B (by simp[z])) e) (fun b o _ _ B e _=>⟨o.slots,k b o (fun z=>B (by simp[z])) e⟩) (fun _ _ _ _ n=>n)
  (fun b o B e=>⟨o,k b o (fun z=>B (by simp[z])) e⟩) (fun _ _ e=>e) (fun _ _ _ e=>e) (fun b ps e=>⟨#[],by rw[e];simp⟩) (fun m hm =>?_) (fun b u e =>?_) I.bare
 ·have e:b=it:=by simpa using Y
  subst e;exact⟨h1,J,h2,U⟩
 ·obtain⟨o,es,ep,ho,r⟩:=hm;exact⟨o,es,ep,k _ o (Ne.symm J) ho,r⟩
 ·refine (I.hok b u e).stay (fun c v B q=>k c v ?_ q) (fun _ q=>q) fun _ _ q=>q;rcases B with z | z
  ·rw[z];exact G b u e
  ·exact G c _ z
theorem Inv.tok (I:Inv X pins σ H s)(t:Nat):Inv X pins σ H { s with toks:=t }:=I.un (h':=s.heap) (t':=t) Un.refl I.hok
theorem Inv.kept (I:Inv X pins σ H s)(k:∀ b u,s.heap.get? b=some u→h'.get? b=some u):Inv X pins σ H { s with heap:=h',toks:=t' }:=I.un (Un.kept k) (I.hok.kept k)
theorem Inv.laid (I:Inv X pins σ H s)(k:∀ b u,s.heap.get? b=some u→h'.get? b=some u)(B:s.heap.objs.size≤a)(new:ci X.prog X.w (upd H a o) h' a o):
  Inv X pins σ (upd H a o) { s with heap:=h',toks:=t' }:=I.un (Un.laid k B (I.hok.fresh B)) (I.hok.laid k B new)
theorem Inv.write (I:Inv X pins σ H s)(G:Mut (H x))(J:e=x∨H e=some (.own x))(k:∀ b u,b≠e→s.heap.get? b=some u→h'.get? b=some u)(B:∃ u,h'.get? e=some u)
  (new:ci X.prog X.w (upd H x o) h' x o):Inv X pins σ (upd H x o) { s with heap:=h',toks:=t' }:=I.un (Un.write G J k B) (I.hok.write G J k B new)
theorem Inv.weak (I:Inv X pins σ H s)(B:σ'.length=σ.length)(w:∀ (i:Nat) v,σ'[i]? = some (some v)→σ[i]? = some (some v)):Inv X pins σ' H s :=
 ⟨I.ok,I.os,I.bare,I.base,let ⟨m,hn,hl'⟩:=I.loc;⟨m,hn,fun i x v G J O=>hl' i x v G (w i v J) O⟩,I.cell,I.free,I.freeC,I.pin,I.hok,B.trans I.len⟩
theorem Inv.pins_of (I:Inv X pins σ H s)(h:∀ p∈pins',s.heap.get? p.1=some p.2∧H p.1=none∧p.1≠X.env.locals∧p.1∉X.fs∧∀ v,p.2.data≠.cell v):Inv X pins' σ H s :=
 ⟨I.ok,I.os,I.bare,I.base,I.loc,I.cell,I.free,I.freeC,fun p B=>(Jj.mp B).elim (fun z=>I.pin p (JS _ z)) (h p),I.hok,I.len⟩
theorem wz {N:List Str}(B:N.Nodup){i j:Nat}{x:Str}(a:N[i]? = some x)(b:N[j]? = some x):i=j:=by
 obtain⟨h1,G⟩:=IZ.mp a;obtain⟨h2,J⟩:=IZ.mp b;exact (List.getElem_inj B).mp (G.trans J.symm)
theorem sO {M:Model}{A:Around}{E:EV9}{i:Nat}{x:Str}{v:V}{u:Value}{Q:Unit→Sh9→Prop}(I:Inv X pins σ H s)(hN:X.N.Nodup)(hi:X.N[i]? = some x)(U:Loc X.env.scope x)(r:bz v u)
  (h:∀ s',Inv X pins (σ.set i (some v)) H s'→(∃ a,Heap.SameBut a s.heap s'.heap∧(a=X.env.locals∨X.env.cells.lookup x=some a))→Q () s') (hf:X.fn x=true∨X.env.scope.names.lookup x=some .local:=by first | exact .inl rfl | exact .inr rfl | assumption):wpAny M A (storeName X.env x u) Q E s:=by
 obtain⟨m,hn,hl⟩:=id I.loc;have a1:(X.env.scope.kind == .class || (X.env.scope.kind == .module && X.env.locals != X.env.globals))=false:=by rw[I.ok.kind];rfl
 have a2:i < σ.length:=by rw[I.len];exact (IZ.mp hi).1
 have cne:=I.cne;have G:∀ {a:Addr} {h':Heap},(∃ o,s.heap.get? a=some o∧H a=none)→Heap.SameBut a s.heap h'→HOk X.prog X.w H h':=fun {a h'} ha B b ob e=>by
  obtain⟨_,_,Y⟩:=ha;refine (I.hok b ob e).stay (fun c w' O q=>(B.2 c ?_).trans q) (fun _ q=>q) fun _ _ q=>q;rintro rfl;rcases O with rfl|O
  ·rw[Y]at e;cases e
  ·rw[Y]at O;cases O
 rcases U with hk|hk
 ·refine wpAny_storeName_local hk hn (fun h' a6 B =>?_) a1;obtain⟨oL,_,_,a7,_⟩:=id hn;refine h _ ⟨I.ok,I.os,I.bare,⟨fun b o e n hb U =>?_,fun b o e n hb U =>?_,I.base.free,fun b o e U =>?_,I.base.tups,I.base.frzs,I.base.tbls⟩,⟨_,a6,fun j y v' J e2 e3 =>?_⟩,fun y c e =>?_,I.free,I.freeC,fun p hp =>?_,G ⟨oL,a7,I.free⟩ B,by simpa using I.len⟩ ⟨_,B,.inl rfl⟩
  ·exact (B.2 b (JJ (Jt (Jo e) I.ok.above))).trans (I.base.keep b o e n hb U)
  ·obtain⟨sl,J⟩:=I.base.slot b o e n hb U;exact⟨sl,(B.2 b (JJ (Jt (Jo e) I.ok.above))).trans J⟩
  ·obtain⟨o',J⟩:=I.base.there b o e U;exact⟨o',(B.2 b (JJ (Jt (Jo e) I.ok.above))).trans J⟩
  ·by_cases hj:j=i
   ·subst hj;rw[hi]at J;cases J;rw[List.getElem?_set_self a2]at e2;cases e2;exact⟨u,r,.inl ⟨hk,by simp⟩⟩
   ·rw[List.getElem?_set_ne (Ne.symm hj)]at e2;obtain⟨u',r',q⟩:=hl j y v' J e2 e3;refine⟨u',r',?_⟩;rcases q with⟨k,e⟩ | ⟨k,c,e,z⟩
    ·refine .inl ⟨k,?_⟩
     have:y≠x:=fun e=>hj (wz hN J (e▸hi))
     simp[this,e]
    ·exact .inr ⟨k,c,e,z.sameBut B (cne y c e)⟩
  ·obtain⟨w',z⟩:=I.cell y c e;exact⟨w',z.sameBut B (cne y c e)⟩
  ·obtain⟨e,n,ne,nf,d⟩:=I.pin p hp;exact⟨(B.2 p.1 ne).trans e,n,ne,nf,d⟩
 ·have a0:X.fn x=true:=by
   rcases hf with z|z
   ·exact z
   ·rw[z]at hk;cases hk
  obtain⟨c,O⟩:=I.ok.has x (.inl hk);obtain⟨w',z⟩:=I.cell x c O;refine wpAny_storeName_cell I.ok.kind hk O z (fun h' a3 B =>?_);obtain⟨oc,a4,a5⟩:=id z;refine h { s with heap:=h' } ⟨I.ok,I.os,I.bare,⟨fun b o e n hb U =>?_,fun b o e n hb U =>?_,I.base.free,fun b o e U =>?_,I.base.tups,I.base.frzs,I.base.tbls⟩,⟨m,hn.sameBut B (Ne.symm (cne x c O)),fun j y v' J e2 e3 =>?_⟩,fun y c' e =>?_,I.free,I.freeC,fun p hp =>?_,G ⟨oc,a4,I.freeC x c O⟩ B,by simpa using I.len⟩ ⟨c,B,.inr O⟩
  ·exact (B.2 b (JJ (Jt (Jo e) (I.ok.cab x c a0 O)))).trans (I.base.keep b o e n hb U)
  ·obtain⟨sl,J⟩:=I.base.slot b o e n hb U;exact⟨sl,(B.2 b (JJ (Jt (Jo e) (I.ok.cab x c a0 O)))).trans J⟩
  ·obtain⟨o',J⟩:=I.base.there b o e U;exact⟨o',(B.2 b (JJ (Jt (Jo e) (I.ok.cab x c a0 O)))).trans J⟩
  ·by_cases hj:j=i
   ·subst hj;rw[hi]at J;cases J;rw[List.getElem?_set_self a2]at e2;cases e2;exact⟨u,r,.inr ⟨.inl hk,c,O,a3⟩⟩
   ·rw[List.getElem?_set_ne (Ne.symm hj)]at e2;obtain⟨u',r',q⟩:=hl j y v' J e2 e3;refine⟨u',r',?_⟩;rcases q with q | ⟨k,c',e,z'⟩
    ·exact .inl q
    ·refine .inr ⟨k,c',e,z'.sameBut B ?_⟩;rintro rfl;exact hj (wz hN J (I.ok.inj _ _ _ e O▸hi))
  ·by_cases hcc:c'=c
   ·subst hcc;exact⟨_,a3⟩
   ·obtain⟨w2,z2⟩:=I.cell y c' e;exact⟨w2,z2.sameBut B hcc⟩
  ·obtain⟨e,n,ne,nf,d⟩:=I.pin p hp;refine⟨(B.2 p.1 ?_).trans e,n,ne,nf,d⟩;intro q;rw[q,a4]at e;have q':oc=p.2:=Option.some.inj e;exact d w' (by rw[← q'];exact a5)
theorem vS (I:Inv X pins σ H s)(B:X.N.Nodup)(hi:X.N[i]? = some x)(G:Loc X.env.scope x)(r:bz v u)
  (h:∀ s',Inv X pins (σ.set i (some v)) H s'→Q () s') (J:X.fn x=true∨X.env.scope.names.lookup x=some .local:=by first | exact .inl rfl | exact .inr rfl | assumption):wpAny M A (storeName X.env x u) Q E s :=
 sO I B hi G r (fun s' O _=>h s' O) J
theorem Inv.call' (I:Inv X pins σ H s)(J:s'.os=s.os)(u:Un (frs X.stack) ch H H' s.heap s'.heap)(B:HOk X.prog X.w H' s'.heap)(O:AllBare s'.gens)
  (G:∀ b∈ch,(b∈X.ex∨X.s₀.heap.objs.size≤b)∧b≠X.env.locals∧(∀ x c,X.env.cells.lookup x=some c→c≠b)∧∀ p∈X.pn++pins,p.1≠b):Inv X pins σ H' s':=by
 obtain⟨h',g',d',t',o'⟩:=s';have e:o'=s.os:=J;subst e;exact I.call (g':=g') (t':=t') (d':=d') u B O G
end
abbrev XK:=Value→Option Addr→Hp→Prop
abbrev St:=List (OW9)
abbrev NS9:=Nat→St→Hp→Prop
abbrev SP9:=St→Hp→Prop
abbrev VK:=V→Hp→Prop
abbrev HV9:=Hp→VK→Prop
abbrev TE:=St→HV9
abbrev TT:=St→Hp→(Bool→Hp→Prop)→Prop
abbrev TA:=St→Hp→(List V→Hp→Prop)→Prop
structure sF where
 nx:SP9
 rt:VK
 bk:SP9:=fun _ _=>False
 ct:SP9:=fun _ _=>False
abbrev TS:=sF→SP9
def EP (X:Cx)(pins:Pn9)(σ:St)(Q:VK)(u:Value)(s':Sh9):Prop:=∃ v H',Inv X pins σ H' s'∧bz v u∧Q v H'
def TP (X:Cx)(pins:Pn9)(σ:St)(Q:Bool→Hp→Prop)(b:Bool)(s':Sh9):Prop:=∃ H',Inv X pins σ H' s'∧Q b H'
def AP (X:Cx)(pins:Pn9)(σ:St)(Q:List V→Hp→Prop)(us:LV9)(s':Sh9):Prop:=∃ vs H',Inv X pins σ H' s'∧br vs us∧Q vs H'
def SP (X:Cx)(pins:Pn9)(D:sF)(f:Flow)(s':Sh9):Prop :=
 match f with
 | .next=>∃ σ' H',Inv X pins σ' H' s'∧D.nx σ' H'
 | .brk=>∃ σ' H',Inv X pins σ' H' s'∧D.bk σ' H'
 | .cont=>∃ σ' H',Inv X pins σ' H' s'∧D.ct σ' H'
 | .ret u=>∃ v σ' H',Inv X pins σ' H' s'∧bz v u∧D.rt v H'
def PE (X:Cx)(e:Expr)(t:TE):Prop :=
 ∀ (pins:Pn9) (s:Sh9) (σ:St) (H:Hp) (Q:VK),Inv X pins σ H s→t σ H Q→wpAny (model X.prog X.w) X.A (eval e X.env) (EP X pins σ Q) X.xe s
def PT (X:Cx)(e:Expr)(t:TT):Prop :=
 ∀ (pins:Pn9) (s:Sh9) (σ:St) (H:Hp) (Q:Bool→Hp→Prop),Inv X pins σ H s→t σ H Q→wpAny (model X.prog X.w) X.A (isTrue e X.env (eval e X.env)) (TP X pins σ Q) X.xe s
def PW (X:Cx)(e:Expr)(t:TT):Prop :=
 ∀ (whole:Sem Value) (pins:Pn9) (s:Sh9) (σ:St) (H:Hp) (Q:Bool→Hp→Prop),Inv X pins σ H s→t σ H Q→wpAny (model X.prog X.w) X.A (isTrue e X.env whole) (TP X pins σ Q) X.xe s
theorem PW.pt (h:PW X e t):PT X e t:=h _
def PA (X:Cx)(es:List Expr)(t:TA):Prop :=
 ∀ (pos:Pos) (pins:Pn9) (s:Sh9) (σ:St) (H:Hp) (Q:List V→Hp→Prop),Inv X pins σ H s→t σ H Q→wpAny (model X.prog X.w) X.A (spliced (backTo pos (starEach es X.env))) (AP X pins σ Q) X.xe s
def PS (X:Cx)(st:Stmt)(t:TS):Prop :=
 ∀ (pins:Pn9) (s:Sh9) (σ:St) (H:Hp) (D:sF),Inv X pins σ H s→t D σ H→wpAny (model X.prog X.w) X.A (exec st X.env) (SP X pins D) X.xe s
def PSs (X:Cx)(st:List Stmt)(t:TS):Prop :=
 ∀ (pins:Pn9) (s:Sh9) (σ:St) (H:Hp) (D:sF),Inv X pins σ H s→t D σ H→wpAny (model X.prog X.w) X.A (execs st X.env) (SP X pins D) X.xe s
theorem thn (h:wpAny M A t Q E s)(B:∀ a s,Q a s→Q' a s):wpAny M A t Q' E s:=Kf h B fun _ _ x=>x
section
def xz (i:Nat):TE:=fun σ H Q=>match σ[i]? with | some (some v)=>Q v H | _=>False
theorem aM (h:xz i σ H Q):∃ v,σ[i]? = some (some v)∧Q v H:=by
 unfold xz at h
 split at h
 ·exact⟨_,‹_›,h⟩
 ·exact h.elim
theorem aZ (e:σ[i]? = some (some v))(h:Q v H):xz i σ H Q:=by
 unfold xz;rw[e];exact h
theorem mo (h:Q v H)(e:σ[i]? = some (some v):=by exact rfl):xz i σ H Q:=aZ e h
abbrev tC (v:V):TE:=fun _ H Q=>Q v H
theorem F_ (Y:X.N[i]? = some x)(hv:Vis X.env.scope x)(J:(x == ("__debug__" : Str))=false:=by decide)(O:(x == ("__classdict__" : Str))=false:=by decide):PE X (.Name x pos) (xz i):=by
 intro pins s σ H Q I h;obtain⟨v,e,h⟩:=aM h;obtain⟨m,hn,hl⟩:=I.loc;obtain⟨u,r,l⟩:=hl i x v Y e hv;have fin:EP X pins σ Q u s:=⟨v,H,I,r,h⟩;rcases l with⟨G,hm⟩ | ⟨G,c,U,B⟩
 ·exact wpAny_Name (wpAny_loadName_local I.ok.kind G hn hm fin) J
 ·rcases G with G|G
  ·exact wpAny_Name (wpAny_loadName_cell I.ok.kind G U B fin) J
  ·exact wpAny_Name (wpAny_loadName_free I.ok.kind G U B fin O) J
theorem ae {i j pos}:PE X (.Constant (.int i) j pos) (tC (.int i)):=fun _ _ _ H _ I h=>wpAny_Constant_int ⟨.int i,H,I.tok _,⟨_,rfl⟩,h⟩
theorem k_ {b j pos}:PE X (.Constant (.bool b) j pos) (tC (.bl b)):=fun _ _ _ H _ I h=>Constant_bool ⟨.bl b,H,I,rfl,h⟩
theorem xX {j pos}:PE X (.Constant .none j pos) (tC .non):=fun _ _ _ H _ I h=>Constant_none ⟨.non,H,I,rfl,h⟩
theorem cG {x j pos}:PE X (.Constant (.str x) j pos) (tC (.str x)):=fun _ _ _ H _ I h=>Calls.Constant_str ⟨.str x,H,I.tok _,⟨_,rfl⟩,h⟩
def Gl (X:Cx)(x:Str):Prop:=X.env.kindOf x=some .globalImplicit
theorem vg (I:Inv X pins σ H s)(B:Gl X x)(G:X.mg x=some u)(h:Q u s)
  (J:(x == ("__debug__" : Str))=false:=by decide):wpAny (model X.prog X.w) X.A (eval (.Name x pos) X.env) Q E s :=
 Calls.Name_function_global I.ok.kind B (Calls.loadGlobal_global (by rw[I.ok.glob];exact I.mod.glob.keeps I.bk) G h) J
theorem l_ (I:Inv X pins σ H s)(B:Gl X x)(G:X.mg x=none)(J:bootBuiltins x=some u)(h:Q u s)
  (O:x ≠ "__name__" := by decide) (U:(x == ("__debug__" : Str))=false:=by decide):wpAny (model X.prog X.w) X.A (eval (.Name x pos) X.env) Q E s:=by
 obtain⟨Y,h1,h2⟩:=I.mod.blt;exact Calls.Name_function_global I.ok.kind B (Calls.loadGlobal_builtin (by rw[I.ok.glob];exact I.mod.glob.keeps I.bk) G (by rw[I.ok.blt];exact h1.keeps I.bk) ((h2 x O).trans J) h) U
theorem kJ (B:Gl X x)(G:X.mg x=some u)(r:bz v u)(J:(x == ("__debug__" : Str))=false:=by decide):PE X (.Name x pos) (tC v) :=
 fun _ _ _ H _ I h=>vg I B G ⟨v,H,I,r,h⟩ J
theorem EI (B:Gl X x)(G:X.mg x=none)(J:bootBuiltins x=some u)(r:bz v u)(O:x ≠ "__name__" := by decide)(U:(x == ("__debug__" : Str))=false:=by decide):PE X (.Name x pos) (tC v) :=
 fun _ _ _ H _ I h=>l_ I B G J ⟨v,H,I,r,h⟩ O U
variable {a b:Expr}{ta tb:TE}
def ofB (Q:Bool→Prop):V→Prop | .bl c=>Q c | _=>False
theorem fC (h:ofB Q x):∃ c,x=.bl c∧Q c:=by
 cases x<;>first | exact⟨_,rfl,h⟩ | exact False.elim h
abbrev tB (t:TE):TT:=fun σ H Q=>t σ H fun x H1=>ofB (Q · H1) x
theorem eG (h:PE X e t)(B:∀ whole,isTrue e X.env whole=(do let v ← whole;standAt e.pos;holding [v] (truthy v)):=by intro _;rfl):PT X e (tB t):=by
 intro pins s σ H Q I G;refine isTrue_plain (thn (h pins s σ H _ I G) fun v U ⟨x,H1,J,O,q1⟩ =>?_) (B _);obtain⟨d,rfl,q⟩:=fC q1;cases O;exact wpAny_truthy_bool ⟨H1,J,q⟩
variable {tA tB':TT}{rest:List Expr}
abbrev Iw (t u:TT):TT:=fun σ H Q=>t σ H fun c H1=>if c=true then u σ H1 Q else Q false H1
abbrev tOr (t u:TT):TT:=fun σ H Q=>t σ H fun c H1=>if c=true then Q true H1 else u σ H1 Q
abbrev Ip (t:TT):TT:=fun σ H Q=>t σ H fun c H1=>Q (!c) H1
theorem pH (B:PT X a tA):PW X (.BoolOp .And [a] pos) tA:=by
 intro G pins s σ H Q I h;refine isTrue_and (thn (B pins s σ H Q I h) fun c J e =>?_);cases c with
 | true=>exact isTrue_and_nil e
 | false=>exact e
theorem qH (B:PT X a tA):PW X (.BoolOp .Or [a] pos) tA:=by
 intro G pins s σ H Q I h;refine isTrue_or (thn (B pins s σ H Q I h) fun c J e =>?_);cases c with
 | false=>exact isTrue_or_nil e
 | true=>exact e
theorem jV (G:PT X a tA)(J:PW X (.BoolOp .And (b::rest) pos) tB'):PW X (.BoolOp .And (a::b::rest) pos) (Iw tA tB'):=by
 intro O pins s σ H Q I h;refine isTrue_and (thn (G pins s σ H _ I h) fun c U ⟨H1,B,q1⟩ =>?_);cases c with
 | true=>exact J O pins U σ H1 Q B q1
 | false=>exact⟨H1,B,q1⟩
theorem sZ (G:PT X a tA)(J:PW X (.BoolOp .Or (b::rest) pos) tB'):PW X (.BoolOp .Or (a::b::rest) pos) (tOr tA tB'):=by
 intro O pins s σ H Q I h;refine isTrue_or (thn (G pins s σ H _ I h) fun c U ⟨H1,B,q1⟩ =>?_);cases c with
 | true=>exact⟨H1,B,q1⟩
 | false=>exact J O pins U σ H1 Q B q1
theorem eI (B:PT X a tA):PT X (.UnaryOp .Not a pos) (Ip tA):=by
 intro pins s σ H Q I h;exact isTrue_not (B pins s σ H (fun c H1=>Q (!c) H1) I h)
abbrev Hf (ta tb:TE):TE:=fun σ H Q=>ta σ H fun x H1=>∃ c,x=.bl c∧if c=true then tb σ H1 Q else Q (.bl false) H1
abbrev G_ (ta:TE):TE:=fun σ H Q=>ta σ H fun x H1=>∃ c,x=.bl c∧Q (.bl (!c)) H1
theorem xW {op}(h:PE X a t):PE X (.BoolOp op [a] pos) t:=fun pins s σ H Q I B=>BoolOp_one (h pins s σ H Q I B)
theorem xY (G:PE X a ta)(J:PE X (.BoolOp .And (b::rest) pos) tb):PE X (.BoolOp .And (a::b::rest) pos) (Hf ta tb):=by
 intro pins s σ H Q I h;refine BoolOp_and (thn (G pins s σ H _ I h) fun v O ⟨x,H1,B,U,q1⟩ =>?_);obtain⟨c,rfl,q1⟩:=q1;cases U;refine wpAny_truthy_bool ?_;cases c with
 | true=>exact J pins O σ H1 Q B q1
 | false=>exact⟨.bl false,H1,B,rfl,q1⟩
theorem Gb (B:PE X a ta):PE X (.UnaryOp .Not a pos) (G_ ta):=by
 intro pins s σ H Q I h;refine UnaryOp_ (thn (B pins s σ H _ I h) fun v O ⟨x,H1,G,J,q1⟩ =>?_);obtain⟨c,rfl,q1⟩:=q1;cases J;exact not_of (wpAny_truthy_bool ⟨.bl (!c),H1,G,rfl,q1⟩)
end
def SqL (K:Frag)(H:Hp)(a:Addr)(xs:List V):Prop :=
 Rd H a (.lst xs) ∨
  ∃ (o:Obj) (its:Array Value) (n:Nat),K.lookup a=some o∧o.cls=.type "list" ∧ o.dict=none∧o.data=.seq its n∧its.size≤sizeLine∧br xs its.toList
def SqT (K:Frag)(H:Hp)(a:Addr)(xs:List V):Prop :=
 Rd H a (.tup xs) ∨
  ∃ (o:Obj) (its:Array Value) (n:Nat),K.lookup a=some o∧o.cls=.type "tuple" ∧ o.data=.seq its n∧its.size≤sizeLine∧br xs its.toList
def IS:Value→OW9
 | .none=>some .non
 | .bool b=>some (.bl b)
 | .int i _=>some (.int i)
 | .str x _=>some (.str x)
 | .bytes b _=>some (.byt b)
 | .float b _=>some (.flt b)
 | .ref a=>some (.ref a)
 | .type n=>some (.ty n)
 | _=>none
theorem bz.abs (r:bz x u):IS u=some x:=by
 cases x with
 | non=>cases r;rfl
 | bl _=>cases r;rfl
 | int _=>obtain⟨t,rfl⟩:=r;rfl
 | str _=>obtain⟨t,rfl⟩:=r;rfl
 | byt _=>obtain⟨t,rfl⟩:=r;rfl
 | flt _=>obtain⟨t,rfl⟩:=r;rfl
 | ref _=>cases r;rfl
 | ty _=>cases r;rfl
theorem bz.inj (r:bz x u)(q:bz y u):x=y:=Option.some.inj (r.abs.symm.trans q.abs)
theorem br.inj:∀ {xs ys:List V} {us:LV9},br xs us→br ys us→xs=ys
 | _,_,_,.nil,.nil=>rfl
 | _,_,_,.cons r t,.cons r' t'=>by rw[r.inj r',br.inj t t']
section
variable {pins:Pn9}{σ:St}{a:Addr}{xs ys:List V}
theorem SqL.of {K:Frag}(h:H a=some (.lst xs)):SqL K H a xs:=.inl (.inl h)
theorem SqT.of {K:Frag}(h:H a=some (.tup xs)):SqT K H a xs:=.inl (.inl h)
theorem Inv.list (I:Inv X pins σ H s)(h:SqL X.K H a xs):∃ its:LV9,br xs its∧PlainL s.heap a its.toArray∧xs.length≤sizeLine:=by
 rcases h with h|⟨o,its,n,B,G,J,O,U,r⟩
 ·obtain⟨z,its,n,r,e⟩:=h.ok I.hok;exact⟨its,r,⟨_,n,e,rfl,rfl,rfl⟩,z⟩
 ·refine⟨its.toList,r,⟨o,n,I.kIn a o B,G,J,by simpa using O⟩,?_⟩;have e:=r.length;simp only[JI]at e
  lia
theorem Inv.tuple (I:Inv X pins σ H s)(h:SqT X.K H a xs):∃ its:LV9,br xs its∧IsTup s.heap a its.toArray∧xs.length≤sizeLine:=by
 rcases h with h|⟨o,its,n,B,G,J,O,r⟩
 ·obtain⟨z,its,r,p⟩:=h.ok I.hok;exact⟨its,r,p,z⟩
 ·refine⟨its.toList,r,⟨o,I.kIn a o B,G,n,by simpa using J⟩,?_⟩;have e:=r.length;simp only[JI]at e
  lia
theorem Inv.list_inj (I:Inv X pins σ H s)(h:SqL X.K H a xs)(h':SqL X.K H a ys):xs=ys:=by
 obtain⟨its,r,⟨o,n,e,_,_,d⟩,_⟩:=I.list h;obtain⟨its',G,⟨o',J,B,_,_,d'⟩,_⟩:=I.list h';rw[e]at B;cases B;rw[d]at d';injection d' with d1 _
 have:its=its':=by simpa using Jz Array.toList d1
 subst this;exact r.inj G
theorem Inv.tuple_inj (I:Inv X pins σ H s)(h:SqT X.K H a xs)(h':SqT X.K H a ys):xs=ys:=by
 obtain⟨its,r,⟨o,e,_,n,d⟩,_⟩:=I.tuple h;obtain⟨its',G,⟨o',B,_,J,d'⟩,_⟩:=I.tuple h';rw[e]at B;cases B;rw[d]at d';injection d' with d1 _
 have:its=its':=by simpa using Jz Array.toList d1
 subst this;exact r.inj G
end
abbrev Cx.wish (X:Cx)(E:EV9):Cx:={ X with xe:=E }
abbrev Cx.nox (X:Cx):Cx:=X.wish fun _ _=>False
theorem Cx.Ok.wish {X:Cx}(ok:X.Ok)(E:EV9):(X.wish E).Ok :=
 ⟨ok.mod,ok.kind,ok.glob,ok.blt,ok.above,ok.inj,ok.has,ok.cab,ok.hd,ok.frames,ok.stk,ok.exf,ok.bs,ok.bsz,ok.noex,ok.exfs,ok.funs,ok.frf⟩
theorem Cx.Ok.unwish {X:Cx}{E:EV9}(ok:(X.wish E).Ok):X.Ok :=
 ⟨ok.mod,ok.kind,ok.glob,ok.blt,ok.above,ok.inj,ok.has,ok.cab,ok.hd,ok.frames,ok.stk,ok.exf,ok.bs,ok.bsz,ok.noex,ok.exfs,ok.funs,ok.frf⟩
section
variable {pins:Pn9}{σ:St}{E:EV9}
theorem Inv.wish (I:Inv X pins σ H s)(E:EV9):Inv (X.wish E) pins σ H s:=⟨I.ok.wish E,I.os,I.bare,I.base,I.loc,I.cell,I.free,I.freeC,I.pin,I.hok,I.len⟩
theorem Inv.unwish (I:Inv (X.wish E) pins σ H s):Inv X pins σ H s:=⟨I.ok.unwish,I.os,I.bare,I.base,I.loc,I.cell,I.free,I.freeC,I.pin,I.hok,I.len⟩
theorem SP.unwish (h:SP (X.wish E) pins D f s'):SP X pins D f s':=by
 cases f with
 | next=>obtain⟨B,H',I,q⟩:=h;exact⟨B,H',I.unwish,q⟩
 | brk=>obtain⟨B,H',I,q⟩:=h;exact⟨B,H',I.unwish,q⟩
 | cont=>obtain⟨B,H',I,q⟩:=h;exact⟨B,H',I.unwish,q⟩
 | ret u=>obtain⟨v,B,H',I,r,q⟩:=h;exact⟨v,B,H',I.unwish,r,q⟩
theorem PSs.nox {st:List Stmt}(h:PSs X.nox st t):PSs X st t:=fun pins s σ H D I B =>
 Kf (h pins s σ H D (I.wish _) B) (fun _ _ q=>q.unwish) fun _ _ z=>False.elim z
end
section
variable {st:Stmt}{rest:List Stmt}{t u:TS}{e:Expr}{te:TE}
abbrev Ha:TS:=fun D σ H=>D.nx σ H
abbrev BN (t u:TS):TS:=fun D σ H=>t { D with nx:=u D } σ H
theorem aO:PSs X [] Ha:=fun _ _ σ H _ I h=>wpAny_execs_nil ⟨σ,H,I,h⟩
theorem ac (h1:PS X st t)(h2:PSs X rest u):PSs X (st::rest) (BN t u):=by
 intro pins s σ H D I h;refine wpAny_execs_cons (thn (h1 pins s σ H { D with nx:=u D } I h) fun f B q =>?_);cases f with
 | next =>
  obtain⟨G,H',J,q⟩:=q;exact h2 pins B G H' D J q
 | ret v=>exact q
 | brk=>exact q
 | cont=>exact q
theorem ag (h1:PS X st t):PSs X [st] t:=by
 intro pins s σ H D I h;refine wpAny_execs_cons (thn (h1 pins s σ H D I h) fun f B q =>?_);cases f with
 | next=>exact wpAny_execs_nil q
 | ret v=>exact q
 | brk=>exact q
 | cont=>exact q
theorem Inv.quiet (I:Inv X pins σ H s):interactive X.env=false:=by simp[interactive,I.ok.kind]
abbrev Hd (te:TE):TS:=fun D σ H=>te σ H fun _ H1=>D.nx σ H1
theorem ba (B:PE X e te)(G:swapsWith e none pos.line X.env=pure false:=by rfl):PS X (.Expr e pos) (Hd te):=by
 intro pins s σ H D I h;exact wpAny_Expr_any (thn (B pins s σ H _ I h) fun v O ⟨x,H1,J,U,q1⟩=>⟨σ,H1,J,q1⟩) I.quiet G
abbrev Io (te:TE):TS:=fun D σ H=>te σ H D.rt
theorem aB (B:PE X e te):PS X (.Return (some e) pos) (Io te):=by
 intro pins s σ H D I h;exact wpAny_Return_some (thn (B pins s σ H _ I h) fun v O ⟨x,H1,G,J,q1⟩=>⟨x,σ,H1,G,J,q1⟩)
abbrev Ir (c:TT)(t u:TS):TS:=fun D σ H=>c σ H fun b H1=>if b=true then t D σ H1 else u D σ H1
theorem bG (J:PT X c tc)(O:PSs X a t)(U:PSs X b u):PS X (.If c a b pos) (Ir tc t u):=by
 intro pins s σ H D I h;refine wpAny_If (thn (J pins s σ H _ I h) fun d B ⟨H1,G,q1⟩ =>?_);cases d with
 | true=>exact O pins B σ H1 D G q1
 | false=>exact U pins B σ H1 D G q1
def FX:TS:=fun _ _ _=>False
theorem qK:PS X st FX:=fun _ _ _ _ _ _ h=>h.elim
end
abbrev TG:=V→St→Hp→(SP9)→Prop
abbrev TGs:=List V→St→Hp→(SP9)→Prop
def PG (X:Cx)(target:Expr)(t:TG):Prop :=
 ∀ (pins:Pn9) (s:Sh9) (σ:St) (H:Hp) (v:V) (u:Value) (Q:SP9),Inv X pins σ H s→bz v u→t v σ H Q →
  wpAny (model X.prog X.w) X.A (assign target X.env u) (fun _ s'=>∃ σ' H',Inv X pins σ' H' s'∧Q σ' H') X.xe s
def PGs (X:Cx)(ts:List Expr)(t:TGs):Prop :=
 ∀ (pins:Pn9) (s:Sh9) (σ:St) (H:Hp) (vs:List V) (us:LV9) (Q:SP9),Inv X pins σ H s→br vs us→t vs σ H Q →
  wpAny (model X.prog X.w) X.A (assignInOrder ((assignEach ts X.env).map (·.2)) us) (fun _ s'=>∃ σ' H',Inv X pins σ' H' s'∧Q σ' H') X.xe s
section
abbrev rm (i:Nat):TG:=fun v σ H Q=>Q (σ.set i (some v)) H
theorem pQ (B:X.N.Nodup)(hi:X.N[i]? = some x)(G:Loc X.env.scope x)(J:X.fn x=true∨X.env.scope.names.lookup x=some .local:=by first | exact .inl rfl | exact .inr rfl | assumption):PG X (.Name x pos) (rm i):=by
 intro pins s σ H v u Q I r h;exact wpAny_assign_Name (vS I B hi G r (fun s' O=>⟨_,H,O,h⟩) J)
def IN:TGs:=fun vs σ H Q=>vs=[]∧Q σ H
inductive DS (t:TG)(u:TGs)(vs:List V)(σ:St)(H:Hp)(Q:SP9):Prop
 | mk (v r:_) (h_0:vs=v::r) (h_1:t v σ H fun σ' H'=>u r σ' H' Q):DS t u vs σ H Q
def HV (t:TG)(u:TGs):TGs:=fun vs σ H Q=>DS t u vs σ H Q
theorem dC:PGs X [] IN:=by
 intro pins s σ H vs us Q I r h;obtain⟨e,h⟩:=h;subst e;cases r;exact assignInOrder_nil ⟨σ,H,I,h⟩
theorem aW (h1:PG X e t)(h2:PGs X es u)
  (B:(assignEach (e::es) X.env).map (·.2)=assign e X.env::(assignEach es X.env).map (·.2):=by rfl):PGs X (e::es) (HV t u):=by
 intro pins s σ H vs us Q I r h;obtain⟨v,Y,G,h⟩:=h;subst G;cases r with
 | cons r rr =>
  rw[B];refine assignInOrder_cons (thn (h1 pins s σ H _ _ _ I r h) fun _ J ⟨O,H1,U,q1⟩ =>?_);exact h2 pins J O H1 _ _ Q U rr q1
inductive FQ (K:Frag)(n:Nat)(t:TGs)(v:V)(σ:St)(H:Hp)(Q:SP9):Prop
 | mk (a xs:_) (h_0:v=.ref a) (h_1:SqT K H a xs) (h_2:xs.length=n) (h_3:t xs σ H Q):FQ K n t v σ H Q
def HU (K:Frag)(n:Nat)(t:TGs):TG:=fun v σ H Q=>FQ K n t v σ H Q
theorem iz (O:X.calm=true)(h:PGs X es t)
  (U:(assignEach es X.env).length=n:=by rfl) (B:(assignEach es X.env).findIdx? (·.1)=none:=by rfl):PG X (.Tuple es k pos) (HU X.K n t):=by
 intro pins s σ H v u Q I r G;obtain⟨a,xs,Y,hq,hl,G⟩:=G;subst Y;cases r;obtain⟨its,J,ht,hz⟩:=I.tuple hq;refine assign_Tuple_tuple (I.ok.hd O) ht (by simp[U,← hl,J.length]) B fun h' hx =>?_;have I1:Inv X pins σ H { s with heap:=h' }:=I.kept (t':=s.toks) fun b o e=>hx b o (JJ (Jo e)) e;exact h pins _ σ H xs _ Q I1 (by simpa using J) G
abbrev BR (te:TE)(g:TG):TS:=fun D σ H=>te σ H fun x H1=>g x σ H1 D.nx
theorem xU (B:PE X e te)(G:PG X tg g)(J:swapsWithSole [tg] e pos.line X.env=pure false:=by rfl)(O:swappedStores [tg] e X.env=pure none:=by rfl)
  (h1:(assignEach [tg] X.env).map (·.2)=[assign tg X.env]:=by rfl):PS X (.Assign [tg] e pos) (BR te g):=by
 intro pins s σ H D I h;refine wpAny_Assign_stores (thn (B pins s σ H _ I h) fun v U ⟨x,H1,Y,r1,q1⟩ =>?_) J O;rw[h1];exact thn (G pins U σ H1 x v _ Y r1 q1) fun _ s2 q=>q
theorem xT (B:X.N.Nodup)(hi:X.N[i]? = some x)(G:Loc X.env.scope x)(J:PE X e te)(O:swapsWith e (some (.Name x pos')) pos.line X.env=pure false:=by rfl)(U:X.fn x=true∨X.env.scope.names.lookup x=some .local:=by first | exact .inl rfl | exact .inr rfl | assumption):
  PS X (.Assign [.Name x pos'] e pos) (BR te (rm i)):=by
 intro pins s σ H D I h;refine wpAny_Assign_Name (thn (J pins s σ H _ I h) fun v s1 ⟨y,H1,Y,r1,q1⟩ =>?_) O;exact vS Y B hi G r1 (fun s2 I2=>⟨_,H1,I2,q1⟩) U
def BM (c:TT)(tb:TS):TS:=fun D σ H=>∃ W:NS9,(∃ m,W m σ H)∧∀ m σ H,W m σ H →
 c σ H fun b H1=>if b=true then ∃ N:SP9,(∀ σ' H',N σ' H'→∃ m',m' < m∧W m' σ' H')∧tb { D with nx:=N,ct:=N,bk:=D.nx } σ H1 else D.nx σ H1
theorem jX (hp:PassesOwn (model X.prog X.w) X.A X.env X.xe)(hc:PT X c tc)(hb:PSs X body tb):PS X (.While c body [] pos) (BM tc tb):=by
 intro pins s σ H D I h;obtain⟨W,⟨m0,w0⟩,turn⟩:=h;refine wpAny_While (codeAny_whileLoop (fun n s'=>∃ σ' H',Inv X pins σ' H' s'∧W n σ' H') ?_ m0 ⟨σ,H,I,w0⟩);rintro n s1 ⟨J,H1,I1,w1⟩;refine wpAny_passesOwn hp (thn (hc pins s1 J H1 _ I1 (turn n J H1 w1)) fun b s2 ⟨H2,I2,q2⟩ =>?_);cases b with
 | true =>
  obtain⟨N,hN,q2⟩:=q2;rw[if_pos rfl];refine wpAny_passesOwn hp (thn (hb pins s2 J H2 _ I2 q2) fun f s3 q3 =>?_);cases f with
  | next =>
   obtain⟨B,G,O,U⟩:=q3;obtain⟨Y,hm,w3⟩:=hN B G U;exact⟨Y,hm,B,G,O,w3⟩
  | cont =>
   obtain⟨B,G,O,U⟩:=q3;obtain⟨Y,hm,w3⟩:=hN B G U;exact⟨Y,hm,B,G,O,w3⟩
  | brk=>exact q3
  | ret v=>exact q3
 | false =>
  rw[if_neg Jq];exact wpAny_execs_nil ⟨J,H2,I2,q2⟩
end
structure It where
 go:Nat→Hp→Prop
 yld:Nat→Hp→V→Hp→Prop
 stop:Nat→Hp→Prop
def vJ (X:Cx)(pins:Pn9)(H:Hp)(b:Addr):Prop :=
 H b=none∧b≠X.env.locals∧b∉X.fs∧(b∈X.ex∨X.s₀.heap.objs.size≤b)∧(∀ x c,X.env.cells.lookup x=some c→c≠b)∧∀ p∈X.pn++pins,p.1≠b
theorem Inv.fpOk (I:Inv X pins σ H s)(B:s.heap.objs.size≤b)(G:H' b=none):vJ X pins H' b:=by
 refine⟨G,KU (Jt I.lt B),I.nofs B,.inr (JA I.sz B),fun x c e z =>?_,fun p J z =>?_⟩
 ·obtain⟨v,q⟩:=I.cell x c e;exact absurd (Jt q.lt (by rw[z];exact B)) (KO _)
 ·exact absurd (Jt (Jo (I.pin p J).1) (by rw[z];exact B)) (KO _)
structure yG (P:Pg9)(w:Wd9)(K:Frag)(tg:Expr)(J:It)(fp:List Addr)(it:Addr)(tn:Nat→Heap→Prop):Prop where
 mem:it∈fp
 obj:∀ i h,tn i h→∀ b∈fp,∃ o,h.get? b=some o∧∀ v,o.data≠.cell v
 keep:∀ i h h',tn i h→(∀ b∈fp,∀ o,h.get? b=some o→h'.get? b=some o)→tn i h'
 item:∀ (X:Cx),X.prog=P→X.w=w→X.K=K→X.calm=true→∀ (i:Nat) (pins:Pn9) (s:Sh9) (σ:St) (H:Hp) (E:EV9),Inv X pins σ H s→(∀ b∈fp,vJ X pins H b)→tn i s.heap→J.go i H →
  wpAny (model P w) X.A (pyNext (.ref it)) (fun r s1=>∃ u,r=some u ∧
   wpAny (model P w) X.A (letOwnedTupleGo tg (.ref it) u) (fun _ s2=>∃ x H',Inv X pins σ H' s2∧bz x u∧J.yld i H x H'∧tn (i + 1) s2.heap∧∀ b∈fp,H' b=none) E s1) E s
 done:∀ (X:Cx),X.prog=P→X.w=w→X.K=K→X.calm=true→∀ (i:Nat) (pins:Pn9) (s:Sh9) (σ:St) (H:Hp) (E:EV9),Inv X pins σ H s→(∀ b∈fp,vJ X pins H b)→tn i s.heap→J.stop i H →
  wpAny (model P w) X.A (pyNext (.ref it)) (fun r s1=>r=none∧Inv X pins σ H s1) E s
 self:∀ (A:Around) (i:Nat) (s:Sh9) (Q:EV9) (E:EV9),tn i s.heap→Q (.ref it) s→wpAny (model P w) A (pyIter (.ref it)) Q E s
abbrev TI:=St→Hp→(It→Hp→Prop)→Prop
def PIE (X:Cx)(pins:Pn9)(σ:St)(tg:Expr)(R:It→Hp→Prop)(itv:Value)(s2:Sh9):Prop :=
 ∃ (it:Addr) (fp:List Addr) (tn:Nat→Heap→Prop) (J:It) (H':Hp),itv=.ref it∧Inv X pins σ H' s2∧yG X.prog X.w X.K tg J fp it tn∧tn 0 s2.heap∧(∀ b∈fp,vJ X pins H' b)∧R J H'
def PI (X:Cx)(tg iter:Expr)(wi:TI):Prop :=
 ∀ (pins:Pn9) (s:Sh9) (σ:St) (H:Hp) (R:It→Hp→Prop),Inv X pins σ H s→wi σ H R →
  wpAny (model X.prog X.w) X.A (eval iter X.env) (fun v s1=>wpAny (model X.prog X.w) X.A (pyIter v) (PIE X pins σ tg R) X.xe s1) X.xe s
theorem wJ (G:s.heap.get? it=some o)(J:o.cls=.type n)(O:o.data=.fields vs)
  (U:["enumerate","zip","dict_itemiterator","dict_reverseitemiterator","odict_iterator","itertools.zip_longest","itertools.pairwise"].contains n=false) (B:Q () s):wpAny M A (letOwnedTupleGo tg (.ref it) u) Q E s:=by
 unfold letOwnedTupleGo;cases tg<;>first
  | exact Jp B
  | (cases u<;>first
    | exact Jp B
    | (refine IX (wpAny_load G ?_)
       rw[J,O];show wpAny M A (if (["enumerate","zip","dict_itemiterator","dict_reverseitemiterator","odict_iterator","itertools.zip_longest","itertools.pairwise"].contains n && vs[0]? == some (rawInt _))=true then _ else _) Q E s
       rw[if_neg (by intro h;rw[U,Bool.false_and]at h;cases h)];exact Jp B))
def Itl (K:Frag)(a:Addr):It :=
 ⟨fun i H=>∃ xs x,SqL K H a xs∧xs[i]? = some x,fun i H x H'=>H'=H∧∀ xs,SqL K H a xs→xs[i]? = some x,fun i H=>∃ xs,SqL K H a xs∧xs.length≤i⟩
def Itt (K:Frag)(a:Addr):It :=
 ⟨fun i H=>∃ xs x,SqT K H a xs∧xs[i]? = some x,fun i H x H'=>H'=H∧∀ xs,SqT K H a xs→xs[i]? = some x,fun i H=>∃ xs,SqT K H a xs∧xs.length≤i⟩
def Itr (lo:Int)(n:Nat):It:=⟨fun i _=>i < n,fun i H x H'=>H'=H∧x=.int (lo + i),fun i _=>n≤i⟩
theorem Ag {K:Frag}(a it:Addr):yG P w K tg (Itl K a) [it] it (fun i h=>h.IsListIter it a i) where
 mem:=by simp
 obj:=fun i h st b B=>by
  have e:b=it:=by simpa using B
  subst e;obtain⟨o,e,c,d⟩:=st;exact⟨o,e,fun v z=>by rw[d]at z;cases z⟩
 keep:=fun i h h' st k=>st.at fun o e=>k it (by simp) o e
 item:=by
  intro X U Y hK hc i pins s σ H E I J st hg;subst U Y hK;obtain⟨xs,x,O,hx⟩:=hg;obtain⟨its,rv,p,hz⟩:=I.list O;obtain⟨u,hu,ru⟩:=rv.get hx;obtain⟨f0,f1,f2,f3,f4,f5⟩:=J it (by simp);refine wpAny_pyNext_list_item st p.isList (x:=u) (by simpa using hu) fun h' G sb =>?_;have I1:Inv X pins σ H { s with heap:=h' }:=I.turned (t':=s.toks) (fun b o B e=>(sb.2 b B).trans e) f0 f1 f3 f4 f5;obtain⟨o,e,c,d⟩:=id G;exact⟨u,rfl,wJ (s:={ s with heap:=h' }) e c d (by decide) ⟨x,H,I1,ru,⟨rfl,fun ys hy=>by rw[I.list_inj hy O];exact hx⟩,G,fun b B=>(J b B).1⟩⟩
 done:=by
  intro X U Y hK hc i pins s σ H E I J st hg;subst U Y hK;obtain⟨xs,O,hx⟩:=hg;obtain⟨its,rv,p,hz⟩:=I.list O;obtain⟨f0,f1,f2,f3,f4,f5⟩:=J it (by simp);have hl:=rv.length;exact wpAny_pyNext_list_end (I.ok.hd hc) st p.isList (by simp;lia) fun h' eb=>⟨rfl,I.turned (t':=s.toks) (fun b o B e=>eb b o B e) f0 f1 f3 f4 f5⟩
 self:=fun _ _ _ _ _ st h=>wpAny_pyIter_listiter st h
theorem xw {K:Frag}(a it:Addr):yG P w K tg (Itt K a) [it] it (fun i h=>h.IsTupleIter it a i) where
 mem:=by simp
 obj:=fun i h st b B=>by
  have e:b=it:=by simpa using B
  subst e;obtain⟨o,e,c,d⟩:=st;exact⟨o,e,fun v z=>by rw[d]at z;cases z⟩
 keep:=fun i h h' st k=>st.at fun o e=>k it (by simp) o e
 item:=by
  intro X U Y hK hc i pins s σ H E I J st hg;subst U Y hK;obtain⟨xs,x,O,hx⟩:=hg;obtain⟨its,rv,p,hz⟩:=I.tuple O;obtain⟨u,hu,ru⟩:=rv.get hx;obtain⟨f0,f1,f2,f3,f4,f5⟩:=J it (by simp);refine wpAny_pyNext_tuple_item st (show s.heap.IsTuple a its.toArray from p) (x:=u) (by simpa using hu) fun h' G sb =>?_;have I1:Inv X pins σ H { s with heap:=h' }:=I.turned (t':=s.toks) (fun b o B e=>(sb.2 b B).trans e) f0 f1 f3 f4 f5;obtain⟨o,e,c,d⟩:=id G;exact⟨u,rfl,wJ (s:={ s with heap:=h' }) e c d (by decide) ⟨x,H,I1,ru,⟨rfl,fun ys hy=>by rw[I.tuple_inj hy O];exact hx⟩,G,fun b B=>(J b B).1⟩⟩
 done:=by
  intro X U Y hK hc i pins s σ H E I J st hg;subst U Y hK;obtain⟨xs,O,hx⟩:=hg;obtain⟨its,rv,p,hz⟩:=I.tuple O;obtain⟨f0,f1,f2,f3,f4,f5⟩:=J it (by simp);have hl:=rv.length;exact wpAny_pyNext_tuple_end (I.ok.hd hc) st (show s.heap.IsTuple a its.toArray from p) (by simp;lia) fun h' eb=>⟨rfl,I.turned (t':=s.toks) (fun b o B e=>eb b o B e) f0 f1 f3 f4 f5⟩
 self:=fun _ _ _ _ _ st h=>wpAny_pyIter_tupleiter st h
theorem xx {K:Frag}(it:Addr)(lo:Int)(n:Nat):yG P w K tg (Itr lo n) [it] it (fun i h=>IsRangeIter h it (lo + (i:Nat) * 1) ((n:Int) - (i:Nat)) 1) where
 mem:=by simp
 obj:=fun i h st b B=>by
  have e:b=it:=by simpa using B
  subst e;exact⟨_,st,fun v z=>by
   have z':Data.fields _=Data.cell v:=z;cases z'⟩
 keep:=fun i h h' st k=>k it (by simp) _ st
 item:=by
  intro X O U Y hc i pins s σ H E I J st hg;subst O U Y;obtain⟨f0,f1,f2,f3,f4,f5⟩:=J it (by simp);have W:=Walks.range (prog:=X.prog) (w:=X.w) (I.ok.hd hc) it lo 1 n;refine W.item i s _ _ hg st fun v h' tk hv G kk =>?_;obtain⟨t,rfl⟩:=hv;have I1:Inv X pins σ H { s with heap:=h',toks:=tk }:=I.turned (fun b o B e=>kk b o (by simpa using B) e) f0 f1 f3 f4 f5;refine⟨_,rfl,wJ (s:={ s with heap:=h',toks:=tk }) (n := "range_iterator") G rfl rfl (by decide) ⟨.int (lo + i),H,I1,⟨t,?_⟩,⟨rfl,rfl⟩,G,fun b B=>(J b B).1⟩⟩
  rw[Int.mul_one]
 done:=by
  intro X O U Y hc i pins s σ H E I J st hg;subst O U Y;obtain⟨f0,f1,f2,f3,f4,f5⟩:=J it (by simp);exact wpAny_pyNext_range_end (I.ok.hd hc) st (by have:n≤i:=hg;lia) fun h' eb=>⟨rfl,I.turned (t':=s.toks) (fun b o B e=>eb b o B e) f0 f1 f3 f4 f5⟩
 self:=fun _ _ _ _ _ st h=>wpAny_pyIter_rangeiter st h
section
variable {tg:Expr}
inductive DR (K:Frag)(R:It→Hp→Prop)(x:V)(H1:Hp):Prop
 | mk (a:_) (h_0:x=.ref a) (h_1:(∃ xs,SqL K H1 a xs)) (h_2:R (Itl K a) H1):DR K R x H1
abbrev FL (K:Frag)(tl:TE):TI:=fun σ H R=>tl σ H fun x H1=>DR K R x H1
abbrev IK (K:Frag)(tl:TE):TI:=fun σ H R=>tl σ H fun x H1=>∃ a,x=.ref a∧(∃ xs,SqT K H1 a xs)∧R (Itt K a) H1
theorem bO (J:PE X l tl):PI X tg l (FL X.K tl):=by
 intro pins s σ H R I h;refine thn (J pins s σ H _ I h) fun v B ⟨x,H1,G,O,q1⟩ =>?_;obtain⟨a,e,⟨xs,U⟩,q⟩:=q1;subst e;cases O;obtain⟨its,rv,p,hz⟩:=G.list U;refine wpAny_pyIter_list p.isList ?_;refine⟨B.heap.objs.size,[B.heap.objs.size],_,_,H1,rfl,G.kept (t':=B.toks) fun b o e=>IY _ e,Ag a _,⟨_,Ju _ rfl,rfl,rfl⟩,fun b Y =>?_,q⟩;have e:b=B.heap.objs.size:=by simpa using Y
 subst e;exact G.fpOk (I_ _) (G.hok.fresh (I_ _))
theorem xV (J:PE X l tl):PI X tg l (IK X.K tl):=by
 intro pins s σ H R I h;refine thn (J pins s σ H _ I h) fun v B ⟨x,H1,G,O,q1⟩ =>?_;obtain⟨a,e,⟨xs,U⟩,q⟩:=q1;subst e;cases O;obtain⟨its,rv,p,hz⟩:=G.tuple U;refine wpAny_pyIter_tuple (show B.heap.IsTuple a its.toArray from p) ?_;refine⟨B.heap.objs.size,[B.heap.objs.size],_,_,H1,rfl,G.kept (t':=B.toks) fun b o e=>IY _ e,xw a _,⟨_,Ju _ rfl,rfl,rfl⟩,fun b Y =>?_,q⟩;have e:b=B.heap.objs.size:=by simpa using Y
 subst e;exact G.fpOk (I_ _) (G.hok.fresh (I_ _))
theorem B6 {lo hi:Int}(I:Inv X pins σ H s)(h1:-(2 ^ 62)≤lo)(h2:lo < 2 ^ 62)(G:-(2 ^ 62)≤hi)(J:hi < 2 ^ 62)
  (q:R (Itr lo (hi - lo).toNat) H):wpAny (model X.prog X.w) X.A (pyIter (.ref s.heap.objs.size)) (PIE X pins σ tg R) E { s with heap:=s.heap.push { cls:=.type "range",data:=.fields #[.int lo t,.int hi u,.int 1 v] },toks:=tk }:=by
 refine wpAny_pyIter_range (IsRange.new ..) (small_one h1 h2 G J) ?_;have B:Inv X pins σ H { s with heap:=s.heap.push { cls:=.type "range",data:=.fields #[.int lo t,.int hi u,.int 1 v] },toks:=tk }:=I.kept fun b o e=>IY _ e
 refine⟨(s.heap.push { cls:=.type "range",data:=.fields #[.int lo t,.int hi u,.int 1 v] }).objs.size,[(s.heap.push { cls:=.type "range",data:=.fields #[.int lo t,.int hi u,.int 1 v] }).objs.size],_,_,H,rfl,
  B.kept (t':=tk) fun b o e=>IY _ e,xx _ lo (hi - lo).toNat,?_,fun b O =>?_,q⟩
 ·have U:lo + ((0:Nat):Int) * 1=lo:=by simp
  have Y:(((hi - lo).toNat:Nat):Int) - ((0:Nat):Int)=Builtin.Range.rangeSize lo hi 1:=by rw[rangeSize_one];split<;>lia
  show IsRangeIter _ _ (lo + ((0:Nat):Int) * 1) ((((hi - lo).toNat:Nat):Int) - ((0:Nat):Int)) 1;rw[U,Y];exact Ju _ rfl
 ·have e:b=(s.heap.push { cls:=.type "range",data:=.fields #[.int lo t,.int hi u,.int 1 v] }).objs.size:=by simpa using O
  subst e;exact B.fpOk (I_ _) (B.hok.fresh (I_ _))
abbrev HP (ta:TA):TI:=fun σ H R=>ta σ H fun vs H1=>∃ j:Int,vs=[.int j]∧-(2 ^ 62)≤j∧j < 2 ^ 62∧R (Itr 0 j.toNat) H1
theorem bR (B:Gl X "range")(G:X.mg "range" = none)(J:PA X [a] ta)(O:starEach [a] X.env=[(false,eval a X.env)]:=by rfl):PI X tg (.Call (.Name "range" p) [a] [] pos) (HP ta):=by
 intro pins s σ H R I h;refine Call_ (l_ I B G boot_range (PyProof.Rows.callWith_type1 (thn (J pos pins s σ H _ I h) fun us s1 ⟨vs,H1,U,Y,q1⟩ =>?_) O rfl));obtain⟨j,e,q1,q2,q⟩:=q1;subst e;cases Y with
 | cons r rr =>
  cases rr;obtain⟨t,rfl⟩:=r;exact call_range_1 (B6 U (by simp) (by simp) q1 q2 (by simpa using q))
abbrev Iu (wi:TI)(g:TG)(tb:TS):TS:=fun D σ H=>wi σ H fun J H1=>∃ W:Nat→NS9,(∃ m,W 0 m σ H1)∧∀ i m σ H,W i m σ H →
 (J.stop i H∧D.nx σ H)∨(J.go i H∧∃ N:SP9,(∀ σ' H',N σ' H'→∃ m',m' < m∧W (i + 1) m' σ' H')∧∀ x H',J.yld i H x H'→g x σ H' fun σ2 H2=>tb { D with nx:=N,ct:=N,bk:=D.nx } σ2 H2)
def qM (fp:List Addr)(h:Heap):Pn9:=fp.filterMap fun b=>(h.get? b).map fun o=>(b,o)
theorem jn (B:b∈fp)(e:h.get? b=some o):(b,o)∈qM fp h:=List.mem_filterMap.mpr ⟨b,B,by rw[e];rfl⟩
theorem AR (B:p∈qM fp h):p.1∈fp∧h.get? p.1=some p.2:=by
 obtain⟨b,G,e⟩:=List.mem_filterMap.mp B;cases q:h.get? b with
 | none=>rw[q]at e;cases e
 | some o =>
  rw[q]at e;have e':(b,o)=p:=Option.some.inj e;subst e';exact⟨G,q⟩
theorem Inv.pinned (I:Inv X pins σ H s)(J:∀ b∈fp,vJ X pins H b)(O:∀ b∈fp,∃ o,s.heap.get? b=some o∧∀ v,o.data≠.cell v):Inv X (pins++qM fp s.heap) σ H s :=
 I.pins_of fun p U=>(Jj.mp U).elim (fun z=>I.pin p (JD _ z)) fun z=>by
  obtain⟨B,e⟩:=AR z;obtain⟨Y,f1,f2,_⟩:=J p.1 B;obtain⟨o,G,d⟩:=O p.1 B;rw[e]at G;cases G;exact⟨e,Y,f1,f2,d⟩
theorem Inv.unpinned (I:Inv X (pins++pl) σ H s):Inv X pins σ H s:=I.pins_of fun p B=>I.pin p (JD _ (JS _ B))
theorem aR (hp:PassesOwn (model X.prog X.w) X.A X.env X.xe)(hc:X.calm=true)(hi:PI X tg iter wi)(hg:PG X tg g)(B:PSs X body tb)
  (hs:∀ x,foldedSetIterable iter X.env x=pure x:=by intro _;rfl):PS X (.For tg iter body [] pos) (Iu wi g tb):=by
 intro pins s σ H D I h;refine wpAny_For (thn (hi pins s σ H _ I h) fun v s1 h1=>thn h1 fun a6 s2 h2 =>?_) hs;obtain⟨it,fp,tn,J,H2,e,I2,T,a4,f2,W,⟨m0,w0⟩,turn⟩:=h2;subst e
 -- what stays true of the iterator's objects through the loop
 have G:∀ {H':Hp},(∀ b∈fp,H' b=none)→∀ b∈fp,vJ X pins H' b:=fun hn b B=>⟨hn b B,(f2 b B).2⟩;refine codeAny_forLoop_any (fun n s'=>∃ i σ' H',Inv X pins σ' H' s'∧tn i s'.heap∧(∀ b∈fp,H' b=none)∧W i n σ' H') ?_ m0 ⟨0,σ,H2,I2,a4,fun b B=>(f2 b B).1,w0⟩;rintro n s3 ⟨i,σ3,H3,I3,a1,a2,w3⟩;rcases turn i n σ3 H3 w3 with⟨a3,qn⟩ | ⟨go,N,hN,step⟩
 ·refine wpAny_passesOwn hp (thn (T.done X rfl rfl rfl hc i pins s3 σ3 H3 X.xe I3 (G a2) a1 a3) fun r s4 ⟨hr,I4⟩ =>?_);subst hr;exact wpAny_execs_nil ⟨σ3,H3,I4,qn⟩
 ·refine wpAny_passesOwn hp (thn (T.item X rfl rfl rfl hc i pins s3 σ3 H3 X.xe I3 (G a2) a1 go) fun r s4 ⟨u,hr,h4⟩ =>?_);subst hr;refine wpAny_passesOwn hp (thn h4 fun _ s5 ⟨x,H5,I5,r5,y5,a0,a5⟩ =>?_);have I5':=I5.pinned (G a5) (T.obj _ _ a0);refine wpAny_passesOwn hp (thn (hg _ s5 σ3 H5 x u _ I5' r5 (step x H5 y5)) fun _ s6 ⟨σ6,H6,I6,q6⟩ =>?_);refine wpAny_passesOwn hp (thn (B _ s6 σ6 H6 _ I6 q6) fun f s7 q7 =>?_);have again:∀ {O:St} {U:Hp},Inv X (pins++qM fp s5.heap) O U s7→N O U→∃ m,m < n∧∃ i σ' H',Inv X pins σ' H' s7∧tn i s7.heap∧(∀ b∈fp,H' b=none)∧W i m σ' H':=fun {O U} Y n7=>by
   obtain⟨m',hm,w7⟩:=hN O U n7;refine⟨m',hm,i + 1,O,U,Y.unpinned,T.keep _ _ _ a0 fun b B o e=>(Y.pin (b,o) (JD _ (JD _ (jn B e)))).1,fun b B =>?_,w7⟩;obtain⟨o,e,d⟩:=T.obj _ _ a0 b B;exact (Y.pin (b,o) (JD _ (JD _ (jn B e)))).2.1
  cases f with
  | next=>obtain⟨O,U,Y,n7⟩:=q7;exact again Y n7
  | cont=>obtain⟨O,U,Y,n7⟩:=q7;exact again Y n7
  | brk=>obtain⟨O,U,Y,q7⟩:=q7;exact⟨O,U,Y.unpinned,q7⟩
  | ret v=>obtain⟨x7,O,U,Y,r7,q7⟩:=q7;exact⟨x7,O,U,Y.unpinned,r7,q7⟩
end
theorem cM {K:Frag}{a:Addr}{xs:List V}{g:TG}{tb:TS}{D:sF}{σ:St}{H:Hp}(Pv:NS9)(J:Pv 0 σ H)(O:∀ i σ H,i≤xs.length→Pv i σ H→SqL K H a xs)
  (U:∀ i x σ H,xs[i]? = some x→Pv i σ H→g x σ H fun B H2=>tb { D with nx:=Pv (i + 1),ct:=Pv (i + 1),bk:=D.nx } B H2) (Y:∀ σ H,Pv xs.length σ H→D.nx σ H) :
  ∃ W:Nat→NS9,(∃ m,W 0 m σ H)∧∀ i m σ H,W i m σ H →
   ((Itl K a).stop i H∧D.nx σ H)∨((Itl K a).go i H∧∃ N:SP9,(∀ G H',N G H'→∃ m',m' < m∧W (i + 1) m' G H')∧∀ x H',(Itl K a).yld i H x H'→g x σ H' fun B H2=>tb { D with nx:=N,ct:=N,bk:=D.nx } B H2):=by
 refine⟨fun i m σ H=>m=xs.length - i∧i≤xs.length∧Pv i σ H,⟨xs.length,by simp,Je _,J⟩,?_⟩;rintro i m σ H ⟨rfl,hi,p⟩;have q:=O i σ H hi p;by_cases hlt:i < xs.length
 ·refine .inr ⟨⟨xs,xs[i],q,by simp[hlt]⟩,Pv (i + 1),fun G H' p'=>⟨xs.length - (i + 1),by omega,rfl,hlt,p'⟩,fun x H' y =>?_⟩;obtain⟨e,y⟩:=y;subst e;exact U i x σ _ (y xs q) p
 ·have e:i=xs.length:=by lia
  subst e;exact .inl ⟨⟨xs,q,I_ _⟩,Y σ H p⟩
theorem vp {K:Frag}{a:Addr}{xs:List V}{g:TG}{tb:TS}{D:sF}{σ:St}{H:Hp}(Pv:NS9)(J:Pv 0 σ H)(O:∀ i σ H,i≤xs.length→Pv i σ H→SqT K H a xs)
  (U:∀ i x σ H,xs[i]? = some x→Pv i σ H→g x σ H fun B H2=>tb { D with nx:=Pv (i + 1),ct:=Pv (i + 1),bk:=D.nx } B H2) (Y:∀ σ H,Pv xs.length σ H→D.nx σ H) :
  ∃ W:Nat→NS9,(∃ m,W 0 m σ H)∧∀ i m σ H,W i m σ H →
   ((Itt K a).stop i H∧D.nx σ H)∨((Itt K a).go i H∧∃ N:SP9,(∀ G H',N G H'→∃ m',m' < m∧W (i + 1) m' G H')∧∀ x H',(Itt K a).yld i H x H'→g x σ H' fun B H2=>tb { D with nx:=N,ct:=N,bk:=D.nx } B H2):=by
 refine⟨fun i m σ H=>m=xs.length - i∧i≤xs.length∧Pv i σ H,⟨xs.length,by simp,Je _,J⟩,?_⟩;rintro i m σ H ⟨rfl,hi,p⟩;have q:=O i σ H hi p;by_cases hlt:i < xs.length
 ·refine .inr ⟨⟨xs,xs[i],q,by simp[hlt]⟩,Pv (i + 1),fun G H' p'=>⟨xs.length - (i + 1),by omega,rfl,hlt,p'⟩,fun x H' y =>?_⟩;obtain⟨e,y⟩:=y;subst e;exact U i x σ _ (y xs q) p
 ·have e:i=xs.length:=by lia
  subst e;exact .inl ⟨⟨xs,q,I_ _⟩,Y σ H p⟩
theorem bY {lo:Int}{n:Nat}{g:TG}{tb:TS}{D:sF}{σ:St}{H:Hp}(Pv:NS9)(J:Pv 0 σ H)
  (O:∀ i σ H,i < n→Pv i σ H→g (.int (lo + i)) σ H fun B H2=>tb { D with nx:=Pv (i + 1),ct:=Pv (i + 1),bk:=D.nx } B H2) (U:∀ σ H,Pv n σ H→D.nx σ H) :
  ∃ W:Nat→NS9,(∃ m,W 0 m σ H)∧∀ i m σ H,W i m σ H →
   ((Itr lo n).stop i H∧D.nx σ H)∨((Itr lo n).go i H∧∃ N:SP9,(∀ G H',N G H'→∃ m',m' < m∧W (i + 1) m' G H')∧∀ x H',(Itr lo n).yld i H x H'→g x σ H' fun B H2=>tb { D with nx:=N,ct:=N,bk:=D.nx } B H2):=by
 refine⟨fun i m σ H=>m=n - i∧i≤n∧Pv i σ H,⟨n,by simp,Je _,J⟩,?_⟩;rintro i m σ H ⟨rfl,hi,p⟩;by_cases hlt:i < n
 ·refine .inr ⟨hlt,Pv (i + 1),fun G H' Y=>⟨n - (i + 1),by lia,rfl,hlt,Y⟩,fun x H' y =>?_⟩;obtain⟨e,y⟩:=y;subst e y;exact O i σ _ hlt p
 ·have e:i=n:=by lia
  subst e;exact .inl ⟨I_ _,U σ H p⟩
theorem qf (Pv:SP9)(μ:St→Hp→Nat)(G:Pv σ H)
  (J:∀ σ H,Pv σ H→c σ H fun b H1=>if b=true then tb { D with nx:=fun B H'=>Pv B H'∧μ B H' < μ σ H,ct:=fun B H'=>Pv B H'∧μ B H' < μ σ H,bk:=D.nx } σ H1 else D.nx σ H1)
  (mono:∀ σ H Q Q',(∀ b H1,Q b H1→Q' b H1)→c σ H Q→c σ H Q'):BM c tb D σ H:=by
 refine⟨fun m σ H=>m=μ σ H∧Pv σ H,⟨_,rfl,G⟩,?_⟩;rintro m σ H ⟨rfl,p⟩;refine mono σ H _ _ (fun b H1 q =>?_) (J σ H p);cases b with
 | true=>exact⟨_,fun B H' ⟨O,l⟩=>⟨_,l,rfl,O⟩,q⟩
 | false=>exact q
abbrev R2:=V→V→HV9
def OpR (X:Cx)(f:Value→Value→Sem Value)(r:R2):Prop :=
 ∀ (pins:Pn9) (s:Sh9) (σ:St) (H:Hp) (x y:V) (v u:Value) (Q:VK),Inv X pins σ H s→bz x v→bz y u→r x y H Q →
  wpAny (model X.prog X.w) X.A (f v u) (EP X pins σ Q) X.xe s
def UnR (X:Cx)(f:Value→Sem Value)(r:V→HV9):Prop :=
 ∀ (pins:Pn9) (s:Sh9) (σ:St) (H:Hp) (x:V) (v:Value) (Q:VK),Inv X pins σ H s→bz x v→r x H Q →
  wpAny (model X.prog X.w) X.A (f v) (EP X pins σ Q) X.xe s
def gY (X:Cx)(f:Value)(r:List V→HV9):Prop :=
 ∀ (pins:Pn9) (s:Sh9) (σ:St) (H:Hp) (xs:List V) (us:LV9) (Q:VK),Inv X pins σ H s→br xs us→r xs H Q →
  wpAny (model X.prog X.w) X.A (call f us) (EP X pins σ Q) X.xe s
abbrev tOp (r:R2)(ta tb:TE):TE:=fun σ H Q=>ta σ H fun x H1=>tb σ H1 fun y H2=>r x y H2 Q
abbrev tUn (r:V→HV9)(ta:TE):TE:=fun σ H Q=>ta σ H fun x H1=>r x H1 Q
def of2 (Q:II9):V→V→Prop | .int i,.int j=>Q i j | _,_=>False
theorem gh (h:of2 Q x y):∃ i j,x=.int i∧y=.int j∧Q i j:=by
 cases x<;>cases y<;>first | exact⟨_,_,rfl,rfl,h⟩ | exact False.elim h
def rI (C:II9)(g:Int→Int→V):R2:=fun x y H Q=>of2 (fun i j=>C i j∧Q (g i j) H) x y
def rI0 (g:Int→Int→V):R2:=fun x y H Q=>of2 (fun i j=>Q (g i j) H) x y
theorem cP (h:Q i j):of2 Q (.int i) (.int j):=h
def rU (g:Int→V):V→HV9:=fun x H Q=>∃ i,x=.int i∧Q (g i) H
section
variable {a b c:Expr}{ta tb tc:TE}
theorem GU (G:PE X a ta)(J:PE X b tb){pins:Pn9}{s:Sh9}{σ:St}{H:Hp}{R:V→V→Hp→Prop}(I:Inv X pins σ H s)
  (h:ta σ H fun x H1=>tb σ H1 fun y H2=>R x y H2) {Q:EV9} {f:Value→Value→Sem Value}
  (O:∀ v u B x y H2,Inv X pins σ H2 B→bz x v→bz y u→R x y H2→wpAny (model X.prog X.w) X.A (f v u) Q X.xe B) :
  wpAny (model X.prog X.w) X.A (eval a X.env) (fun v U=>wpAny (model X.prog X.w) X.A (eval b X.env) (fun u Y=>wpAny (model X.prog X.w) X.A (f v u) Q X.xe Y) X.xe U) X.xe s:=by
 refine thn (G pins s σ H _ I h) fun v s1 ⟨x,H1,I1,r1,q1⟩ =>?_;refine thn (J pins s1 σ H1 _ I1 q1) fun u B ⟨y,H2,I2,r2,q2⟩ =>?_;exact O v u B x y H2 I2 r1 r2 q2
theorem ai {B:Operator}{r:R2}(G:OpR X (binaryOp B) r)(J:PE X a ta)(O:PE X b tb):PE X (.BinOp a B b pos) (tOp r ta tb):=by
 intro pins s σ H Q I h;exact wpAny_BinOp (GU J O I h fun v u U x y H2 Y rx ry q=>G pins U σ H2 x y v u Q Y rx ry q)
theorem Co (B:UnR X (unaryOp op) r)(G:PE X a ta):PE X (.UnaryOp op a pos) (tUn r ta):=by
 intro pins s σ H Q I h;exact UnaryOp_ (thn (G pins s σ H _ I h) fun v J ⟨x,H1,O,U,q1⟩=>B pins J σ H1 x v Q O U q1)
theorem opI {f:Value→Value→Sem Value}{C:II9}{g:Int→Int→Int}
  (rule:∀ (i j:Int) (t u:Tok) (s:Sh9) (Q:EV9) (E:EV9),C i j→Q (.int (g i j) s.toks) { s with toks:=s.toks + 1 }→wpAny (model X.prog X.w) X.A (f (.int i t) (.int j u)) Q E s) :
  OpR X f (rI C fun i j=>.int (g i j)):=by
 intro pins s σ H x y v u Q I B G h;obtain⟨i,j,rfl,rfl,J,q⟩:=gh h;obtain⟨t,rfl⟩:=B;obtain⟨t',rfl⟩:=G;exact rule i j t t' s _ _ J ⟨.int (g i j),H,I.tok _,⟨_,rfl⟩,q⟩
theorem Hs {f:Value→Value→Sem Value}{g:Int→Int→Int}
  (rule:∀ (i j:Int) (t u:Tok) (s:Sh9) (Q:EV9) (E:EV9),Q (.int (g i j) s.toks) { s with toks:=s.toks + 1 }→wpAny (model X.prog X.w) X.A (f (.int i t) (.int j u)) Q E s) :
  OpR X f (rI0 fun i j=>.int (g i j)):=by
 intro pins s σ H x y v u Q I B G h;obtain⟨i,j,rfl,rfl,q⟩:=gh h;obtain⟨t,rfl⟩:=B;obtain⟨t',rfl⟩:=G;exact rule i j t t' s _ _ ⟨.int (g i j),H,I.tok _,⟨_,rfl⟩,q⟩
theorem Gi {f:Value→Value→Sem Value}{g:Int→Int→Bool}
  (rule:∀ (i j:Int) (t u:Tok) (s:Sh9) (Q:EV9) (E:EV9),Q (.bool (g i j)) s→wpAny (model X.prog X.w) X.A (f (.int i t) (.int j u)) Q E s) :
  OpR X f (rI0 fun i j=>.bl (g i j)):=by
 intro pins s σ H x y v u Q I B G h;obtain⟨i,j,rfl,rfl,q⟩:=gh h;obtain⟨t,rfl⟩:=B;obtain⟨t',rfl⟩:=G;exact rule i j t t' s _ _ ⟨.bl (g i j),H,I,rfl,q⟩
def BB (i j:Int):Prop:=0≤j∧j≤1000000∧i.natAbs < 2 ^ 64
def G6 (i j:Int):Prop:=(-(2 ^ 64) < i∧i < 2 ^ 64)∨(-(2 ^ 64) < j∧j < 2 ^ 64)
theorem G6.ok {i j:Int}(h:G6 i j):IntMulOk i j:=by
 rcases h with⟨h1,h2⟩|⟨h1,h2⟩
 ·exact .of_left (intBits_le_64 h1 h2)
 ·exact .of_right (intBits_le_64 h1 h2)
def Cb:R2:=fun x y H Q=>of2 (fun i j=>Q (.int (i + j)) H) x y
theorem aI:OpR X (binaryOp .Add) Cb:=Hs fun _ _ _ _ _ _ _ q=>add_int q
def B7:R2:=fun x y H Q=>of2 (fun i j=>Q (.int (i - j)) H) x y
theorem fq:OpR X (binaryOp .Sub) B7:=Hs fun _ _ _ _ _ _ _ q=>sub_int q
def B_:R2:=fun x y H Q=>of2 (fun i j=>G6 i j∧Q (.int (i * j)) H) x y
theorem bq:OpR X (binaryOp .Mult) B_:=opI fun _ _ _ _ _ _ _ B q=>mul_int q B.ok
def Ca:R2:=fun x y H Q=>of2 (fun i j=>0 < j∧Q (.int (i % j)) H) x y
theorem aN:OpR X (binaryOp .Mod) Ca:=opI fun i j _ _ _ _ _ B q=>by
 have h1:(0:Int) < j:=B;exact mod_int' (by lia) (by rw[Int.fmod_eq_emod_of_nonneg i (by lia)];exact q)
def B9:R2:=fun x y H Q=>of2 (fun i j=>BB i j∧Q (.int (i ^ j.toNat)) H) x y
theorem Cw:OpR X (binaryOp .Pow) B9:=opI fun _ _ _ _ _ _ _ B q=>pow_int_small B.1 B.2.1 B.2.2 q
def B8:R2:=fun x y H Q=>of2 (fun i j=>BB i j∧Q (.int (i * 2 ^ j.toNat)) H) x y
theorem uL:OpR X (binaryOp .LShift) B8:=opI fun _ _ _ _ _ _ _ B q=>lshift_int_small B.1 B.2.1 B.2.2 q
theorem unI {f:Value→Sem Value}{g:Int→Int}
  (rule:∀ (i:Int) (t:Tok) (s:Sh9) (Q:EV9) (E:EV9),Q (.int (g i) s.toks) { s with toks:=s.toks + 1 }→wpAny (model X.prog X.w) X.A (f (.int i t)) Q E s) :
  UnR X f (rU fun i=>.int (g i)):=by
 intro pins s σ H x v Q I B h;obtain⟨i,rfl,q⟩:=h;obtain⟨t,rfl⟩:=B;exact rule i t s _ _ ⟨.int (g i),H,I.tok _,⟨_,rfl⟩,q⟩
theorem xv:UnR X (unaryOp .USub) (rU fun i=>.int (-i)):=unI fun _ _ _ _ _ q=>neg_int q
end
def Hh:V→V→Bool
 | .non,.non=>true | .non,.int _=>true | .int _,.non=>true | .non,.bl _=>true | .bl _,.non=>true | .non,.str _=>true | .str _,.non=>true
 | .int _,.int _=>true | .bl _,.bl _=>true | .str _,.str _=>true | .byt _,.byt _=>true
 | .int _,.str _=>true | .str _,.int _=>true | .bl _,.str _=>true | .str _,.bl _=>true
 | _,_=>false
def rEq:R2:=fun x y H Q=>Hh x y=true∧Q (.bl (decide (x=y))) H
def rNe:R2:=fun x y H Q=>Hh x y=true∧Q (.bl (!decide (x=y))) H
theorem zR:decide (V.int i=V.int j)=(i == j):=by
 rw[Ki];simp
theorem Dz:decide (V.bl i=V.bl j)=(i == j):=by
 rw[Ki];simp
theorem zQ:decide (V.str i=V.str j)=(i == j):=by
 rw[Ki];simp
theorem zS:decide (V.byt i=V.byt j)=(i.toList == j.toList):=by
 rw[Ki];cases i;cases j;simp
section
variable {a b c:Expr}{ta tb tc:TE}
theorem bu (I:Inv X pins σ H s)(q:Q (.bl k) H)(e:k=k'):EP X pins σ Q (.bool k') s:=by
 subst e;exact⟨.bl k,H,I,rfl,q⟩
theorem fF:OpR X (compareOp .Eq) rEq:=by
 intro pins s σ H x y v u Q I J B h;obtain⟨G,q⟩:=h;cases x with
 | non =>
  cases J;cases y with
  | non=>cases B;exact PySem.EqNone.eq_none_none (bu I q (by simp))
  | bl j=>cases B;exact PySem.EqNone.eq_none_bool (bu I q (by simp))
  | int j=>obtain⟨t',rfl⟩:=B;exact PySem.EqNone.eq_none_int (bu I q (by simp))
  | str j=>obtain⟨t',rfl⟩:=B;exact PySem.EqNone.eq_none_str (bu I q (by simp))
  | _=>exact absurd (show false=true from G) Jq
 | bl i =>
  cases J;cases y with
  | non=>cases B;exact PySem.EqNone.eq_bool_none (bu I q (by simp))
  | bl j=>cases B;exact eq_bool (bu I q Dz)
  | str j=>obtain⟨t',rfl⟩:=B;exact PySem.EqMixed.eq_bool_str (bu I q (by simp))
  | _=>exact absurd (show false=true from G) Jq
 | int i =>
  obtain⟨t,rfl⟩:=J;cases y with
  | non=>cases B;exact PySem.EqNone.eq_int_none (bu I q (by simp))
  | int j=>obtain⟨t',rfl⟩:=B;exact eq_int (bu I q zR)
  | str j=>obtain⟨t',rfl⟩:=B;exact PySem.EqMixed.eq_int_str (bu I q (by simp))
  | _=>exact absurd (show false=true from G) Jq
 | str i =>
  obtain⟨t,rfl⟩:=J;cases y with
  | non=>cases B;exact PySem.EqNone.eq_str_none (bu I q (by simp))
  | bl j=>cases B;exact PySem.EqMixed.eq_str_bool (bu I q (by simp))
  | int j=>obtain⟨t',rfl⟩:=B;exact PySem.EqMixed.eq_str_int (bu I q (by simp))
  | str j=>obtain⟨t',rfl⟩:=B;exact eq_str (bu I q zQ)
  | _=>exact absurd (show false=true from G) Jq
 | byt i =>
  obtain⟨t,rfl⟩:=J;cases y with
  | byt j=>obtain⟨t',rfl⟩:=B;exact PySem.W.eq_bytes (bu I q zS)
  | _=>exact absurd (show false=true from G) Jq
 | _=>cases y<;>exact absurd (show false=true from G) Jq
theorem qP:OpR X (compareOp .NotEq) rNe:=by
 intro pins s σ H x y v u Q I J B h;obtain⟨G,q⟩:=h;cases x with
 | non =>
  cases J;cases y with
  | non=>cases B;exact PySem.EqNone.ne_none_none (bu I q (by simp))
  | bl j=>cases B;exact PySem.EqNone.ne_none_bool (bu I q (by simp))
  | int j=>obtain⟨t',rfl⟩:=B;exact PySem.EqNone.ne_none_int (bu I q (by simp))
  | str j=>obtain⟨t',rfl⟩:=B;exact PySem.EqNone.ne_none_str (bu I q (by simp))
  | _=>exact absurd (show false=true from G) Jq
 | bl i =>
  cases J;cases y with
  | non=>cases B;exact PySem.EqNone.ne_bool_none (bu I q (by simp))
  | bl j=>cases B;exact ne_bool (bu I q (Jz not Dz))
  | str j=>obtain⟨t',rfl⟩:=B;exact PySem.EqMixed.ne_bool_str (bu I q (by simp))
  | _=>exact absurd (show false=true from G) Jq
 | int i =>
  obtain⟨t,rfl⟩:=J;cases y with
  | non=>cases B;exact PySem.EqNone.ne_int_none (bu I q (by simp))
  | int j=>obtain⟨t',rfl⟩:=B;exact ne_int (bu I q (Jz not zR))
  | str j=>obtain⟨t',rfl⟩:=B;exact PySem.EqMixed.ne_int_str (bu I q (by simp))
  | _=>exact absurd (show false=true from G) Jq
 | str i =>
  obtain⟨t,rfl⟩:=J;cases y with
  | non=>cases B;exact PySem.EqNone.ne_str_none (bu I q (by simp))
  | bl j=>cases B;exact PySem.EqMixed.ne_str_bool (bu I q (by simp))
  | int j=>obtain⟨t',rfl⟩:=B;exact PySem.EqMixed.ne_str_int (bu I q (by simp))
  | str j=>obtain⟨t',rfl⟩:=B;exact ne_str (bu I q (Jz not zQ))
  | _=>exact absurd (show false=true from G) Jq
 | byt i =>
  obtain⟨t,rfl⟩:=J;cases y with
  | byt j=>obtain⟨t',rfl⟩:=B;exact PySem.W.ne_bytes (bu I q (Jz not zS))
  | _=>exact absurd (show false=true from G) Jq
 | _=>cases y<;>exact absurd (show false=true from G) Jq
def Es:R2:=fun x y H Q=>of2 (fun i j=>Q (.bl (decide (i < j))) H) x y
theorem jD:OpR X (compareOp .Lt) Es:=Gi fun _ _ _ _ _ _ _ q=>lt_int q
def Et:R2:=fun x y H Q=>of2 (fun i j=>Q (.bl (decide (i≤j))) H) x y
theorem Cy:OpR X (compareOp .LtE) Et:=Gi fun _ _ _ _ _ _ _ q=>le_int q
def Eu:R2:=fun x y H Q=>of2 (fun i j=>Q (.bl (decide (j < i))) H) x y
theorem qQ:OpR X (compareOp .Gt) Eu:=Gi fun _ _ _ _ _ _ _ q=>gt_int q
theorem kK:OpR X (compareOp .In) (fun x y H Q=>∃ i j,x=.str i∧y=.str j∧Q (.bl (!(Builtin.Str.occurrences j i 0 j.length 1).isEmpty)) H):=by
 intro pins s σ H x y v u Q I B G h;obtain⟨i,j,rfl,rfl,q⟩:=h;obtain⟨t,rfl⟩:=B;obtain⟨t',rfl⟩:=G;exact in_str (bu I q rfl)
theorem Gf:OpR X (compareOp .Is) (fun x y H Q=>y=.non∧Q (.bl (decide (x=.non))) H):=by
 intro pins s σ H x y v u Q I B G h;obtain⟨rfl,q⟩:=h;cases G;refine is_none_gen (bu I q ?_);cases x<;>first
  | (cases B;rfl)
  | (obtain⟨t,rfl⟩:=B;rfl)
theorem CI (b:Expr)(h:op≠.In:=by decide)(h2:op≠.NotIn:=by decide):behindInMarks op b=false:=by
 have B:(op == CmpOp.In)=false:=by cases op<;>first | rfl | exact absurd rfl h
 have G:(op == CmpOp.NotIn)=false:=by cases op<;>first | rfl | exact absurd rfl h2
 cases b<;>simp[behindInMarks,B,G]
theorem eJ {B:CmpOp}{r:R2}(G:OpR X (compareOp B) r)(J:PE X a ta)(O:PE X b tb)(U:behindInMarks B b=false:=by exact CI _):PE X (.Compare a [B] [b] pos) (tOp r ta tb):=by
 intro pins s σ H Q I h;exact wpAny_Compare1 (GU J O I h fun v u Y x y H2 I2 rx ry q=>G pins Y σ H2 x y v u Q I2 rx ry q) U
abbrev FB (t:TE):TT:=fun σ H Q=>t σ H fun x H1=>ofB (Q · H1) x
theorem aA {Q:Bool→Prop}{c:Bool}(h:Q c):ofB Q (.bl c):=h
theorem lZ {Q:Bool→Prop}{x:V}{c:Bool}(e:x=.bl c)(h:Q c):ofB Q x:=by subst e;exact h
theorem nW (e:x=.int i)(f:y=.int j)(h:Q i j):of2 Q x y:=by subst e f;exact h
theorem aH (B:OpR X (compareOp op) r)(G:PE X a ta)(J:PE X b tb)(O:behindInMarks op b=false:=by exact CI _):PT X (.Compare a [op] [b] pos) (FB (tOp r ta tb)):=by
 intro pins s σ H Q I h;refine wpAny_isTrue_Compare1 (thn (G pins s σ H _ I h) fun v U ⟨x,H1,Y,r1,q1⟩=>thn (J pins U σ H1 _ Y q1) fun u s2 ⟨y,H2,I2,r2,q2⟩ =>
  thn (B pins s2 σ H2 x y v u _ I2 r1 r2 q2) fun c s3 ⟨z,H3,I3,r3,q3⟩ =>?_) O
 obtain⟨k,rfl,q3⟩:=fC q3;cases r3;exact wpAny_truthy_bool ⟨H3,I3,q3⟩
abbrev BP (r r':R2)(ta tb tc:TE):TE:=fun σ H Q=>ta σ H fun x H1=>tb σ H1 fun y H2=>r x y H2 fun z H3=>∃ k,z=.bl k ∧
 (if k=true then tc σ H3 fun w' H4=>r' y w' H4 Q else Q (.bl false) H3)
theorem Ct (U:OpR X (compareOp op) r)(B:OpR X (compareOp op') r')(Y:PE X a ta)(hb:PE X b tb)(hc:PE X c tc)
  (hm:lastMarks [op,op'] [b,c]=false:=by with_unfolding_all rfl):PE X (.Compare a [op,op'] [b,c] pos) (BP r r' ta tb tc):=by
 intro pins s σ H Q I h;refine Compare_chain (thn (Y pins s σ H _ I h) fun v s1 ⟨x,H1,I1,r1,q1⟩=>chain_link (thn (hb pins s1 σ H1 _ I1 q1) fun u s2 ⟨y,H2,I2,G,q2⟩ =>
  thn (U pins s2 σ H2 x y v u _ I2 r1 G q2) fun d s3 ⟨z,J,O,r3,k,e,q3⟩ =>?_)) hm
 subst e;cases r3;refine wpAny_truthy_bool ?_;cases k with
 | false=>exact ite_ff ⟨.bl false,J,O,rfl,q3⟩
 | true=>exact ite_tt (chain_last (thn (hc pins s3 σ J _ O q3) fun w' s4 ⟨z',H4,I4,r4,q4⟩=>B pins s4 σ H4 y z' u w' Q I4 G r4 q4))
theorem wd (Y:OpR X (compareOp op) r)(B:OpR X (compareOp op') r')(ha:PE X a ta)(hb:PE X b tb)(hc:PE X c tc)
  (hm:lastMarks [op,op'] [b,c]=false:=by with_unfolding_all rfl):PT X (.Compare a [op,op'] [b,c] pos) (FB (BP r r' ta tb tc)):=by
 intro pins s σ H Q I h;refine isTrue_chain (thn (ha pins s σ H _ I h) fun v s1 ⟨x,H1,I1,r1,q1⟩=>test_link (thn (hb pins s1 σ H1 _ I1 q1) fun u s2 ⟨y,H2,I2,J,q2⟩ =>
  thn (Y pins s2 σ H2 x y v u _ I2 r1 J q2) fun d s3 ⟨z,O,U,r3,k,e,q3⟩ =>?_)) hm
 subst e;cases r3;refine wpAny_truthy_bool ?_;cases k with
 | false =>
  exact ite_ff ⟨O,U,q3⟩
 | true =>
  refine ite_tt (test_last (thn (hc pins s3 σ O _ U q3) fun w' s4 ⟨z',H4,I4,r4,q4⟩=>thn (B pins s4 σ H4 y z' u w' _ I4 J r4 q4) fun d' s5 ⟨z2,H5,I5,r5,G⟩ =>?_));obtain⟨k2,rfl,G⟩:=fC G;cases r5;exact wpAny_truthy_bool ⟨H5,I5,G⟩
theorem u_:(sizeLine:Nat) < 2 ^ 63:=by rw[sizeLine_eq];decide
theorem cO:OpR X (binaryOp .Add) (fun x y H Q=>∃ i j,x=.str i∧y=.str j∧i.length + j.length≤sizeLine∧Q (.str (i++j)) H):=by
 intro pins s σ H x y v u Q I B G h;obtain⟨i,j,rfl,rfl,J,q⟩:=h;obtain⟨t,rfl⟩:=B;obtain⟨t',rfl⟩:=G;exact add_str (fun t' tk=>⟨.str (i++j),H,I.tok _,⟨_,rfl⟩,q⟩) J
theorem jx (r:br [x] us):∃ u,us=[u]∧bz x u:=by
 cases r with
 | cons r1 r2=>cases r2;exact⟨_,rfl,r1⟩
theorem qg (r:br [x,y] us):∃ u w',us=[u,w']∧bz x u∧bz y w':=by
 cases r with
 | cons r1 r2 =>
  cases r2 with
  | cons r3 r4=>cases r4;exact⟨_,_,rfl,r1,r3⟩
theorem xl:gY X (.builtin "abs") (fun xs H Q=>∃ i,xs=[.int i]∧Q (.int (if i < 0 then -i else i)) H):=by
 intro pins s σ H xs us Q I r h;obtain⟨i,rfl,q⟩:=h;obtain⟨u,rfl,t,rfl⟩:=jx r;exact call_abs_int fun u tk=>⟨.int (if i < 0 then -i else i),H,I.tok _,⟨_,rfl⟩,q⟩
theorem iQ (B:X.calm=true):gY X (.builtin "max") (fun xs H Q=>∃ i j,xs=[.int i,.int j]∧Q (.int (if j > i then j else i)) H):=by
 intro pins s σ H xs us Q I r h;obtain⟨i,j,rfl,q⟩:=h;obtain⟨u,G,rfl,⟨t,rfl⟩,⟨t',rfl⟩⟩:=qg r;refine max_two_ints (I.ok.hd B) fun h' tk k=>⟨_,H,I.kept k,?_,q⟩;by_cases hj:j > i
 ·rw[if_pos hj,if_pos hj];exact⟨_,rfl⟩
 ·rw[if_neg hj,if_neg hj];exact⟨_,rfl⟩
theorem gB (B:X.calm=true):gY X (.builtin "min") (fun xs H Q=>∃ i j,xs=[.int i,.int j]∧Q (.int (if j < i then j else i)) H):=by
 intro pins s σ H xs us Q I r h;obtain⟨i,j,rfl,q⟩:=h;obtain⟨u,G,rfl,⟨t,rfl⟩,⟨t',rfl⟩⟩:=qg r;refine min_two_ints (I.ok.hd B) fun h' tk k=>⟨_,H,I.kept k,?_,q⟩;by_cases hj:j < i
 ·rw[if_pos hj,if_pos hj];exact⟨_,rfl⟩
 ·rw[if_neg hj,if_neg hj];exact⟨_,rfl⟩
theorem fv:gY X (.type "int") (fun xs H Q=>(∃ i,xs=[.int i]∧Q (.int i) H)∨∃ k,xs=[.bl k]∧Q (.int (if k then 1 else 0)) H):=by
 intro pins s σ H xs us Q I r h;rcases h with⟨i,rfl,q⟩ | ⟨k,rfl,q⟩
 ·obtain⟨u,rfl,t,rfl⟩:=jx r;exact call_int_int ⟨.int i,H,I,⟨_,rfl⟩,q⟩
 ·obtain⟨u,rfl,B⟩:=jx r;cases B;exact call_int_bool ⟨.int (if k then 1 else 0),H,I.tok _,⟨_,rfl⟩,q⟩
theorem nj:gY X (.type "str") (fun xs H Q=>∃ i,xs=[.int i]∧i.natAbs.log2 < 1920∧Q (.str (toString i)) H):=by
 intro pins s σ H xs us Q I r h;obtain⟨i,rfl,B,q⟩:=h;obtain⟨u,rfl,t,rfl⟩:=jx r;exact PySem.P.str_of_int B ⟨.str _,H,I.tok _,⟨_,rfl⟩,q⟩
def IV (K:Frag)(x:V)(H:Hp)(n:Nat):Prop :=
 match x with
 | .str y=>y.length≤sizeLine∧n=y.length
 | .byt y=>y.size≤sizeLine∧n=y.size
 | .ref p=>(∃ xs,SqL K H p xs∧n=xs.length)∨∃ xs,SqT K H p xs∧n=xs.length
 | _=>False
theorem bC:gY X (.builtin "len") (fun xs H Q=>∃ x n,xs=[x]∧IV X.K x H n∧Q (.int n) H):=by
 intro pins s σ H xs us Q I r h;obtain⟨x,n,rfl,e,q⟩:=h;obtain⟨u,rfl,J⟩:=jx r;have hl:=u_;have hs:sizeLine=16777216:=sizeLine_eq;cases x with
 | str y =>
  obtain⟨t,rfl⟩:=J;obtain⟨hy,G⟩:y.length≤sizeLine∧n=y.length:=e;subst G;exact len_str (by lia) ⟨.int _,H,I.tok _,⟨_,rfl⟩,q⟩
 | byt y =>
  obtain⟨t,rfl⟩:=J;obtain⟨hy,G⟩:y.size≤sizeLine∧n=y.size:=e;subst G;exact PySem.W.len_bytes (by lia) ⟨.int _,H,I.tok _,⟨_,rfl⟩,q⟩
 | ref p =>
  cases J;have G:(∃ xs,SqL X.K H p xs∧n=xs.length)∨∃ xs,SqT X.K H p xs∧n=xs.length:=e;rcases G with⟨xs,O,G⟩ | ⟨xs,O,G⟩
  ·subst G;obtain⟨its,U,Y,hz⟩:=I.list O;have B:=U.length;exact Calls.call_len_list Y.isList (by simp only[JC];lia) ⟨.int xs.length,H,I.tok _,⟨_,by simp only[JC];rw[B]⟩,q⟩
  ·subst G;obtain⟨its,U,Y,hz⟩:=I.tuple O;have B:=U.length;exact len_tuple Y (by simp only[JC];lia) ⟨.int xs.length,H,I.tok _,⟨_,by simp only[JC];rw[B]⟩,q⟩
 | _=>exact (show False from e).elim
end
structure G3 (h:Heap)(x dx C:Addr)(mA:Mg9):Prop where
 obj:h.get? x=some (instObj C dx)
 ns:h.Ns1 dx mA
 ne:dx≠x
theorem AW {h:Heap}{dx:Addr}{mA:Mg9}(n:h.Ns1 dx mA):∃ od,h.get? dx=some od∧∀ name,lookIn name od=some (mA name):=by
 obtain⟨o,es,ep,G,J,O,_,U⟩:=n;refine⟨o,G,fun name =>?_⟩;have e:=U name;unfold nsFind findBy at e;rw[← Array.find?_toList]at e;unfold lookIn;rw[J];dsimp only
 split
 ·rename_i y q
  rw[q]at e;exact Jz some e
 ·rename_i q
  rw[q]at e;have a:es.toList.any (·.refKey)=false:=by
   rw[List.any_eq_false];intro y Y;obtain⟨z,t,B⟩:=O y (Array.mem_toList_iff.mp Y);simp[DictEntry.refKey,B]
  have a':¬ es.toList.any (·.refKey)=true:=by rw[a];exact Jq
  rw[if_neg a'];exact Jz some e
theorem G3.look (I:G3 h x dx C mA):∃ od,PySem.W.InstAt h x (instObj C dx) C (some od)∧∀ name,lookIn name od=some (mA name) :=
 let ⟨od,ho,hl⟩:=AW I.ns
 ⟨od,⟨I.obj,rfl,rfl,ho⟩,hl⟩
theorem pi.some_of (r:pi (some v) o):∃ u,o=some u∧bz v u:=by
 cases o with
 | none=>exact (show False from r).elim
 | some u=>exact⟨u,rfl,r⟩
section
variable {P:Pg9}{w:Wd9}{H':Hp}{h h':Heap}{a C dx:Addr}{fs fs':List (Str × V)}
theorem E5 (B:HOk P w H h)(e:H a=some (.ins C dx fs)):∃ mA,G3 h a dx C mA∧(∀ f,pi (fs.lookup f) (mA f))∧PySem.Within mA (fs.map (·.1))∧fs.length≤1000∧H dx=some (.own a):=by
 obtain⟨d,z,ne,G,mA,n,r,q⟩:=(show ci P w H h a (.ins C dx fs) from B a _ e);exact⟨mA,⟨G,n,ne⟩,r,q,z,d⟩
end
structure Cls (K:Frag)(C:Addr):Prop where
 pg:PySem.W.plainGet K C Str.empty=true
 hd:PySem.W.hasDictIn K C=true
 po:PySem.W.plainOver K C=true
 sa:findIn K (.ref C) "__setattr__" = some (some (.builtin "object.__setattr__"))
theorem Cls.get {K:Frag}(c:Cls K C)(f:Str):PySem.W.plainGet K C f=true:=c.pg
section
variable {pins:Pn9}{σ:St}{E:EV9}{Q:EV9}{c:Value}{b:Bool}
inductive kW (K:Frag)(H:Hp):V→Value→Prop where
 | non:kW K H .non (.type "NoneType")
 | bl (x:Bool):kW K H (.bl x) (.type "bool")
 | int (i:Int):kW K H (.int i) (.type "int")
 | str (x:Str):kW K H (.str x) (.type "str")
 | flt (x:UInt64):kW K H (.flt x) (.type "float")
 | lst {a:Addr} {xs:List V} (e:H a=some (.lst xs)):kW K H (.ref a) (.type "list")
 | frz {a:Addr} {o:Obj} {xs:List V} (e:H a=some (.frz o (.lst xs))):kW K H (.ref a) (.type "list")
 | tup {a:Addr} {xs:List V} (e:H a=some (.tup xs)):kW K H (.ref a) (.type "tuple")
 | dK {a:Addr} {kvs:LK9} (e:H a=some (.dK kvs)):kW K H (.ref a) (.type "dict")
 | dT {a:Addr} {kvs:List (List Key × V)} (e:H a=some (.dT kvs)):kW K H (.ref a) (.type "dict")
 | ins {a C dx:Addr} {fs:List (Str × V)} (e:H a=some (.ins C dx fs)) (cl:Cls K C) (ha:findIn K (.ref C) "__class__" = some (some (.builtin "object.__class__")))
   (hn:PySem.W.specialIn K (.builtin "object.__class__") "__get__" = some (some (.builtin "getset_descriptor.__get__"))) (htk:PySem.W.takesIn K (.builtin "object.__class__")=some true)
   (hm:PySem.W.mroIn K C (.type "object")=some true):kW K H (.ref a) (.ref C)
theorem Bb (I:Inv X pins σ H s)(B:bz x u)(ty:kW X.K H x t)(e:kitOne X.K t c=some b)(h:∀ tk,Q (.bool b) { s with toks:=tk }):
  wpAny (model X.prog X.w) A (call (.builtin "isinstance") [u,c]) Q E s:=by
 cases ty with
 | non=>cases (show u=Value.none from B);exact kia_one PySem.W.kitx_none I.kIn True.intro e (fun z=>nomatch z) h
 | bl y=>cases (show u=Value.bool y from B);exact kia_one PySem.W.kitx_bool I.kIn True.intro e (fun z=>nomatch z) h
 | int i=>obtain⟨t,q⟩:=(show ∃ t,u=Value.int i t from B);cases q;exact kia_one PySem.W.kitx_int I.kIn True.intro e (fun z=>nomatch z) h
 | str y=>obtain⟨t,q⟩:=(show ∃ t,u=Value.str y t from B);cases q;exact kia_one PySem.W.kitx_str I.kIn True.intro e (fun z=>nomatch z) h
 | flt y=>obtain⟨t,q⟩:=(show ∃ t,u=Value.float y t from B);cases q;exact kia_one PySem.W.kitx_float I.kIn True.intro e (fun z=>nomatch z) h
 | @lst a xs ea =>
  cases (show u=Value.ref a from B);obtain⟨_,_,n,_,h1⟩:=(show ci X.prog X.w H s.heap a (.lst xs) from I.hok a _ ea);exact kia_one PySem.W.kitx_list I.kIn ⟨_,h1,rfl⟩ e (fun z=>nomatch z) h
 | @frz a ob xs ea =>
  cases (show u=Value.ref a from B);obtain⟨_,_,_,n,_,h1⟩:=(show ci X.prog X.w H s.heap a (.frz ob (.lst xs)) from I.hok a _ ea);exact kia_one PySem.W.kitx_list I.kIn ⟨_,h1,rfl⟩ e (fun z=>nomatch z) h
 | @tup a xs ea =>
  cases (show u=Value.ref a from B);obtain⟨_,_,_,p⟩:=(show ci X.prog X.w H s.heap a (.tup xs) from I.hok a _ ea);obtain⟨o,h1,h2,_⟩:=p;exact kia_one PySem.W.kitx_tuple I.kIn ⟨o,h1,h2⟩ e (fun z=>nomatch z) h
 | @dK a kvs ea =>
  cases (show u=Value.ref a from B);obtain⟨_,_,vs,_,p⟩:=(show ci X.prog X.w H s.heap a (.dK kvs) from I.hok a _ ea);obtain⟨o,es,ep,h1,h2,_⟩:=p;exact kia_one PySem.W.kitx_dict I.kIn ⟨o,h1,h2.1⟩ e (fun z=>nomatch z) h
 | @dT a kvs ea =>
  cases (show u=Value.ref a from B);obtain⟨_,_,xs,_,o,es,ep,h1,h2,_⟩:=(show ci X.prog X.w H s.heap a (.dT kvs) from I.hok a _ ea);exact kia_one PySem.W.kitx_dict I.kIn ⟨o,h1,h2.1⟩ e (fun z=>nomatch z) h
 | @ins a C dx fs ea cl ha hn htk hm =>
  cases (show u=Value.ref a from B);obtain⟨mA,O,_⟩:=E5 I.hok ea;obtain⟨od,J,_⟩:=O.look;exact kia_one (PySem.W.kitx_own (cl.get _) cl.hd ha hn htk hm) I.kIn J e (fun z=>nomatch z) h
end
structure dP (k:Nat)(A:Around):Prop where
 hd:A.handled=none
 dp:A.depth + 3 * k + 5 < recursionLimit
 un:A.units + 16 * k + 200 < cLine
theorem dP.mono (r:dP k A)(h:j≤k):dP j A:=⟨r.hd,by have:=r.dp;lia,by have:=r.un;lia⟩
theorem dP.deeper (r:dP (k + 1) A)(env:Env):dP k (A.deeper env) :=
 ⟨r.hd,by have:=r.dp;show A.depth + 1 + 3 * k + 5 < _;lia,by have:=r.un;show A.units + 3 + 16 * k + 200 < _;lia⟩
theorem dP.in1 (r:dP (k + 1) A):dP k A.in1 :=
 ⟨r.hd,by have:=r.dp;show A.depth + 3 * k + 5 < _;lia,by have:=r.un;show A.units + 1 + 16 * k + 200 < _;lia⟩
theorem dP.depth (r:dP k A):A.depth < recursionLimit:=by have:=r.dp;lia
theorem dP.units (r:dP k A):A.units + 64 < cLine:=by have:=r.un;lia
abbrev BO:TA:=fun _ H Q=>Q [] H
abbrev yN (ta:TE)(tr:TA):TA:=fun σ H Q=>ta σ H fun x H1=>tr σ H1 fun xs H2=>Q (x::xs) H2
section
variable {e:Expr}{es:List Expr}{te:TE}{t:TA}
theorem af:PA X [] BO:=fun _ _ _ _ H Q I h=>Calls.spliced_nil ⟨[],H,I,.nil,h⟩
theorem aa (B:PE X e te)(G:PA X es t)(J:starEach (e::es) X.env=(false,eval e X.env)::starEach es X.env:=by rfl):PA X (e::es) (yN te t):=by
 intro pos pins s σ H Q I h;rw[J];show wpAny _ _ (spliced ((false,eval e X.env)::backTo pos (starEach es X.env))) _ _ s;refine Calls.spliced_cons (thn (B pins s σ H _ I h) fun u O ⟨x,H1,U,Y,q1⟩ =>?_);exact thn (G pos pins O σ H1 _ U q1) fun us s2 ⟨xs,H2,I2,r2,q2⟩=>⟨x::xs,H2,I2,.cons Y r2,q2⟩
abbrev G8 (t:TA):TE:=fun σ H Q=>t σ H fun xs H1=>xs.length≤sizeLine∧Nw H1 (.tup xs) fun p H=>Q (.ref p) H
abbrev Hb (t:TA):TE:=fun σ H Q=>t σ H fun xs H1=>xs.length≤sizeLine∧Nw H1 (.lst xs) fun p H=>Q (.ref p) H
theorem Ga {x1}(h:PA X es t):PE X (.Tuple es x1 pos) (G8 t):=by
 intro pins s σ H Q I J;refine wpAny_Tuple_spliced (thn (h pos pins s σ H _ I J) fun us B ⟨xs,H1,G,r,z,q⟩=>⟨by rw[← r.length];exact z,?_⟩);have O:H1 B.heap.objs.size=none:=G.hok.fresh (I_ _);refine⟨.ref B.heap.objs.size,upd H1 B.heap.objs.size (.tup xs),G.laid (t':=B.toks) (fun b u e=>IY _ e) (I_ _) ?_,rfl,q _ O⟩;exact⟨z,us,r,⟨_,Ju _ rfl,rfl,_,rfl⟩⟩
theorem Gc (h:PA X es t):PE X (.List es pos) (Hb t):=by
 intro pins s σ H Q I J;refine wpAny_List_spliced (thn (h pos pins s σ H _ I J) fun us B ⟨xs,H1,G,r,z,q⟩=>⟨by rw[← r.length];exact z,?_⟩);have O:H1 B.heap.objs.size=none:=G.hok.fresh (I_ _);refine⟨.ref B.heap.objs.size,upd H1 B.heap.objs.size (.lst xs),G.laid (t':=B.toks) (fun b u e=>IY _ e) (I_ _) ?_,rfl,q _ O⟩;exact⟨z,us,0,r,Ju _ rfl⟩
end
abbrev Sp:=List V→Hp→VK→XK→Prop
abbrev CXT:=List Env→Hp→Sh9→XK→EV9
structure FA (P:Pg9)(w:Wd9)(K:Frag)(mg:Mg9)(base:Heap)(A:Around)(outer:List Env)(s:Sh9)(H:Hp):Prop where
 frames:A.frames=some outer
 mod:Mod K mg base
 bs:∀ b o,base.get? b=some o→s.heap.get? b=some o∧H b=none
 bsz:base.objs.size≤s.heap.objs.size
 funs:s.heap.FunFrames base outer
 frf:∀ b∈frs outer,H b=none
 hok:HOk P w H s.heap
 bare:AllBare s.gens
def CE (outer:List Env)(P:Pg9)(w:Wd9)(H:Hp)(s:Sh9)(Q:VK)(u:Value)(s':Sh9):Prop :=
 ∃ v H',s'.os=s.os∧AllBare s'.gens∧Un (frs outer) [] H H' s.heap s'.heap∧HOk P w H' s'.heap∧bz v u∧Q v H'
def CR (CX:CXT)(outer:List Env)(P:Pg9)(w:Wd9)(H:Hp)(s:Sh9)(Q:VK)(E:XK)(r:Result)(s':Sh9):Prop :=
 match r with
 | .ok (.ret u)=>CE outer P w H s Q u s'
 | .ok _=>False
 | .error e=>CX outer H s E e s'
structure bF (P:Pg9)(w:Wd9)(K:Frag)(mg:Mg9)(base:Heap)(CX:CXT)(k:Nat)(f:Addr)(fd:Fd9)(ps:List Str)(sp:Sp):Prop where
 len:∀ vs H Q E,sp vs H Q E→vs.length=ps.length
 run:∀ (A:Around) (outer:List Env) (s:Sh9) (H:Hp) (args:Args) (us:LV9) (vs:List V) (Q:VK) (E:XK),dP k A→FA P w K mg base A outer s H→BindsTo s fd args (ps.zip us)→br vs us→sp vs H Q E →
  codeAny (model P w) A (.call (.ref f) args) (CR CX outer P w H s Q E) s
section
variable {pins:Pn9}{σ:St}{s':Sh9}
theorem Inv.env0 (I:Inv X pins σ H s):FA X.prog X.w X.K X.mg X.base X.A X.stack s H :=
 ⟨I.ok.frames,I.ok.mod,I.bs,JA I.ok.bsz I.sz,I.stack,I.stkFree,I.hok,I.bare⟩
theorem Inv.after (I:Inv X pins σ H s)(h:CE X.stack X.prog X.w H s Q u s'):EP X pins σ Q u s':=by
 obtain⟨v,H',os,bare,un,B,r,q⟩:=h;obtain⟨J,g,d,t,G⟩:=s';obtain rfl:G=s.os:=os;exact⟨v,H',I.call (h':=J) (g':=g) (d':=d) (t':=t) (ch:=[]) un B bare (fun b z=>absurd z (by simp)),r,q⟩
end
abbrev BQ (sp:Sp)(dvs:List V)(E:XK)(t:TA):TE:=fun σ H Q=>t σ H fun vs H1=>sp (vs++dvs) H1 Q E
def fg (K:Frag)(fd:Fd9)(ps:List Str)(ds:LV9):Prop :=
 ∀ (s:Sh9) (us:LV9),K.In s.heap→(us++ds).length=ps.length→BindsTo s fd ⟨us,[]⟩ (ps.zip (us++ds))
theorem fg.all {K:Frag}(h:∀ us:LV9,us.length=ps.length→bindArgs fd ⟨us,[]⟩=pure (ps.zip us)):fg K fd ps []:=fun s us _ B=>by
 rw[J_]at B ⊢;exact .of_eq (h us B)
def rO (CX:CXT)(X:Cx)(E:XK):Prop:=∀ (pins:Pn9) (σ:St) (H:Hp) (s:Sh9) (e:Value) (s':Sh9),Inv X pins σ H s→CX X.stack H s E e s'→X.xe e s'
section
variable {CX:CXT}{k:Nat}{f C:Addr}{fd:Fd9}{ps:List Str}{sp:Sp}{dvs:List V}{ds:LV9}{E:XK}{x m:Str}{p apos:Pos}{e o:Expr}{es:List Expr}{ta:TE}{t:TA}
theorem F5 (F:bF X.prog X.w X.K X.mg X.base CX k f fd ps sp)(J:dP k X.A)(O:fg X.K fd ps ds)(U:br dvs ds)(Y:rO CX X E)
  (I:Inv X pins σ H s) (r:br vs us) (h:sp (vs++dvs) H Q E):wpAny (model X.prog X.w) X.A (call (.ref f) us) (EP X pins σ Q) X.xe s:=by
 have G:br (vs++dvs) (us++ds):=r.append U;have hl:(us++ds).length=ps.length:=by rw[← G.length];exact F.len _ _ _ _ h
 refine wpAny_call (codeAny_mono (F.run X.A X.stack s H ⟨us,[]⟩ (us++ds) (vs++dvs) Q E J I.env0 (O s us I.kIn hl) G h) fun r s' B =>?_);cases r with
 | error e=>exact Y pins σ H s e s' I B
 | ok fl =>
  cases fl with
  | ret u=>exact I.after B
  | next=>exact False.elim B
  | brk=>exact False.elim B
  | cont=>exact False.elim B
theorem EH (F:bF X.prog X.w X.K X.mg X.base CX k f fd ps sp)(O:dP k X.A)(U:Gl X x)(Y:X.mg x=some (.ref f))(hk:keepIn X.K (.ref f)=true)(hb:fg X.K fd ps ds)(hd:br dvs ds)(hx:rO CX X E)
  (ha:PA X (e::es) t) (B:(x == ("__debug__" : Str))=false:=by decide) (he:starEach (e::es) X.env=(false,eval e X.env)::starEach es X.env:=by rfl) (G:(backTo pos (starEach es X.env)).any (·.1)=false:=by rfl) :
  PE X (.Call (.Name x p) (e::es) [] pos) (BQ sp dvs E t):=by
 intro pins s σ H Q I h;refine wpAny_Call_Name_kw (vg I U Y ?_ B);refine PySem.W.callWith_K (h₀:=X.base) I.ok.mod.kin hk (thn (ha pos pins s σ H _ I h) fun us s1 ⟨vs,H1,J,r,q⟩=>⟨J.kIn,?_⟩) he G;exact F5 F O hb hd hx J r q
end
structure aE (N P:List Str)(sc:Scope):Prop where
 kind:sc.kind=.function:=by rfl
 co:sc.isCoroutine=false:=by rfl
 gen:sc.isGenerator=false:=by rfl
 nd:N.Nodup:=by decide +kernel
 pre:N.take P.length=P:=by rfl
 par:∀ x∈P,sc.names.lookup x=some .local∨sc.names.lookup x=some .cell:=by decide +kernel
 nofree:∀ y∈sc.names,y.2≠.free:=by decide +kernel
theorem tR {kindOf:Str→Option NameKind}{x:Str}:∀ {binds:List (Str × Value)} {m:Mg9},(∀ v,(x,v)∉binds)→bindL kindOf binds m x=m x
 | [],_,_=>rfl
 | (n,v)::r,m,h=>by
  unfold bindL;rw[tR fun w B=>h w (Ja _ B)]
  split
  ·have:x≠n:=by rintro rfl;exact h v Jg
   simp[this]
  ·rfl
theorem tU {kindOf:Str→Option NameKind}{x:Str}:∀ {binds:List (Str × Value)} {m:Mg9},(∀ v,(x,v)∉binds)→bindC kindOf binds m x=m x
 | [],_,_=>rfl
 | (n,v)::r,m,h=>by
  unfold bindC;rw[tU fun w B=>h w (Ja _ B)]
  split
  ·rfl
  ·have:x≠n:=by rintro rfl;exact h v Jg
   simp[this]
theorem tT {kindOf:Str→Option NameKind}{x:Str}{v:Value}:∀ {P:List Str} {vs:LV9} {i:Nat} {m:Mg9},P.Nodup→P[i]? = some x→vs[i]? = some v→kindOf x=some .local →
  bindL kindOf (P.zip vs) m x=some v
 | [],_,_,_,_,h,_,_=>by simp at h
 | _::_,[],_,_,_,_,h,_=>by simp at h
 | p::P,w::vs,0,m,nd,h1,h2,hk=>by
  simp at h1 h2;subst h1;subst h2;show bindL kindOf ((p,w)::P.zip vs) m p=_;unfold bindL;rw[tR fun v B=>(Kn.mp nd).1 (Ls B).1,if_pos hk];simp
 | p::P,w::vs,i + 1,m,nd,h1,h2,hk=>by
  show bindL kindOf ((p,w)::P.zip vs) m x=_;unfold bindL;exact tT (i:=i) (Kn.mp nd).2 (by simpa using h1) (by simpa using h2) hk
theorem tV {kindOf:Str→Option NameKind}{x:Str}{v:Value}:∀ {P:List Str} {vs:LV9} {i:Nat} {m:Mg9},P.Nodup→P[i]? = some x→vs[i]? = some v→kindOf x≠some .local →
  bindC kindOf (P.zip vs) m x=some v
 | [],_,_,_,_,h,_,_=>by simp at h
 | _::_,[],_,_,_,_,h,_=>by simp at h
 | p::P,w::vs,0,m,nd,h1,h2,hk=>by
  simp at h1 h2;subst h1;subst h2;show bindC kindOf ((p,w)::P.zip vs) m p=_;unfold bindC;rw[tU fun v B=>(Kn.mp nd).1 (Ls B).1,if_neg hk];simp
 | p::P,w::vs,i + 1,m,nd,h1,h2,hk=>by
  show bindC kindOf ((p,w)::P.zip vs) m x=_;unfold bindC;exact tV (i:=i) (Kn.mp nd).2 (by simpa using h1) (by simpa using h2) hk
def start (N:List Str)(vs:List V):St:=vs.map some++List.replicate (N.length - vs.length) none
def jp (CX:CXT)(P:Pg9)(w:Wd9)(K:Frag)(mg:Mg9)(base:Heap)(N:List Str)(qual:Str)(scope:Scope)(f:Addr)(cd:Value)(A:Around)(outer:List Env)(s:Sh9)(H:Hp)(E:XK):Cx where
 prog:=P
 w:=w
 K:=K
 mg:=mg
 base:=base
 A:=A.deeper (envOfC qual scope s.heap.objs.size f cd)
 N:=N
 s₀:=s
 H₀:=H
 env:=envOfC qual scope s.heap.objs.size f cd
 outer:=outer
 stack:=envOfC qual scope s.heap.objs.size f cd::outer
 ex:=[]
 calm:=true
 fn:=fun _=>true
 pn:=[]
 xe:=fun e s'=>wpAny (model P w) (A.deeper (envOfC qual scope s.heap.objs.size f cd)) (leaving (envOfC qual scope s.heap.objs.size f cd) e) (fun _ s''=>CX outer H s E e s'') (fun e' s''=>CX outer H s E e' s'') s'
theorem xi {B:Scope}{n:Nat}{x:Str}(h:B.names.lookup x=some .cell):∃ c,(cellsFrom n B.names []).lookup x=some c:=by
 have q:=PySem.W.cellsFrom_some B.names n [] (.inl h);exact JG.mp q
theorem Bc {CX:CXT}{P:Pg9}{w:Wd9}{K:Frag}{mg:Mg9}{base:Heap}{N ps:List Str}{qual:Str}{scope:Scope}{f:Addr}{cd:Value}{A:Around}{outer:List Env}{s Y:Sh9}{H:Hp}{E:XK}{us:LV9}{vs:List V}
  (S:aE N ps scope) (hd:A.handled=none) (B:FA P w K mg base A outer s H) (hl:vs.length=ps.length) (r:br vs us)
  (x:InCallC s s.heap.objs.size (bindL (envOfC qual scope s.heap.objs.size f cd).kindOf (ps.zip us) fun _=>none) (cellsFrom (s.heap.objs.size + 1) scope.names []) (bindC (envOfC qual scope s.heap.objs.size f cd).kindOf (ps.zip us) fun _=>none) Y) :
  Inv (jp CX P w K mg base N qual scope f cd A outer s H E) [] (start N vs) H Y:=by
 have a0:ps.length≤N.length:=by have:=Jz List.length S.pre;rw[JO]at this;lia
 obtain⟨h1,tk,rfl,hk⟩:=x.done;have G:∀ b:Addr,b∉(jp CX P w K mg base N qual scope f cd A outer s H E).ex:=fun b z=>absurd (show b∈([]:List Addr) from z) (by simp);refine⟨⟨B.mod,S.kind,rfl,rfl,I_ _,fun y z c h1 h2 =>?_,fun y J =>?_,fun y c _ h =>?_,fun _=>hd,Around.frames_deeper B.frames,.inr ⟨rfl,rfl⟩,fun b z=>absurd z (G b),B.bs,B.bsz,fun b _ _=>G b,fun b z=>absurd z (G b),B.funs,B.frf⟩,
  rfl,B.bare,Un.kept hk,⟨_,x.toInCall.ns,fun i y v h1 h2 h3 =>?_⟩,fun y c h=>⟨_,x.cell y c h⟩,B.hok.fresh (I_ _),fun y c h =>?_,fun p O=>absurd (show p∈([]:Pn9) from O) (by simp),B.hok.kept hk,?_⟩
 ·exact name_of_addr x.apart (PySem.mem_of_lookup h1) (PySem.mem_of_lookup h2)
 ·have J:scope.names.lookup y=some .cell∨scope.names.lookup y=some .free:=J;rcases J with J | J
  ·exact xi J
  ·exact absurd rfl (S.nofree _ (PySem.mem_of_lookup J))
 ·exact KP (x.above y c (PySem.mem_of_lookup h))
 ·have hi:i < vs.length:=by
   unfold start at h2;by_cases hi:i < vs.length
   ·exact hi
   ·rw[JY (by simpa using hi)]at h2;rw[Lv]at h2
    split at h2<;>cases h2
  have ha:vs[i]? = some v:=by
   unfold start at h2;rw[JM (by simpa using hi),JL]at h2;cases e:vs[i]? with
   | none=>rw[e]at h2;cases h2
   | some a=>rw[e]at h2;cases h2;rfl
  obtain⟨u,hu,rv⟩:=r.get ha;have O:ps[i]? = some y:=by
   rw[← S.pre,List.getElem?_take_of_lt (by lia)];exact h1
  have U:ps.Nodup:=by rw[← S.pre];exact S.nd.sublist (L9 _ _)
  refine⟨u,rv,?_⟩;rcases S.par y (Jh O) with k | k
  ·exact .inl ⟨k,tT U O hu k⟩
  ·obtain⟨c,e⟩:=xi (n:=s.heap.objs.size + 1) k;refine .inr ⟨.inl k,c,e,?_⟩;have q:=x.cell y c e;rw[tV U O hu (by show scope.names.lookup y≠_;rw[k];decide)]at q;exact q
 ·exact B.hok.fresh (KP (x.above y c (PySem.mem_of_lookup h)))
 ·unfold start;show _=N.length;rw[I8,I0,Lg]
  lia
theorem Dd {CX:CXT}{P:Pg9}{w:Wd9}{K:Frag}{mg:Mg9}{base:Heap}{k:Nat}{f:Addr}{name qual:Str}{G:Arguments}{O:List Stmt}{scope:Scope}{dV kV doc pm B ct oc:Value}{an od:Option Addr}
  {a1:Array (OV9)} {N ps:List Str} {sp:Sp} (lk:K.lookup f=some ⟨oc,od,.func (fnOf name qual G O scope dV kV doc pm an B ct),a1⟩) (a2:codeIn K B qual=true) (S:aE N ps scope)
  (len:∀ vs H Q E,sp vs H Q E→vs.length=ps.length)
  (U:∀ (A:Around) (outer:List Env) (s:Sh9) (H:Hp) (vs:List V) (Q:VK) (E:XK),dP k (A.deeper (envOfC qual scope s.heap.objs.size f B))→sp vs H Q E →
   ∃ t,PSs (jp CX P w K mg base N qual scope f B A outer s H E) O t∧t { nx:=fun _ H'=>Q .non H',rt:=Q } (start N vs) H) :
  bF P w K mg base CX (k + 1) f (fnOf name qual G O scope dV kV doc pm an B ct) ps sp:=by
 refine⟨len,fun A outer s H args us vs Q E hr e0 hb r a0 =>?_⟩;have hl:=len _ _ _ _ a0;have KX:K.In s.heap:=e0.mod.kin.keeps fun b o e=>(e0.bs b o e).1;have a3:s.heap.NoLimit:=e0.mod.nolimit.keeps fun b o e=>(e0.bs b o e).1;have Y:∀ y∈ps.zip us,scope.names.lookup y.1=some .local∨(scope.names.lookup y.1=some .cell∧((cellsFrom (s.heap.objs.size + 1) scope.names []).lookup y.1).isSome=true):=fun⟨n,v⟩ hy=>by
  rcases S.par n (Ls hy).1 with q|q
  ·exact .inl q
  ·exact .inr ⟨q,PySem.W.cellsFrom_some _ _ _ (.inl q)⟩
 refine codeAny_call_function hr.depth (KX _ _ lk) rfl S.co S.gen rfl (PySem.W.codeRec_of KX a2) (hb _ _ _ _ ?_);refine wpAny_newFunctionEnv_cells S.kind Y fun env he s1 x =>?_;subst he;refine⟨a3.keeps x.toInCall.keep,codeAny_func ?_⟩;obtain⟨t,ht,hq⟩:=U A outer s H vs Q E (hr.deeper _) a0;have I:Inv (jp CX P w K mg base N qual scope f B A outer s H E) [] (start N vs) H s1:=Bc S hr.hd e0 hl r x;refine Kf (ht [] s1 (start N vs) H _ I hq) (fun fl s' hs =>?_) fun e s' hs=>hs;have fin:∀ {σ':St} {H':Hp} {v:V} {u:Value},Inv (jp CX P w K mg base N qual scope f B A outer s H E) [] σ' H' s'→bz v u→Q v H'→CE outer P w H s Q u s' :=
  fun {σ' H' v u} J rv q=>⟨v,H',J.os,J.bare,J.base,J.hok,rv,q⟩
 cases fl with
 | ret u =>
  obtain⟨v,σ',H',J,rv,q⟩:=hs;exact fin J rv q
 | next =>
  obtain⟨σ',H',J,q⟩:=hs;exact fin (v:=V.non) (u:=Value.none) J rfl q
 | brk =>
  obtain⟨_,_,_,q⟩:=hs;exact False.elim q
 | cont =>
  obtain⟨_,_,_,q⟩:=hs;exact False.elim q
section
variable {x:Str}{p:Pos}{e:Expr}{es:List Expr}{t:TA}{id T:String}{r:List V→HV9}
abbrev tCB (r:List V→HV9)(t:TA):TE:=fun σ H Q=>t σ H fun vs H1=>r vs H1 Q
theorem az (J:gY X (.builtin id) r)(O:Gl X x)(U:X.mg x=none)(Y:bootBuiltins x=some (.builtin id))(ha:PA X (e::es) t)(hn:x ≠ "__name__" := by decide)(B:(x == ("__debug__" : Str))=false:=by decide)
  (he:starEach (e::es) X.env=(false,eval e X.env)::starEach es X.env:=by rfl) (G:(backTo pos (starEach es X.env)).any (·.1)=false:=by rfl):PE X (.Call (.Name x p) (e::es) [] pos) (tCB r t):=by
 intro pins s σ H Q I h;refine wpAny_Call_Name_kw (l_ I O U Y ?_ hn B);exact PyProof.Rows.callWith_builtin1 (thn (ha pos pins s σ H _ I h) fun us s1 ⟨vs,H1,I1,r1,q1⟩=>J pins s1 σ H1 vs us Q I1 r1 q1) he G
theorem bL (J:gY X (.type T) r)(O:Gl X x)(U:X.mg x=none)(Y:bootBuiltins x=some (.type T))(ha:PA X (e::es) t)(hn:x ≠ "__name__" := by decide)(B:(x == ("__debug__" : Str))=false:=by decide)
  (he:starEach (e::es) X.env=(false,eval e X.env)::starEach es X.env:=by rfl) (G:(backTo pos (starEach es X.env)).any (·.1)=false:=by rfl):PE X (.Call (.Name x p) (e::es) [] pos) (tCB r t):=by
 intro pins s σ H Q I h;refine wpAny_Call_Name_kw (l_ I O U Y ?_ hn B);exact PyProof.Rows.callWith_type1 (thn (ha pos pins s σ H _ I h) fun us s1 ⟨vs,H1,I1,r1,q1⟩=>J pins s1 σ H1 vs us Q I1 r1 q1) he G
end
end L2
namespace HT
open PySem PyProof.Rows
section
variable {prog:Program}{w:World}{A:Around}{E:Value→Shared→Prop}{s:Shared}
def sIx (n d:Nat):Option Int→Nat
 | none=>d
 | some v=>if v < 0 then (v + (n:Int)).toNat else min v.toNat n
end
end HT
namespace L2
open PySem PySem.Spec PyProof.Rows
variable {H:Hp}{X:Cx}{s:Sh9}{pos:Pos}{prog:Pg9}{A:Around}{K:Frag}
abbrev TO:=St→Hp→(Option Int→Hp→Prop)→Prop
def PO (X:Cx)(e:Option Expr)(t:TO):Prop :=
 ∀ (pins:Pn9) (s:Sh9) (σ:St) (H:Hp) (Q:Option Int→Hp→Prop),Inv X pins σ H s→t σ H Q →
  wpAny (model X.prog X.w) X.A (evalPart e X.env) (fun u s'=>∃ o H',Inv X pins σ H' s'∧IsPart u o∧Q o H') X.xe s
def D7:TO:=fun _ H Q=>Q none H
abbrev G9 (t:TE):TO:=fun σ H Q=>t σ H fun x H1=>∃ i,x=.int i∧Q (some i) H1
theorem yl:∀ {us:LV9},br (ns.map V.int) us→IntsAre us ns:=by
 induction ns with
 | nil=>intro us r;rw[Kh]at r;cases r;exact .nil
 | cons n ns ih =>
  intro us r;rw[Jl]at r;cases r with
  | cons r1 r2 =>
   obtain⟨t,e⟩:=r1;subst e;exact .cons n t (ih r2)
section
variable {e:Expr}{te:TE}{lo hi:Option Expr}{tl th:TO}{p2:Pos}
theorem fB:PO X none D7:=by
 intro pins s σ H Q I h;rw[evalPart_none];exact Jp ⟨none,H,I,.none,h⟩
theorem di (h:PE X e te):PO X (some e) (G9 te):=by
 intro pins s σ H Q I B;rw[evalPart_some];refine thn (h pins s σ H _ I B) fun u O ⟨x,H1,G,J,q1⟩ =>?_;obtain⟨i,rfl,q⟩:=q1;obtain⟨t,rfl⟩:=J;exact⟨some i,H1,G,.int i t,q⟩
def SlR (X:Cx)(r:V→Option Int→Option Int→HV9):Prop :=
 ∀ (pins:Pn9) (s:Sh9) (σ:St) (H:Hp) (x:V) (v vl vu:Value) (lo hi:Option Int) (sl:Addr) (Q:VK),Inv X pins σ H s→bz x v→s.heap.IsSliceOf sl vl vu .none→IsPart vl lo→IsPart vu hi→r x lo hi H Q →
  ∃ T id,typeLookup (.type T) "__getitem__" = pure (some (.builtin id))∧s.TypeIs v T∧wpAny (model X.prog X.w) X.A (getItem v (.ref sl)) (EP X pins σ Q) X.xe s
abbrev tSl (r:V→Option Int→Option Int→HV9)(te:TE)(tl th:TO):TE:=fun σ H Q=>te σ H fun x H1=>tl σ H1 fun l H2=>th σ H2 fun u H3=>r x l u H3 Q
theorem c9 (U:SlR X r)(Y:PE X e te)(hl:PO X lo tl)(hu:PO X hi th):PE X (.Subscript e (.Slice lo hi none p2) pos) (tSl r te tl th):=by
 intro pins s σ H Q I h;refine Subscript_ (thn (Y pins s σ H _ I h) fun v s1 ⟨x,H1,I1,r1,q1⟩ =>?_);refine wpAny_Slice (thn (hl pins s1 σ H1 _ I1 q1) fun G s2 ⟨l,H2,I2,pl,q2⟩=>thn (hu pins s2 σ H2 _ I2 q2) fun J B ⟨u,O,I3,pu,q3⟩ =>?_);rw[evalPart_none];refine Jp ?_;have I4:Inv X pins σ O { B with heap:=B.heap.push { cls:=.type "slice",data:=.fields #[G,J,.none] } }:=I3.kept (t':=B.toks) fun b ob q=>IY _ q
 obtain⟨T,id,hT,ht,hg⟩:=U pins { B with heap:=B.heap.push { cls:=.type "slice",data:=.fields #[G,J,.none] } } σ O x v G J l u B.heap.objs.size Q I4 r1 (Heap.IsSliceOf.new ..) pl pu q3
 show wpAny (model X.prog X.w) X.A (subscriptTail e (.Slice lo hi none p2) v (.ref B.heap.objs.size)) (EP X pins σ Q) X.xe { B with heap:=B.heap.push { cls:=.type "slice",data:=.fields #[G,J,.none] } }
 exact tail_any (ops:=[.ref B.heap.objs.size,v]) ht hT hg (by with_unfolding_all rfl)
def sD (xs:List V)(lo hi:Option Int):List V:=(xs.drop (HT.sIx xs.length 0 lo)).take (HT.sIx xs.length xs.length hi - HT.sIx xs.length 0 lo)
theorem wX (xs:List V)(lo hi:Option Int):(sD xs lo hi).length≤xs.length:=by
 unfold sD;rw[JO,KN]
 lia
end
def ixN (n:Nat)(i:Int):Option Nat:=if 0≤i then (if i < n then some i.toNat else none) else if -(n:Int)≤i then some (i + n).toNat else none
def atI {α:Type}(xs:List α)(i:Int):Option α:=(ixN xs.length i).bind fun j=>xs[j]?
theorem E4 (h:ixN n i=some j):seqIndex? i n=some j∧j < n∧-(n:Int)≤i∧i < n:=by
 unfold ixN at h;by_cases h0:0≤i
 ·rw[if_pos h0]at h;by_cases h1:i < n
  ·rw[if_pos h1]at h;have e:i.toNat=j:=Option.some.inj h;exact⟨by rw[seqIndex_of h0 h1,e],by lia,by lia,h1⟩
  ·rw[if_neg h1]at h;cases h
 ·rw[if_neg h0]at h;by_cases h1:-(n:Int)≤i
  ·rw[if_pos h1]at h;have e:(i + n).toNat=j:=Option.some.inj h;exact⟨by rw[seqIndex_neg (by lia) h1,e],by lia,h1,by lia⟩
  ·rw[if_neg h1]at h;cases h
theorem vG (h:atI xs i=some v):∃ j,seqIndex? i xs.length=some j∧xs[j]? = some v∧j < xs.length∧-(xs.length:Int)≤i∧i < xs.length:=by
 unfold atI at h;cases e:ixN xs.length i with
 | none=>rw[e]at h;cases h
 | some j =>
  rw[e]at h;obtain⟨h1,h2,B,G⟩:=E4 e;exact⟨j,h1,h,h2,B,G⟩
theorem bV {α:Type}{xs:List α}{j:Nat}{v:α}(h:xs[j]? = some v):atI xs (j:Int)=some v:=by
 have hj:j < xs.length:=(IZ.mp h).1;have e:ixN xs.length (j:Int)=some j:=by
  unfold ixN;rw[if_pos (by simp),if_pos (by lia)];simp
 unfold atI;rw[e];exact h
theorem DQ (xs:List α)(v:α):atI (xs++[v]) (-1)=some v:=by
 have B:(xs++[v]).length=xs.length + 1:=by simp
 have e:ixN (xs++[v]).length (-1)=some xs.length:=by
  unfold ixN;rw[B,if_neg (by decide),if_pos (by lia)]
  congr 1
  lia
 unfold atI;rw[e];show (xs++[v])[xs.length]? = some v;simp
def Fw (b:Expr):Prop:=∀ o i,subscripted b false o i=operate [o,i] (getItem o i)
def IxR (X:Cx)(r:R2):Prop :=
 ∀ (value slice:Expr) (pins:Pn9) (s:Sh9) (σ:St) (H:Hp) (x y:V) (v u:Value) (Q:VK),Inv X pins σ H s→bz x v→bz y u→r x y H Q →
  subscripted slice false v u=operate [v,u] (getItem v u)→wpAny (model X.prog X.w) X.A (subscriptTail value slice v u) (EP X pins σ Q) X.xe s
def MtR (X:Cx)(id:String)(r:V→List V→HV9):Prop :=
 ∀ (pins:Pn9) (s:Sh9) (σ:St) (H:Hp) (x:V) (xs:List V) (v:Value) (us:LV9) (Q:VK),Inv X pins σ H s→bz x v→br xs us→r x xs H Q →
  wpAny (model X.prog X.w) X.A (call (.builtin id) (v::us)) (EP X pins σ Q) X.xe s
section
variable {a b:Expr}{ta tb:TE}
theorem ay {r:R2}(B:IxR X r)(G:PE X a ta)(J:PE X b tb)(O:Fw b:=by exact fun _ _=>rfl):PE X (.Subscript a b pos) (tOp r ta tb):=by
 intro pins s σ H Q I h;exact Subscript_ (GU G J I h fun v u U x y H2 Y rx ry q=>B a b pins U σ H2 x y v u Q Y rx ry q (O _ _))
inductive FP (K:Frag)(x:V)(y:V)(H:Hp)(Q:VK):Prop
 | mk (p xs i v:_) (h_0:x=.ref p) (h_1:y=.int i) (h_2:SqL K H p xs) (h_3:atI xs i=some v) (h_4:Q v H):FP K x y H Q
def Hm (K:Frag):R2:=fun x y H Q=>FP K x y H Q
inductive FO (K:Frag)(x:V)(y:V)(H:Hp)(Q:VK):Prop
 | mk (p xs i v:_) (h_0:x=.ref p) (h_1:y=.int i) (h_2:SqT K H p xs) (h_3:atI xs i=some v) (h_4:Q v H):FO K x y H Q
def Hl (K:Frag):R2:=fun x y H Q=>FO K x y H Q
def IB:R2:=fun x y H Q=>∃ z i c,x=.str z∧y=.int i∧z.length≤sizeLine∧atI z.cps.toList i=some c∧Q (.str ⟨#[c]⟩) H
theorem bK:IxR X (Hm X.K):=by
 intro value B pins s σ H x y v u Q I Y ry h O;obtain⟨p,xs,i,z,rfl,rfl,hq,he,q⟩:=h;cases Y;obtain⟨t,rfl⟩:=ry;obtain⟨its,r,G,hz⟩:=I.list hq;obtain⟨j,h1,h2,h3,h4,h5⟩:=vG he;obtain⟨w,U,J⟩:=r.get h2;have hl:=r.length;have hn:=u_;have fin:EP X pins σ Q w s:=⟨z,H,I,J,q⟩;by_cases h0:0≤i
 ·have hj:i.toNat=j:=by
   rw[seqIndex_of h0 h5]at h1;exact Option.some.inj h1
  exact item_listR G.isList h0 (by lia) (by rw[hj];simpa using U) fin O
 ·have hj:(i + (its.toArray.size:Int)).toNat=j:=by
   rw[seqIndex_neg (by lia) h4]at h1;rw[JC,← hl];exact Option.some.inj h1
  exact subscriptTail_builtinR (x:=w) G.isList.typeIs slot_list_getitem.lookup
   (wpAny_getItem_list_neg (Q:=fun r s'=>r=w∧EP X pins σ Q r s') G.isList (by lia) (by rw[JC]<;>lia) (by lia) (by rw[hj];simpa using U) ⟨rfl,fin⟩) O
theorem aD:IxR X (Hl X.K):=by
 intro value B pins s σ H x y v u Q I O U h Y;obtain⟨p,xs,i,z,rfl,rfl,hq,he,q⟩:=h;cases O;obtain⟨t,rfl⟩:=U;obtain⟨its,r,J,hz⟩:=I.tuple hq;obtain⟨j,h1,h2,h3,h4,h5⟩:=vG he;obtain⟨w,ew,G⟩:=r.get h2;have hl:=r.length;have hn:=u_;have fin:EP X pins σ Q w s:=⟨z,H,I,G,q⟩;exact subscriptTail_builtinR (x:=w) J.typeIs slot_tuple_getitem.lookup
  (getItem_tuple (j:=j) (Q:=fun r s'=>r=w∧EP X pins σ Q r s') J (by lia) (by lia) (by rw[JC,← hl];exact h1) (by simpa using ew) ⟨rfl,fin⟩) Y
theorem j7:IxR X IB:=by
 intro value B pins s σ H x y v u Q I G J h O;obtain⟨z,i,c,rfl,rfl,hz,U,q⟩:=h;obtain⟨t,rfl⟩:=G;obtain⟨t',rfl⟩:=J;obtain⟨j,h1,h2,h3,Y,h5⟩:=vG U;have hl:z.cps.toList.length=z.length:=by simp[Str.length]
 rw[hl]at h1 Y h5;have hn:=u_;exact tail_any (typeIs_str s z t) slot_str_getitem.lookup (getItem_str (c:=c) (by
  have e1:decide (i < -(2 ^ 63:Int))=false:=JT (by lia);have e2:decide (i ≥ 2 ^ 63)=false:=JT (by lia);rw[e1,e2,Bool.or_false]) (by rw[h1];simpa using h2) ⟨.str ⟨#[c]⟩,H,I.tok _,⟨_,rfl⟩,q⟩) O
theorem uw (lo hi:Option Int)(n:Nat):(sliceBounds lo hi none n).1=((HT.sIx n 0 lo:Nat):Int)∧(sliceBounds lo hi none n).2.1=((HT.sIx n n hi:Nat):Int)∧(sliceBounds lo hi none n).2.2=1:=by
 refine⟨?_,?_,rfl⟩
 ·cases lo with
  | none=>simp[sliceBounds,HT.sIx]
  | some i =>
   simp only[sliceBounds,HT.sIx,Option.getD_none,show (1:Int) > 0 by decide,if_true];by_cases h:i < 0
   ·simp only[h,if_true]<;>lia
   ·simp only[h,if_false]<;>lia
 ·cases hi with
  | none=>simp[sliceBounds,HT.sIx]
  | some i =>
   simp only[sliceBounds,HT.sIx,Option.getD_none,show (1:Int) > 0 by decide,if_true];by_cases h:i < 0
   ·simp only[h,if_true]<;>lia
   ·simp only[h,if_false]<;>lia
theorem r6 (its:LV9)(lo hi:Option Int):slicePick its.toArray lo hi none=((its.drop (HT.sIx its.length 0 lo)).take (HT.sIx its.length its.length hi - HT.sIx its.length 0 lo)).toArray:=by
 obtain⟨h1,h2,B⟩:=uw lo hi its.toArray.size;unfold slicePick;rw[h1,h2,B];simp only[sliceRange_one,pick_run,JC]<;>rfl
def IA (K:Frag):V→Option Int→Option Int→HV9:=fun x lo hi H Q=>∃ a xs,x=.ref a∧SqL K H a xs∧Nw H (.lst (sD xs lo hi)) fun p H=>Q (.ref p) H
theorem uz:SlR X (IA X.K):=by
 intro pins s σ H x v vl vu lo hi sl Q I J O U Y h;obtain⟨a,xs,rfl,hx,q⟩:=h;cases J;obtain⟨its,r,G,hz⟩:=I.list hx;have B:=r.length;refine⟨"list",_,slot_list_getitem.lookup,G.isList.typeIs,?_⟩
 refine wpAny_getItem_list_slice G.isList O U Y .none (by simp) ?_ (by rw[JC]<;>lia);rw[r6,← B];refine⟨.ref s.heap.objs.size,_,I.laid (t':=s.toks) (o:=.lst (sD xs lo hi)) (fun b ob q=>IY _ q) (I_ _) ?_,rfl,q _ (I.hok.fresh (I_ _))⟩;exact⟨JA (wX xs lo hi) hz,_,0,(r.drop (HT.sIx xs.length 0 lo)).take (HT.sIx xs.length xs.length hi - HT.sIx xs.length 0 lo),Ju _ rfl⟩
def j8:V→Bool
 | .non=>true
 | .bl _=>true
 | .int _=>true
 | .str _=>true
 | _=>false
def eqV:V→V→Bool
 | .non,.non=>true
 | .bl a,.bl b=>a == b
 | .bl a,.int b=>(if a then 1 else 0) == b
 | .int a,.bl b=>a == (if b then 1 else 0)
 | .int a,.int b=>a == b
 | .str a,.str b=>a == b
 | _,_=>false
theorem GM (G:bz y u)(B:bz x v)(O:j8 y=true)(J:j8 x=true):SeqAt.EqAt A s u v (eqV y x):=by
 cases y with
 | non =>
  cases G;cases x with
  | non=>cases B;exact SeqAt.EqAt.same _
  | bl b=>cases B;exact SeqAt.EqAt.none_bool b
  | int b=>obtain⟨t,rfl⟩:=B;exact SeqAt.EqAt.none_int b t
  | str b=>obtain⟨t,rfl⟩:=B;exact SeqAt.EqAt.none_str b t
  | _=>exact absurd (show false=true from J) Jq
 | bl a =>
  cases G;cases x with
  | non=>cases B;exact SeqAt.EqAt.bool_none a
  | bl b=>cases B;exact SeqAt.EqAt.bool_bool a b
  | int b=>obtain⟨t,rfl⟩:=B;exact SeqAt.EqAt.bool_int a b t
  | str b=>obtain⟨t,rfl⟩:=B;exact SeqAt.EqAt.bool_str a b t
  | _=>exact absurd (show false=true from J) Jq
 | int a =>
  obtain⟨t',rfl⟩:=G;cases x with
  | non=>cases B;exact SeqAt.EqAt.int_none a t'
  | bl b=>cases B;exact SeqAt.EqAt.int_bool a t' b
  | int b=>obtain⟨t,rfl⟩:=B;exact SeqAt.EqAt.int_int a t' b t
  | str b=>obtain⟨t,rfl⟩:=B;exact SeqAt.EqAt.int_str a t' b t
  | _=>exact absurd (show false=true from J) Jq
 | str a =>
  obtain⟨t',rfl⟩:=G;cases x with
  | non=>cases B;exact SeqAt.EqAt.str_none a t'
  | bl b=>cases B;exact SeqAt.EqAt.str_bool a t' b
  | int b=>obtain⟨t,rfl⟩:=B;exact SeqAt.EqAt.str_int a t' b t
  | str b=>obtain⟨t,rfl⟩:=B;exact SeqAt.EqAt.str_str a t' b t
  | _=>exact absurd (show false=true from J) Jq
 | _=>exact absurd (show false=true from O) Jq
def eqU (x:V)(u:Value):Bool:=match u with
 | .none=>eqV .non x
 | .bool b=>eqV (.bl b) x
 | .int i _=>eqV (.int i) x
 | .str z _=>eqV (.str z) x
 | _=>false
theorem Dp (r:bz y u)(f:j8 y=true):eqU x u=eqV y x:=by
 cases y with
 | non=>cases r;rfl
 | bl b=>cases r;rfl
 | int i=>obtain⟨t,rfl⟩:=r;rfl
 | str z=>obtain⟨t,rfl⟩:=r;rfl
 | _=>exact absurd (show false=true from f) Jq
theorem vH:∀ {xs:List V} {us:LV9},br xs us→xs.all j8=true→us.any (eqU x)=xs.any fun y=>eqV y x
 | _,_,.nil,_=>rfl
 | y::xs,u::us,.cons r t,f=>by
  rw[Mb,Kv]at f;rw[Lw,Lw,Dp r f.1,vH t f.2]
theorem qX (G:bz x v)(J:j8 x=true):∀ {xs:List V} {us:LV9},br xs us→xs.all j8=true→∀ u∈us,SeqAt.EqAt A s u v (eqU x u)
 | _,_,.nil,_=>fun u B=>by cases B
 | y::xs,u::us,.cons r t,f=>fun O B=>by
  rw[Mb,Kv]at f;rcases Jr.mp B with rfl | B
  ·rw[Dp r f.1];exact GM r G f.1 J
  ·exact qX G J t f.2 O B
def inV (x:V)(xs:List V):Bool:=xs.any fun y=>eqV y x
def rIn (K:Frag)(neg:Bool):R2:=fun x y H Q=>∃ p xs,y=.ref p∧(SqL K H p xs∨SqT K H p xs)∧j8 x=true∧xs.all j8=true∧Q (.bl (if neg then !inV x xs else inV x xs)) H
theorem AK:OpR X (compareOp .In) (rIn X.K false):=by
 intro pins s σ H x y v u Q I O Y h;obtain⟨p,xs,rfl,B,U,fs,q⟩:=h;cases Y;rcases B with B | B
 ·obtain⟨its,r,G,hz⟩:=I.list B;refine SeqAt.in_listAt (eqU x) G.isList (fun w J=>qX O U r fs w (by simpa using J)) ⟨.bl _,H,I,rfl,?_⟩;rw[show its.toArray.any (eqU x)=its.any (eqU x) by simp,vH r fs];exact q
 ·obtain⟨its,r,G,hz⟩:=I.tuple B;refine SeqAt.in_tupleAt (eqU x) G (fun w J=>qX O U r fs w (by simpa using J)) ⟨.bl _,H,I,rfl,?_⟩;rw[show its.toArray.any (eqU x)=its.any (eqU x) by simp,vH r fs];exact q
def tyV (K:Frag)(T:String)(x:V)(H:Hp):Prop:=match x with
 | .str _=>T = "str"
 | .int _=>T = "int"
 | .ref p=>(T = "list" ∧ ∃ xs,SqL K H p xs)∨(T = "tuple" ∧ ∃ o,K.lookup p=some o∧o.cls=.type "tuple" ∧ o.dict=none) ∨
   (T = "dict" ∧ ((∃ kvs,H p=some (.dK kvs))∨∃ kvs,H p=some (.dT kvs)))∨(T = "set" ∧ ∃ S n,H p=some (.set S n))
 | _=>False
theorem FT (I:Inv X pins σ H s)(r:bz x v)(ty:tyV X.K T x H):
  s.TypeIs v T∧∀ a,v=.ref a→∃ ob,s.heap.get? a=some ob∧ob.dict=none:=by
 cases x with
 | str z =>
  obtain⟨t,rfl⟩:=r;cases (show T = "str" from ty)
  exact⟨typeIs_str s z t,fun _ e=>nomatch e⟩
 | int i =>
  obtain⟨t,rfl⟩:=r;cases (show T = "int" from ty)
  exact⟨typeIs_int s i t,fun _ e=>nomatch e⟩
 | ref p =>
  cases r;rcases ty with⟨rfl,xs,U⟩ | ⟨rfl,o,B,Y,G⟩ | ⟨rfl,B⟩ | ⟨rfl,S,n,B⟩
  ·obtain⟨its,_,O,_⟩:=I.list U;refine⟨O.isList.typeIs,fun a e =>?_⟩;cases e;obtain⟨o,n,e,c,G,_⟩:=O;exact⟨o,e,G⟩
  ·refine⟨⟨o,I.kIn p o B,Y⟩,fun a e =>?_⟩;cases e;exact⟨o,I.kIn _ o B,G⟩
  ·have z:∃ o,s.heap.get? p=some o∧o.ExactDict:=by
    rcases B with⟨kvs,B⟩|⟨kvs,B⟩
    ·obtain⟨_,_,_,_,o,_,_,e,ex,_⟩:=I.hok p _ B;exact⟨o,e,ex⟩
    ·obtain⟨_,_,_,_,o,_,_,e,ex,_⟩:=I.hok p _ B;exact⟨o,e,ex⟩
   obtain⟨o,e,ex⟩:=z;refine⟨⟨o,e,ex.1⟩,fun a J =>?_⟩;cases J;exact⟨o,e,ex.2.1⟩
  ·obtain⟨o,_,_,_,e,ex,_⟩:=I.hok p _ B;refine⟨⟨o,e,ex.1⟩,fun a J =>?_⟩;cases J;exact⟨o,e,ex.2.1⟩
 | _=>exact False.elim ty
abbrev tBM (K:Frag)(T:String)(r:V→List V→HV9)(to:TE)(t:TA):TE:=fun σ H Q=>to σ H fun x H1=>tyV K T x H1∧t σ H1 fun xs H2=>r x xs H2 Q
variable {o e:Expr}{es:List Expr}{to:TE}{t:TA}{name:Str}{apos cpos:Pos}{T id:String}{r:V→List V→HV9}
theorem tf (pa:PlainAttrs T)(O:Slot T name id)(Y:typeOf (.builtin id)=pure (.type "method_descriptor"))(hm:MtR X id r)(ho:PE X o to)(ha:PA X (e::es) t)
  (G:attributeBase o name X.env (eval o X.env)=eval o X.env:=by rfl)
  (U:((backTo cpos (starEach (e::es) X.env)).all (fun x => !x.1) && (backToKw cpos (keywordEach [] X.env)).all (fun x=>x.1.isSome)
   && decide ((e::es).length + ([]:List Keyword).length + (if ([]:List Keyword).isEmpty then 0 else 1) < 30))=true:=by rfl)
  (J:(apos.endLine == cpos.line)=true:=by rfl) (hs:starEach (e::es) X.env=(false,eval e X.env)::starEach es X.env:=by rfl) (B:(backTo cpos (starEach es X.env)).any (·.1)=false:=by rfl) :
  PE X (.Call (.Attribute o name apos) (e::es) [] cpos) (tBM X.K T r to t):=by
 intro pins s σ H Q I h;refine wpAny_Call_method_late G U J rfl (thn (ho pins s σ H _ I h) fun v s1 ⟨x,H1,I1,r1,ty,q1⟩ =>?_);obtain⟨h1,h2⟩:=FT I1 r1 ty;refine⟨T,id,pa,O,Y,h1,h2,?_⟩;have hA:=ha cpos pins s1 σ H1 _ I1 q1;rw[hs]at hA ⊢;refine Calls.callWith_builtin (by show (false || (backTo cpos (starEach es X.env)).any (·.1))=false;rw[B]<;>rfl) (Calls.evalArgs_plain ?_);exact thn hA fun us s2 ⟨vs,H2,I2,r2,q2⟩=>hm pins s2 σ H2 x vs v us Q I2 r1 r2 q2
end
def MtM (X:Cx)(id:String)(r:V→List V→HV9):Prop :=
 ∀ (pins:Pn9) (s:Sh9) (σ:St) (H:Hp) (x:V) (xs:List V) (v:Value) (us:LV9) (Q:VK),Inv X pins σ H s→bz x v→br xs us→r x xs H Q →
  wpAny (model X.prog X.w) X.A (call (.builtin id) (v::us)) (EP X pins σ Q) X.xe s
theorem br.one:∀ {x:V} {us:LV9},br [x] us→∃ u,us=[u]∧bz x u
 | _,_,.cons r .nil=>⟨_,rfl,r⟩
section
variable {pins:Pn9}{σ:St}{l b:Addr}{xs ys zs:List V}
theorem Inv.lset {its its':LV9}{n:Nat}{f:Array Value→Array Value}{t':Nat}(I:Inv X pins σ H s)(B:H l=some (.lst xs))
  (e:s.heap.get? l=some { cls:=.type "list",data:=.seq its.toArray n }) (G:f its.toArray=its'.toArray) (J:br ys its') (O:ys.length≤sizeLine) :
  Inv X pins σ (upd H l (.lst ys)) { s with heap:=s.heap.update l (Obj.mapSeq f),toks:=t' }:=by
 have q:=PySem.IsL.update e f;rw[G]at q;refine I.write (x:=l) (e:=l) (by rw[B];exact trivial) (.inl rfl) (fun b' u U Y=>(JK s.heap (Obj.mapSeq f) (Ne.symm U)).trans Y) ⟨_,q⟩ ?_;exact⟨O,its',_,J,q⟩
theorem Inv.lnew (I:Inv X pins σ H s)(B:br ys its)(G:ys.length≤sizeLine):
  Inv X pins σ (upd H s.heap.objs.size (.lst ys)) { s with heap:=s.heap.push { cls:=.type "list",data:=.seq its.toArray },toks:=t' } :=
 I.laid (fun _ _ q=>IY _ q) (I_ _) ⟨G,its,0,B,Ju _ rfl⟩
theorem Inv.fresh (I:Inv X pins σ H s):H s.heap.objs.size=none:=I.hok.fresh (I_ _)
theorem Inv.lstM (I:Inv X pins σ H s)(B:H l=some (.lst xs)):xs.length≤sizeLine∧∃ (its:LV9) (n:Nat),br xs its∧xs.length=its.length∧s.heap.get? l=some { cls:=.type "list",data:=.seq its.toArray n }:=by
 obtain⟨z,its,n,r,e⟩:=I.hok l _ B;exact⟨z,its,n,r,r.length,e⟩
theorem CH (h:n≤sizeLine):Builtin.List.listTooLong n=false:=by
 unfold Builtin.List.listTooLong;exact JT (by lia)
end
section
inductive xr  (x:V)(vs:List V)(H:Hp)(Q:VK):Prop
 | mk (l xs y:_) (h_0:x=.ref l) (h_1:vs=[y]) (h_2:H l=some (.lst xs)) (h_3:xs.length < sizeLine) (h_4:Q .non (upd H l (.lst (xs++[y])))):xr x vs H Q
def y_:V→List V→HV9:=fun x vs H Q=>xr x vs H Q
theorem tz:MtM X "list.append" y_:=by
 intro pins s σ H x vs v us Q I G J h;obtain⟨l,xs,y,rfl,rfl,B,U,q⟩:=h;cases G;obtain⟨u,rfl,O⟩:=J.one;obtain⟨z,its,n,r,Y,e⟩:=I.lstM B;refine call_meets F.slot_list_append ⟨_,e,rfl⟩ F.entry_list_append (F.args_list_append_2 _ _) (PySem.list_append l its.toArray n u (by rw[JC];lia)) ⟨e,?_⟩;refine⟨.non,_,I.lset (its':=its++[u]) B e (by simp) (r.append (.cons O .nil)) ?_,rfl,q⟩;rw[I8,Kd]
 assumption
def Ep:V→List V→HV9:=fun x vs H Q=>∃ l b xs zs,x=.ref l∧vs=[.ref b]∧H l=some (.lst xs)∧H b=some (.lst zs)∧xs.length + zs.length≤sizeLine∧Q .non (upd H l (.lst (xs++zs)))
theorem nX:MtM X "list.extend" Ep:=by
 intro pins s σ H x vs v us Q I O U h;obtain⟨l,b,xs,zs,rfl,rfl,J,Y,hz,q⟩:=h;cases O;obtain⟨u,rfl,ru⟩:=U.one;cases ru;obtain⟨z,its,n,r,hl,e⟩:=I.lstM J;obtain⟨z2,B,n2,r2,a0,e2⟩:=I.lstM Y;have hsz:its.toArray.size + B.toArray.size≤sizeLine:=by rw[JC,JC];lia
 have G:¬ (!its.toArray.isEmpty && Builtin.List.listTooLong (its.toArray.size + B.toArray.size))=true:=by
  rw[CH hsz,Bool.and_false];exact Jq
 refine call_meets F.slot_list_extend ⟨_,e,rfl⟩ F.entry_list_extend (F.args_list_extend_2 _ _)
  (AutoSeq1.list_extend_list_list_0 l its.toArray n b B.toArray n2 G (by rw[JC];lia) (by lia)) ⟨e,e2,?_⟩
 refine⟨.non,_,I.lset (its':=its++B) J e (by simp) (r.append r2) ?_,rfl,q⟩;rw[I8];omega
def ID:R2:=fun x y H Q=>∃ l b xs zs,x=.ref l∧y=.ref b∧H l=some (.lst xs)∧H b=some (.lst zs)∧xs.length + zs.length≤sizeLine∧Nw H (.lst (xs++zs)) fun p H=>Q (.ref p) H
theorem uO:OpR X (binaryOp .Add) ID:=by
 intro pins s σ H x y v u Q I G J h;obtain⟨l,b,xs,zs,rfl,rfl,O,U,hz,q⟩:=h;cases G;cases J;obtain⟨z,its,n,r,hl,e⟩:=I.lstM O;obtain⟨z2,B,n2,Y,a0,e2⟩:=I.lstM U;refine PySem.P.add_list e e2 ?_ (by rw[JC,JC];lia);have ea:its.toArray++B.toArray=(its++B).toArray:=by simp
 rw[ea];exact⟨.ref _,_,I.lnew (t':=s.toks) (r.append Y) (by rw[I8];omega),rfl,q _ I.fresh⟩
end
section
variable {w:Wd9}{E:EV9}
set_option maxRecDepth 100000 in
end
end L2
namespace Att
open PySem PySem.W PySem.Calls PyProof.Rows
theorem o_:∀ (B:List Int) (vs:List Value),WellAll P h vs (B.map WData.int)→IntsAre vs B:=by
 intro B
 induction B with
 | nil =>
  intro vs w;rw[Kh]at w;cases w;exact .nil
 | cons n B ih =>
  intro vs w;rw[Jl]at w;cases w with
  | cons a b =>
   cases a;exact .cons _ _ (ih _ b)
theorem As {l:OpenLaw}{n:Nat}(hn:l.most=some n){P:Params}{h:Heap}{args:List WData}{G:List Value}
  (J:l.row.toRowW.claim.pre args=true) (a0:WellAll P h G args) :
  ∃ a vs B,G=[Value.ref a]∧args=[WData.list (B.map WData.int)]∧h.get? a=some { cls:=.type "list",data:=.seq vs.toArray }∧IntsAre vs B∧B.length≤n:=by
 have a1:WShape.hasAll [] args [.list .int]=true:=(pre_splitW J).1;have hc:l.pre.holds [] { args:=args }=true:=(pre_splitW J).2;obtain⟨d,r,rfl,h1,h2⟩:=hasAllW_cons a1;obtain rfl:=hasAllW_nil h2;obtain⟨xs,rfl,h3⟩:=hasW_list h1;obtain⟨B,rfl⟩:=items_int h3;have O:B.length≤n:=by
  unfold OpenLaw.pre at hc;have U:(WTm.not (.lt (.lit (.int (n:Int))) (.len (.arg 0)))).holds [] { args:=[.list (B.map .int)] }=true:=by
   have U:=(holds_andW hc).1;rw[hn]at U;exact U
  have Y:=condW_of U (w_not (w_lt w_lit (w_len_list (w_arg rfl))));rw[I0]at Y;refine KS fun q =>?_;have q':(n:Int) < ((B.length:Nat):Int):=by omega
  first
   | (rw[Jd q']at Y;exact absurd Y (by decide))
   | (simp at Y;lia)
 cases a0 with
 | cons w1 w2 =>
  cases w2;cases w1 with
  | list ho hall=>exact⟨_,_,B,rfl,rfl,ho,o_ B _ hall,O⟩
theorem AD (l:OpenLaw)(args:List WData):l.row.toRowW.claim.post args (.bool true) args=true :=
 postW_of (r:=l.row.toRowW) (X:=(true == true))
  (show WShape.has [] (.bool true) .bool=true by first | rfl | decide | simp[WShape.has,WShape.arms,WShape.armsAll])
  (show (WTm.eq .res (.lit (.bool true))).value [] { args:=args,res:=some (.bool true),after:=args }=some (.bool (true == true)) from w_eq_bool (w_res rfl) w_lit) rfl
theorem xp {l:OpenLaw}{n:Nat}{q:Program}{B:List Str}{XP:(Str→Option Value)→Heap→Prop}{YP:World→Heap→Prop}{d:DefRec}
  (hn:l.most=some n) (a3:d.params.defaults=[])
  (call:∀ (w:World) (s₀ J:Shared) (mg mb:Str→Option Value) (U:Addr) (o:Obj) (pm cd doc:Value) (a:Addr) (vs:List Value) (ns:List Int),
   Ground q B [] XP w s₀ mg mb J.heap→YP w J.heap →
   J.heap.get? U=some o→o.data=.func (docDef d.name d.params d.body d.scope pm cd doc)→J.heap.CodeRec cd d.name→mg d.name=some (.ref U) →
   J.heap.get? a=some { cls:=.type "list",data:=.seq vs.toArray }→IntsAre vs ns→ns.length≤n→J.gens = #[] →
   codeAny (model l.prog w) callerA (.call (.ref U) ⟨[.ref a],[]⟩) (fun r s'=>r=.ok (.ret (.bool true))∧OldK J.heap s'.heap∧s'.os=J.os∧AllBare s'.gens) J) :
  WalkO q B XP YP l.row.toRowW d [] (fun f vs=>PySem.call f vs):=by
 intro w s₀ J mg mb G Y U o pm cd doc dV kV ho hd a4 hD a5 hg args a7 as a0 a8 a9 a6 b0;obtain rfl:dV=.none:=Dflts.none hD a3;obtain rfl:kV=.none:=Dflts.noKw hD;obtain⟨a,vs,ns,rfl,rfl,a1,O,a2⟩:=As hn a0 a6;refine enter_call (codeAny_mono (call w s₀ J mg mb U o pm cd doc a vs ns G Y ho (fd_plain hd) a4 a5 a1 O a2 hg) fun r s' hq =>?_);obtain⟨rfl,h2,h3,h4⟩:=hq;exact⟨.inl ⟨.bool true,.bool true,[],rfl,fun _=>rfl,.bool true,AD l _,fun _=>⟨List.Pairwise.nil,fun _ hm=>(nomatch hm)⟩⟩,h2,h3,h4⟩
end Att
namespace L2
open PySem PySem.Spec PyProof.Rows
variable {H:Hp}{X:Cx}{s:Sh9}{pos:Pos}{prog:Pg9}{A:Around}{K:Frag}
theorem sH:∀ {vs:LV9} {ns:List Int},IntsAre vs ns→br (ns.map V.int) vs
 | _,_,.nil=>.nil
 | _,_,.cons n t h=>.cons ⟨t,rfl⟩ (sH h)
def cD (s:Stmt):Arguments:=match s with
 | .FunctionDef _ a _ _ _ _ _ _ _ _=>a
 | _=>{ posonlyargs:=[],args:=[],vararg:=none,kwonlyargs:=[],kw_defaults:=[],kwarg:=none,defaults:=[] }
def bU (s:Stmt):List Stmt:=match s with
 | .FunctionDef _ _ b _ _ _ _ _ _ _=>b
 | _=>[]
def aq (s:Stmt):Scope:=match s with
 | .FunctionDef _ _ _ _ _ _ sc _ _ _=>sc
 | _=>{ kind:=.function,names:=[],isGenerator:=false,isCoroutine:=false }
abbrev E0:XK:=fun _ _ _=>False
theorem cH (h:n≤1000):n < sizeLine:=Lc h (by decide)
section
theorem pv (i:Nat)(G:X.N[i]? = some x:=by rfl)(J:Vis X.env.scope x:=by first | exact Or.inl rfl | exact Or.inr (Or.inl rfl) | exact Or.inr (Or.inr rfl))(O:(x == ("__debug__" : Str))=false:=by decide)
  (B:(x == ("__classdict__" : Str))=false:=by decide):PE X (.Name x pos) (xz i):=F_ G J O B
end
theorem fS {A B:Prop}(h:B):if false=true then A else B:=by
 rw[if_neg Jq];exact h
theorem mR {A B:Prop}(h:A):if true=true then A else B:=by
 rw[if_pos rfl];exact h
theorem cz {c A B:Prop}[Decidable c](h1:c→A)(h2:¬ c→B):if c then A else B:=by
 by_cases h:c
 ·rw[if_pos h];exact h1 h
 ·rw[if_neg h];exact h2 h
theorem HJ {c A B:Prop}[Decidable c](G:c)(h:B):if (!decide c)=true then A else B:=by
 rw[Jd G];exact fS h
def ak (H H':Hp):Prop:=∀ b o,H b=some o→H' b=some o
theorem ak.refl (H:Hp):ak H H:=fun _ _ h=>h
theorem ak.trans {H H1 H2:Hp}(a:ak H H1)(b:ak H1 H2):ak H H2:=fun c o h=>b c o (a c o h)
theorem ak.free (e:ak H H')(h:H' l=Option.none):H l=Option.none:=by
 cases q:H l with
 | none=>rfl
 | some o =>
  rw[e l o q]at h;cases h
theorem ak.seq {K:Frag}(e:ak H H')(h:SqL K H a xs):SqL K H' a xs:=by
 rcases h with (h|⟨o,h⟩)|h
 ·exact .inl (.inl (e _ _ h))
 ·exact .inl (.inr ⟨o,e _ _ h⟩)
 ·exact .inr h
section
variable {κ:Type}[DecidableEq κ]
def cF (kvs:List (κ × V))(k:κ):OW9:=(kvs.find? fun kv=>decide (kv.1=k)).map (·.2)
def fZ (kvs:List (κ × V))(k:κ)(v:V):List (κ × V) :=
 if (kvs.any fun kv=>decide (kv.1=k))=true then kvs.map (fun kv=>if kv.1=k then (kv.1,v) else kv) else kvs++[(k,v)]
theorem BD:cF ([]:List (κ × V)) k=none:=rfl
theorem cQ {p:κ × V}{r:List (κ × V)}{k:κ}(e:p.1=k):cF (p::r) k=some p.2:=by simp[cF,KI,e]
theorem cR {p:κ × V}{r:List (κ × V)}{k:κ}(e:¬ p.1=k):cF (p::r) k=cF r k:=by simp[cF,KI,e]
theorem mi (k:κ):∀ kvs:List (κ × V),(kvs.any fun B=>decide (B.1=k))=(cF kvs k).isSome
 | []=>rfl
 | p::r=>by
  rw[Lw];by_cases e:p.1=k
  ·simp only[cQ e,Jd e,Bool.true_or,Option.isSome_some]
  ·rw[cR e,JT e,Bool.false_or];exact mi k r
theorem vN (k j:κ)(y:V):∀ kvs:List (κ × V),cF (kvs.map fun B=>if B.1=k then (B.1,y) else B) j=(cF kvs j).map fun x=>if j=k then y else x
 | []=>rfl
 | p::r=>by
  have G:=vN k j y r;rw[Jl];by_cases h:p.1=k
  ·rw[if_pos h];by_cases e:p.1=j
   ·rw[cQ (p:=(p.1,y)) e,cQ e,Le,if_pos (e.symm.trans h)]
   ·rw[cR (p:=(p.1,y)) e,cR e,G]
  ·rw[if_neg h];by_cases e:p.1=j
   ·rw[cQ (p:=p) e,cQ e,Le,if_neg (fun z=>h (e.trans z))]
   ·rw[cR (p:=p) e,cR e,G]
theorem sI (k j:κ)(y:V):∀ kvs:List (κ × V),cF kvs k=none→cF (kvs++[(k,y)]) j=if j=k then some y else cF kvs j
 | [],_=>by
  by_cases e:k=j
  ·rw[if_pos e.symm];exact cQ (p:=(k,y)) e
  ·rw[if_neg (fun z=>e z.symm)];exact cR (p:=(k,y)) e
 | p::r,hn=>by
  rw[Me];have B:¬ p.1=k:=fun z=>by rw[cQ z]at hn;cases hn
  rw[cR B]at hn;have G:=sI k j y r hn;by_cases e:p.1=j
  ·rw[cQ e,cQ e,if_neg (fun z=>B (e.trans z))]
  ·rw[cR e,cR e,G]
theorem qh (kvs:List (κ × V))(k j:κ)(y:V):cF (fZ kvs k y) j=if j=k then some y else cF kvs j:=by
 unfold fZ;by_cases a:(kvs.any fun B=>decide (B.1=k))=true
 ·rw[if_pos a,vN];rw[mi]at a;by_cases e:j=k
  ·obtain⟨x,G⟩:=JG.mp a;rw[if_pos e,e,G,Le,if_pos rfl]
  ·rw[if_neg e];cases cF kvs j with
   | none=>rfl
   | some x=>rw[Le,if_neg e]
 ·rw[if_neg a];refine sI k j y kvs ?_;rw[mi]at a;cases q:cF kvs k with
  | none=>rfl
  | some x=>rw[q]at a;exact (a rfl).elim
theorem fH (kvs:List (κ × V))(k:κ)(v:V):(fZ kvs k v).length≤kvs.length + 1:=by
 unfold fZ
 split
 ·rw[I0];simp
 ·rw[I8,Jv,Mn];simp
theorem pi.isSome_eq (r:pi o u):o.isSome=u.isSome:=by
 cases o with
 | none=>cases u with
  | none=>rfl
  | some _=>exact (show False from r).elim
 | some _=>cases u with
  | none=>exact (show False from r).elim
  | some _=>rfl
theorem KV.val {kvs:List (κ × V)}{vs:List (κ × Value)}(r:KV kvs vs)(k:κ):pi (cF kvs k) (valueAt vs k):=by
 unfold KV at r
 induction r with
 | nil=>exact True.intro
 | @cons p q ps qs h t ih =>
  obtain⟨h1,h2⟩:=h;by_cases e:p.1=k
  ·have e':q.1=k:=h1.symm.trans e;have b:valueAt (q::qs) k=some q.2:=by simp[valueAt,KI,e']
   rw[cQ e,b];exact h2
  ·have e':¬ q.1=k:=fun z=>e (h1.trans z);have b:valueAt (q::qs) k=valueAt qs k:=by simp[valueAt,KI,e']
   rw[cR e,b];exact ih
theorem KV.any (r:KV kvs vs)(k:κ):(kvs.any fun B=>decide (B.1=k))=vs.any fun B=>decide (B.1=k):=by
 unfold KV at r
 induction r with
 | nil=>rfl
 | cons h t ih=>rw[Lw,Lw,ih,h.1]
theorem KV.repl (r:KV kvs vs)(k:κ)(G:bz y u):
  KV (kvs.map fun B=>if B.1=k then (B.1,y) else B) (vs.map fun B=>if B.1=k then (B.1,u) else B):=by
 unfold KV at r ⊢
 induction r with
 | nil=>exact .nil
 | @cons p q ps qs h t ih =>
  rw[Jl,Jl];refine .cons ?_ ih;obtain⟨h1,h2⟩:=h;by_cases e:p.1=k
  ·rw[if_pos e,if_pos (h1.symm.trans e)];exact⟨h1,G⟩
  ·rw[if_neg e,if_neg (fun z=>e (h1.trans z))];exact⟨h1,h2⟩
theorem KV.put (r:KV kvs vs)(k:κ)(B:bz y u):KV (fZ kvs k y) (stored vs k u):=by
 unfold fZ stored;rw[r.any k];by_cases e:(vs.any fun G=>decide (G.1=k))=true
 ·rw[if_pos e,if_pos e];exact r.repl k B
 ·rw[if_neg e,if_neg e];exact Paired.snoc r ⟨rfl,B⟩
theorem KV.length (r:KV kvs vs):kvs.length=vs.length:=Paired.length r
end
theorem gU (r:bz (kV k) u):(aX P w).is k u=true:=by
 cases k with
 | inl i=>obtain⟨t,e⟩:=(show ∃ t,u=Value.int i t from r);subst e;exact wD P w i t
 | inr x=>obtain⟨t,e⟩:=(show ∃ t,u=Value.str x t from r);subst e;exact wC P w x t
theorem tD:∀ {ks:List Key} {us:LV9},br (ks.map kV) us→ItemsAre (aX P w) ks us
 | [],_,r=>by rw[Kh]at r;cases r;exact .nil
 | k::ks,_,r=>by
  rw[Jl]at r;cases r with
  | cons h t=>exact .cons (gU h) (tD t)
abbrev KT (H:Hp):List (List Key × V)→List (List Key × Addr × Value)→Prop:=Paired fun p q=>p.1=q.1∧H q.2.1=some (.tup (p.1.map kV))∧bz p.2 q.2.2
theorem KT.val {H:Hp}{kvs:List (List Key × V)}{xs:List (List Key × Addr × Value)}(r:KT H kvs xs)(k:List Key):pi (cF kvs k) ((atKey xs k).map (·.2)):=by
 induction r with
 | nil=>exact True.intro
 | @cons p q ps qs h t ih =>
  obtain⟨h1,_,h2⟩:=h;by_cases e:p.1=k
  ·have e':q.1=k:=h1.symm.trans e;have b:atKey (q::qs) k=some q.2:=by simp[atKey,KI,e']
   rw[cQ e,b];exact h2
  ·have e':¬ q.1=k:=fun z=>e (h1.trans z);have b:atKey (q::qs) k=atKey qs k:=by simp[atKey,KI,e']
   rw[cR e,b];exact ih
theorem KT.repl (r:KT H kvs xs)(k:List Key)(G:bz y u):
  KT H (kvs.map fun B=>if B.1=k then (B.1,y) else B) (xs.map (putAt k u)):=by
 induction r with
 | nil=>exact .nil
 | @cons p q ps qs h t ih =>
  rw[Jl,Jl];refine .cons ?_ ih;obtain⟨h1,h2,J⟩:=h;unfold putAt;by_cases e:p.1=k
  ·rw[if_pos e,if_pos (h1.symm.trans e)];exact⟨h1,h2,G⟩
  ·rw[if_neg e,if_neg (fun z=>e (h1.trans z))];exact⟨h1,h2,J⟩
theorem KT.put (r:KT H kvs xs)(k:List Key)(G:H b=some (.tup (k.map kV)))(B:bz y u):
  KT H (fZ kvs k y) (storedH xs k b u):=by
 have e:(kvs.any fun J=>decide (J.1=k))=(atKey xs k).isSome:=by
  rw[mi,(r.val k).isSome_eq,Kc]
 unfold fZ storedH;rw[e];by_cases q:(atKey xs k).isSome=true
 ·rw[if_pos q,if_pos q];exact r.repl k B
 ·rw[if_neg q,if_neg q];exact Paired.snoc r ⟨rfl,G,B⟩
theorem KT.keeps (r:KT H kvs xs)(B:∀ b ys,H b=some (.tup ys)→H' b=some (.tup ys)):KT H' kvs xs :=
 Paired.mapP r fun _ _ z=>⟨z.1,B _ _ z.2.1,z.2.2⟩
section
variable {P:Pg9}{w:Wd9}{h:Heap}{a:Addr}
theorem FE (ok:HOk P w H h)(e:Rd H a u):ci P w H h a u:=e.ok ok
theorem zP (ok:HOk P w H h)(e:Rd H a (.dK kvs)):kvs.length≤sizeLine∧(a == sysModules)=false∧∃ vs,KV kvs vs∧h.DictOf (aX P w) a vs :=
 show ci P w H h a (.dK kvs) from FE ok e
theorem FM (ok:HOk P w H h)(e:H a=some (.dK kvs)):kvs.length≤sizeLine∧(a == sysModules)=false∧∃ vs,KV kvs vs∧h.DictOf (aX P w) a vs:=zP ok (.inl e)
theorem ra (ok:HOk P w H h)(e:H a=some (.tup (ks.map kV))):(tupleKind (aX P w)).is h ks a:=by
 obtain⟨_,its,r,o,h1,h2,n,B⟩:=(show ci P w H h a (.tup (ks.map kV)) from ok a _ e);exact⟨o,its.toArray,n,h1,h2,B,by simpa using tD r⟩
theorem zO (ok:HOk P w H h)(e:Rd H a (.dT kvs)):kvs.length≤sizeLine∧(a == sysModules)=false ∧
  ∃ xs,KT H kvs xs∧h.DictOfH (tupleKind (aX P w)) a xs:=by
 obtain⟨z,y,xs,r,o,es,ep,h1,h2,G,J,O⟩:=(show ci P w H h a (.dT kvs) from FE ok e);refine⟨z,y,xs,r,o,es,ep,h1,h2,G,J,fun x B =>?_,O⟩;have all:∀ {l:List (List Key × V)} {m:List (List Key × Addr × Value)},KT H l m→∀ x∈m,(tupleKind (aX P w)).is h x.1 x.2.1:=by
  intro l m q
  induction q with
  | nil=>intro x B;exact nomatch B
  | @cons p q ps qs hq t ih =>
   intro x B;rcases Jr.mp B with e | B
   ·subst e;exact ra ok (by rw[← hq.1];exact hq.2.1)
   ·exact ih x B
 exact all r x B
theorem HY (ok:HOk P w H h)(e:H a=some (.dT kvs)):kvs.length≤sizeLine∧(a == sysModules)=false ∧
  ∃ xs,KT H kvs xs∧h.DictOfH (tupleKind (aX P w)) a xs:=zO ok (.inl e)
end
def ot (H:Hp)(a:Addr)(y:V)(r:OW9):Prop :=
 (∃ kvs k,Rd H a (.dK kvs)∧y=kV k∧r=cF kvs k)∨∃ kvs k b,Rd H a (.dT kvs)∧y=.ref b∧H b=some (.tup (k.map kV))∧r=cF kvs k
def BA (H:Hp)(a:Addr)(y v:V)(H':Hp):Prop :=
 (∃ kvs k,H a=some (.dK kvs)∧y=kV k∧kvs.length < sizeLine∧H'=upd H a (.dK (fZ kvs k v))) ∨
 ∃ kvs k b,H a=some (.dT kvs)∧y=.ref b∧H b=some (.tup (k.map kV))∧kvs.length < sizeLine∧H'=upd H a (.dT (fZ kvs k v))
theorem ot.k {H:Hp}{a:Addr}{kvs:LK9}{k:Key}(e:H a=some (.dK kvs)):ot H a (kV k) (cF kvs k):=.inl ⟨kvs,k,.inl e,rfl,rfl⟩
theorem BA.k {H:Hp}{a:Addr}{kvs:LK9}{k:Key}{v:V}(e:H a=some (.dK kvs))(B:kvs.length < sizeLine):BA H a (kV k) v (upd H a (.dK (fZ kvs k v))):=.inl ⟨kvs,k,e,rfl,B,rfl⟩
section
variable {pins:Pn9}{σ:St}{a:Addr}{y v:V}{u r:Value}{o:OW9}{E:EV9}
theorem Inv.big (I:Inv X pins σ H s):sysModules < s.heap.objs.size:=by
 have h:mainGlobals < s.heap.objs.size:=(I.mod.glob.keeps I.bk).lt;exact LG (by decide) h
theorem Bj (hu:A.units + 1 < cLine)(I:Inv X pins σ H s)(g:ot H a y (some v))(ry:bz y u)(h:∀ J s',Inv X pins σ H s'→bz v J→Q J s'):
  wpAny (model X.prog X.w) A (getItem (.ref a) u) Q E s:=by
 rcases g with⟨kvs,k,e,O,l⟩|⟨kvs,k,b,e,O,eb,l⟩
 ·subst O;obtain⟨z,hd,vs,B,dd⟩:=zP I.hok e;obtain⟨J,U,G⟩:=pi.some_of (v:=v) (o:=valueAt vs k) (by rw[l];exact B.val k);exact wpAny_getItem_of (gU ry) dd.mapOf U (h J _ (I.tok _) G)
 ·subst O;cases (show u=Value.ref b from ry);obtain⟨z,hd,xs,B,dd⟩:=zO I.hok e;obtain⟨J,U,G⟩:=pi.some_of (v:=v) (o:=(atKey xs k).map (·.2)) (by rw[l];exact B.val k);obtain⟨p,hp,Y⟩:=JQ.mp U;refine wpAny_getItem_heap (tupleKind_room_in1 hu) (ra I.hok eb) dd hp ?_;rw[Y];exact h J _ (I.tok _) G
theorem Ff (U:A.units + 1 < cLine)(I:Inv X pins σ H s)(g:ot H a y o)(O:bz y u)(h:∀ s',Inv X pins σ H s'→Q (.bool (!o.isSome)) s'):
  wpAny (model X.prog X.w) A (compareOp .NotIn u (.ref a)) Q E s:=by
 rcases g with⟨kvs,k,e,G,l⟩|⟨kvs,k,b,e,G,Y,l⟩
 ·subst G;obtain⟨z,J,vs,B,dd⟩:=zP I.hok e;refine wpAny_notIn_of (gU O) J dd.mapOf ?_;rw[← (B.val k).isSome_eq,← l];exact h _ (I.tok _)
 ·subst G;cases (show u=Value.ref b from O);obtain⟨z,J,xs,B,dd⟩:=zO I.hok e;refine wpAny_notIn_heap (tupleKind_room_in1 U) (ra I.hok Y) J dd ?_;have q:=(B.val k).isSome_eq;rw[Kc]at q;rw[← q,← l];exact h _ (I.tok _)
theorem p_ (I:Inv X pins σ H s)(B:Mut (H a))(G:Heap.SameBut a s.heap h')(J:∃ q,h'.get? a=some q)(new:ci X.prog X.w (upd H a ob) h' a ob):
  Inv X pins σ (upd H a ob) { s with heap:=h',toks:=t' } :=
 I.write (x:=a) (e:=a) B (.inl rfl) (fun b q O z=>(G.2 b O).trans z) J new
theorem Dv (z:kvs.length≤sizeLine)(G:(a == sysModules)=false)(B:KV kvs vs)(dd:h'.DictOf (aX P w) a vs):
  ci P w H' h' a (.dK kvs):=⟨z,G,vs,B,dd⟩
theorem Bi {H':Hp}{Q:Unit→Sh9→Prop}(hu:A.units + 1 < cLine)(I:Inv X pins σ H s)(g:BA H a y v H')(ry:bz y u)(rv:bz v r)(h:∀ s',Inv X pins σ H' s'→Q () s'):
  wpAny (model X.prog X.w) A (setItem (.ref a) u r) Q E s:=by
 rcases g with⟨kvs,k,e,O,l,U⟩|⟨kvs,k,b,e,O,eb,l,U⟩
 ·subst O U;obtain⟨z,Y,vs,B,dd⟩:=FM I.hok e;have hz:vs.length≤sizeLine:=by rw[← B.length];exact z
  have hl:(fZ kvs k v).length≤sizeLine:=by have:=fH kvs k v;lia
  refine wpAny_setItem_pairs (hsz:=hz) (gU ry) dd fun h' G hs=>h _ ?_;have he:∃ q,h'.get? a=some q:=let ⟨q,_,_,J,_⟩:=G;⟨q,J⟩
  exact p_ I (by rw[e];exact True.intro) hs he (Dv hl Y (B.put k rv) G)
 ·subst O U;cases (show u=Value.ref b from ry);obtain⟨z,Y,xs,B,dd⟩:=HY I.hok e;have hz:xs.length≤sizeLine:=by rw[← Paired.length B];exact z
  have hl:(fZ kvs k v).length≤sizeLine:=by have:=fH kvs k v;lia
  refine wpAny_setItem_heap (hsz:=hz) (tupleKind_room_in1 hu) (ra I.hok eb) dd fun h' G hs=>h _ ?_;obtain⟨q,es,ep,J,h2,h3,h4,_,h5⟩:=G;refine p_ I (by rw[e];exact True.intro) hs ⟨q,J⟩ ⟨hl,Y,_,(B.put k eb rv).keeps fun c ys ec =>?_,q,es,ep,J,h2,h3,h4,h5⟩;rw[aG (qV ec e (fun z=>nomatch z))];exact ec
end
def Fx (i:Expr):Prop:=∀ ov iv,subscripted i false ov iv=operate [ov,iv] (getItem ov iv)
theorem uq {T id:String} 
  (Y:typeLookup (.type T) "__getitem__" = pure (some (.builtin id))) (hs:Fx slice)
  (h:wpAny (model prog w) A (eval value env) (fun o J=>wpAny (model prog w) A (eval slice env) (fun i B=>B.TypeIs o T∧wpAny (model prog w) A (getItem o i) Q E B) E J) E s) :
  wpAny (model prog w) A (eval (.Subscript value slice pos) env) Q E s:=by
 refine Subscript_ (Kf h (fun o J h₁=>Kf h₁ (fun i B G =>?_) fun _ _ x=>x) fun _ _ x=>x);obtain⟨O,G⟩:=G;unfold subscriptTail;refine IX ?_;rw[getitemInPython_of_ne O.not_modules];refine IX (wpAny_specialOf O Y ?_);have fin:wpAny (model prog w) A (subscripted slice false o i) (fun r U=>wpAny (model prog w) A (letTemporaryGo value o r >>= fun _=>pure r) Q E U) E B:=by
  rw[hs o i];exact wpAny_operating (Kf G (fun r U h₃=>IX (wpAny_letTemporaryGo (Jp h₃))) fun _ _ x=>x)
 first
  | exact Jp (IX fin)
  | exact IX (Jp (IX fin))
  | exact IX fin
theorem wS (I:Inv X pins σ H s)(g:ot H a y o):s.TypeIs (.ref a) "dict" := by
 rcases g with⟨kvs,k,e,_,_⟩|⟨kvs,k,b,e,_,_,_⟩
 ·obtain⟨_,_,vs,_,dd⟩:=zP I.hok e;exact dd.typeIs
 ·obtain⟨_,_,xs,_,dd⟩:=zO I.hok e;exact dd.typeIs
abbrev He (td ty:TE):TE:=fun σ H Q=>td σ H fun x H1=>ty σ H1 fun y H2=>∃ a v,x=.ref a∧ot H2 a y (some v)∧Q v H2
abbrev Hi (td ty tv:TE):TS:=fun D σ H=>tv σ H fun v H1=>td σ H1 fun x H2=>ty σ H2 fun y H3=>∃ a H4,x=.ref a∧BA H3 a y v H4∧D.nx σ H4
section
variable {o i e value:Expr}{pos' tpos:Pos}{td ty tv:TE}
theorem hU (J:X.A.units + 1 < cLine)(O:PE X o td)(hi:PE X i ty)(U:Fx i):PE X (.Subscript o i pos) (He td ty):=by
 intro pins s σ H Q I h;refine uq PySem.F.slot_dict_getitem.lookup U (thn (O pins s σ H _ I h) fun u Y ⟨x,H1,I1,rx,q1⟩=>thn (hi pins Y σ H1 _ I1 q1) fun iv s2 ⟨y,H2,G,ry,a,v,ex,g,q2⟩ =>?_);subst ex;obtain rfl:u=Value.ref a:=rx;exact⟨wS G g,Bj J G g ry fun w' s3 I3 B=>⟨v,H2,I3,B,q2⟩⟩
theorem zf (B:X.A.units + 1 < cLine)(G:PE X o td)(hi:PE X i ty)(J:PE X value tv)(O:swapsWith value (some (.Subscript o i pos')) pos.line X.env=pure false):
  PS X (.Assign [.Subscript o i pos'] value pos) (Hi td ty tv):=by
 intro pins s σ H D I h;refine wpAny_Assign_Subscript (thn (J pins s σ H _ I h) fun r U ⟨v,H1,Y,rv,q1⟩=>thn (G pins U σ H1 _ Y q1) fun u s2 ⟨x,H2,I2,rx,q2⟩=>thn (hi pins s2 σ H2 _ I2 q2) fun iv s3 ⟨y,H3,I3,ry,a,H4,ex,g,q3⟩ =>?_) O;subst ex;obtain rfl:u=Value.ref a:=rx;exact Bi B I3 g ry rv fun s4 I4=>⟨σ,H4,I4,q3⟩
end
theorem wR (h:Heap)(B:sysModules < h.objs.size):ci P w H (h.push { cls:=.type "dict",data:=.dict #[] }) h.objs.size (.dK []) :=
 ⟨Je _,beq_eq_false_iff_ne.mpr (Ne.symm (JJ B)),[],.nil,Heap.DictOf.new h⟩
def FZ:TE:=fun _ H Q=>Nw H (.dK []) fun p H=>Q (.ref p) H
section
theorem Cq:PE X (.Dict [] [] pos) FZ:=fun pins s σ H Q I h =>
 wpAny_Dict_empty ⟨.ref s.heap.objs.size,_,I.laid (a:=s.heap.objs.size) (o:=.dK []) (t':=s.toks) (fun _ _ q=>IY _ q) (I_ _) (wR s.heap I.big),rfl,h _ (I.hok.fresh (I_ _))⟩
end
def xA:List (TE × TE)→St→Hp→(List (V × V)→Hp→Prop)→Prop
 | [],_,H,Q=>Q [] H
 | (tk,tv)::r,σ,H,Q=>tk σ H fun x H1=>tv σ H1 fun y H2=>xA r σ H2 fun ps H3=>Q ((x,y)::ps) H3
abbrev VV:List (V × V)→List (Value × Value)→Prop:=Paired fun p q=>bz p.1 q.1∧bz p.2 q.2
def PPs (X:Cx)(pos:Pos)(keys:List (Option Expr))(values:List Expr)(trs:List (TE × TE)):Prop :=
 ∀ (pins:Pn9) (s:Sh9) (σ:St) (H:Hp) (Q:List (V × V)→Hp→Prop),Inv X pins σ H s→xA trs σ H Q →
  wpAny (model X.prog X.w) X.A (evalPairs (pairTrees keys values X.env pos)) (fun vs s'=>∃ ps H',Inv X pins σ H' s'∧VV ps vs∧Q ps H') X.xe s
theorem EA:PPs X pos [] [] []:=fun pins s σ H Q I h=>pairTrees_nil_walk ⟨[],H,I,.nil,h⟩
theorem Cj (G:PE X k tk)(J:PE X v tv)(O:PPs X pos ks vs trs):
  PPs X pos (some k::ks) (v::vs) ((tk,tv)::trs):=fun pins s σ H Q I h =>
 pairTrees_cons_walk (thn (G pins s σ H _ I h) fun u U ⟨x,H1,Y,rx,q1⟩=>thn (J pins U σ H1 _ Y q1) fun w2 s2 ⟨y,H2,I2,ry,q2⟩ =>
  thn (O pins s2 σ H2 _ I2 q2) fun ws s3 ⟨ps,H3,I3,B,q3⟩=>⟨(x,y)::ps,H3,I3,.cons ⟨rx,ry⟩ B,q3⟩)
def qW (kvs more:LK9):LK9:=more.foldl (fun acc kv=>fZ acc kv.1 kv.2) kvs
theorem KV.merge:∀ {B:LK9} {G:List (Key × Value)} {kvs:LK9} {vs:List (Key × Value)},KV B G→KV kvs vs→KV (qW kvs B) (merged vs G):=by
 intro B G kvs vs r;unfold KV at r
 induction r generalizing kvs vs with
 | nil=>intro q;exact q
 | @cons p q ps qs h t ih =>
  intro J;have e:KV (fZ kvs p.1 p.2) (stored vs q.1 q.2):=by
   have:=J.put p.1 h.2
   rw[← h.1];exact this
  exact ih e
theorem lC:∀ (more kvs:LK9),(qW kvs more).length≤kvs.length + more.length
 | [],kvs=>by show kvs.length≤kvs.length + 0;simp
 | p::r,kvs=>by
  have h1:=lC r (fZ kvs p.1 p.2);have h2:=fH kvs p.1 p.2;show (qW (fZ kvs p.1 p.2) r).length≤_;rw[Jv];lia
theorem rG:∀ {kvs:LK9} {ws:List (Value × Value)},VV (kvs.map fun G=>(kV G.1,G.2)) ws→∃ B,Carries (aX P w) ws B∧KV kvs B
 | [],_,r=>by rw[Kh]at r;cases r;exact⟨[],True.intro,.nil⟩
 | p::kvs,_,r=>by
  rw[Jl]at r;cases r with
  | @cons a b as bs h t =>
   obtain⟨B,c,q⟩:=rG (P:=P) (w:=w) t;obtain⟨O,J⟩:=b;exact⟨(p.1,J)::B,⟨gU h.1,rfl,c⟩,.cons ⟨rfl,h.2⟩ q⟩
def FC (trs:List (TE × TE)):TE:=fun σ H Q=>∀ p,H p=none→xA trs σ (upd H p (.dK [])) fun ps H2=>H2 p=some (.dK [])∧∃ kvs:LK9,ps=kvs.map (fun kv=>(kV kv.1,kv.2))∧kvs.length≤15∧Q (.ref p) (upd H2 p (.dK (qW [] kvs)))
theorem EG (h:PPs X pos keys values trs)(B:keys.all (·.isSome)=true)(Y:keys.length=values.length)(h0:keys≠[])
  (J:keys.length≤15):PE X (.Dict keys values pos) (FC trs):=by
 intro pins s σ H Q I q;have hn:=I.hok.fresh (I_ s.heap.objs.size);have I1:=I.laid (a:=s.heap.objs.size) (o:=.dK []) (h':=s.heap.push { cls:=.type "dict",data:=.dict #[] }) (t':=s.toks) (fun _ _ q=>IY _ q) (I_ _) (wR s.heap I.big)
 refine wpAny_Dict_walk (knd:=aX X.prog X.w) B Y h0 J (thn (h pins _ σ _ _ I1 (q _ hn)) fun ws s2 ⟨ps,H2,U,O,e,kvs,ep,lk,q2⟩ =>?_);subst ep;obtain⟨rs,c,rk⟩:=rG (P:=X.prog) (w:=X.w) O;obtain⟨z,hd,a0,r0,dd⟩:=FM U.hok e;cases r0;refine⟨rs,c,dd,fun h' G hs=>⟨.ref s.heap.objs.size,_,?_,rfl,q2⟩⟩;have hz:(qW [] kvs).length≤sizeLine:=by
  have h1:=lC kvs [];rw[Mn]at h1;rw[sizeLine_eq];lia
 have he:∃ q,h'.get? s.heap.objs.size=some q:=let ⟨q,_,_,hq,_⟩:=G;⟨q,hq⟩
 exact p_ U (by rw[e];exact True.intro) hs he (Dv hz hd (rk.merge .nil) G)
def Itg (n:Nat)(g:Nat→V):It:=⟨fun i _=>i < n,fun i H x H'=>H'=H∧x=g i,fun i _=>n≤i⟩
theorem nD {K:Frag}{St:Nat→Heap→Prop} 
  (W:∀ A:Around,A.handled=none→Walks P w A it [it] [it] n Pn St) (hv:∀ i v,Pn i v→bz (g i) v)
  (hk:∀ i h h',St i h→(∀ o,h.get? it=some o→h'.get? it=some o)→St i h')
  (B:∀ (A:Around) (i:Nat) (s:Sh9) (Q:EV9) (E:EV9),St i s.heap→Q (.ref it) s→wpAny (model P w) A (pyIter (.ref it)) Q E s)
  (ho:∀ i h,St i h→∃ o c vs,h.get? it=some o∧o.cls=.type c∧o.data=.fields vs ∧
   ["enumerate","zip","dict_itemiterator","dict_reverseitemiterator","odict_iterator","itertools.zip_longest","itertools.pairwise"].contains c=false) :
  yG P w K tg (Itg n g) [it] it (fun i h=>i≤n∧St i h) where
 mem:=by simp
 obj:=fun i h st b G=>by
  have e:b=it:=by simpa using G
  subst e;obtain⟨o,c,vs,e,_,d,_⟩:=ho i h st.2;exact⟨o,e,fun v z=>by rw[d]at z;cases z⟩
 keep:=fun i h h' st k=>⟨st.1,hk i h h' st.2 fun o e=>k it (by simp) o e⟩
 item:=by
  intro X J hw hK hc i pins s σ H E I Y st hg;subst J hw hK;obtain⟨f0,f1,f2,f3,f4,f5⟩:=Y it (by simp);refine (W X.A (I.ok.hd hc)).item i s _ _ hg st.2 fun v h' tk J O kk =>?_;have I1:Inv X pins σ H { s with heap:=h',toks:=tk }:=I.turned (fun b o G e=>kk b o (by simpa using G) e) f0 f1 f3 f4 f5;obtain⟨o,c,vs,e,U,d,hn⟩:=ho _ _ O;exact⟨v,rfl,wJ (s:={ s with heap:=h',toks:=tk }) e U d hn ⟨g i,H,I1,hv i v J,⟨rfl,rfl⟩,⟨hg,O⟩,fun b G=>(Y b G).1⟩⟩
 done:=by
  intro X J hw hK hc i pins s σ H E I Y st hg;subst J hw hK;obtain⟨f0,f1,f2,f3,f4,f5⟩:=Y it (by simp);have hg':n≤i:=hg;have e:i=n:=Nat.le_antisymm st.1 hg';subst e;exact (W X.A (I.ok.hd hc)).done s _ _ st.2 fun h' tk kk=>⟨rfl,I.turned (fun b o G e=>kk b o (by simpa using G) e) f0 f1 f3 f4 f5⟩
 self:=fun A i s Q E st h=>B A i s Q E st.2 h
theorem gn {n:Nat}{g':Nat→V}{g:TG}{tb:TS}{D:sF}{σ:St}{H:Hp}(Pv:NS9)(J:Pv 0 σ H)
  (O:∀ i σ H,i < n→Pv i σ H→g (g' i) σ H fun B H2=>tb { D with nx:=Pv (i + 1),ct:=Pv (i + 1),bk:=D.nx } B H2) (U:∀ σ H,Pv n σ H→D.nx σ H) :
  ∃ W:Nat→NS9,(∃ m,W 0 m σ H)∧∀ i m σ H,W i m σ H →
   ((Itg n g').stop i H∧D.nx σ H)∨((Itg n g').go i H∧∃ N:SP9,(∀ G H',N G H'→∃ m',m' < m∧W (i + 1) m' G H')∧∀ x H',(Itg n g').yld i H x H'→g x σ H' fun B H2=>tb { D with nx:=N,ct:=N,bk:=D.nx } B H2):=by
 refine⟨fun i m σ H=>m=n - i∧i≤n∧Pv i σ H,⟨n,by simp,Je _,J⟩,?_⟩;rintro i m σ H ⟨rfl,hi,p⟩;by_cases hlt:i < n
 ·refine .inr ⟨hlt,Pv (i + 1),fun G H' Y=>⟨n - (i + 1),by lia,rfl,hlt,Y⟩,fun x H' y =>?_⟩;obtain⟨e,y⟩:=y;subst e y;exact O i σ _ hlt p
 ·have e:i=n:=by lia
  subst e;exact .inl ⟨I_ _,U σ H p⟩
section
variable {tg:Expr}
def sgn (z:Str)(i:Nat):Str:=⟨#[z.cps.getD i 0]⟩
abbrev IL (tl:TE):TI:=fun σ H R=>tl σ H fun x H1=>∃ z,x=.str z∧R (Itg z.length fun i=>.str (sgn z i)) H1
theorem BW (h:SignAt z i v):bz (.str (sgn z i)) v:=by
 obtain⟨c,u,B,rfl⟩:=h;refine⟨u,?_⟩;have e:z.cps.getD i 0=c:=by simp[Kb,B]
 unfold sgn;rw[e]
theorem nU (U:PE X l tl):PI X tg l (IL tl):=by
 intro pins s σ H R I h;refine thn (U pins s σ H _ I h) fun v B ⟨x,H1,G,Y,q1⟩ =>?_;obtain⟨z,e,q⟩:=q1;subst e;obtain⟨t,rfl⟩:=Y;have fp:∀ b∈[B.heap.objs.size],vJ X pins H1 b:=fun b hb=>by
  have e:b=B.heap.objs.size:=by simpa using hb
  subst e;exact G.fpOk (I_ _) (G.hok.fresh (I_ _))
 cases ha:z.cps.all (· < 128)
 ·refine wpAny_pyIter_wide ha ?_;refine⟨B.heap.objs.size,[B.heap.objs.size],_,_,H1,rfl,G.kept (t':=B.toks) fun b o e=>IY _ e,
   nD (St:=fun i h=>h.IsStrIter B.heap.objs.size "str_iterator" z t i) (fun A J=>Walks.strWide J _ z t) (fun i v=>BW) (fun i h h' st k=>let ⟨o,ho,r⟩:=st;⟨o,k o ho,r⟩) (fun A i s Q E st O=>wpAny_pyIter_striter_wide st O)
    (fun i h st=>let ⟨o,ho,hc,hd⟩:=st;⟨o,_,_,ho,hc,hd,by decide⟩),⟨Je _,⟨_,Ju _ rfl,rfl,rfl⟩⟩,fp,q⟩
 ·refine wpAny_pyIter_ascii ha ?_;refine⟨B.heap.objs.size,[B.heap.objs.size],_,_,H1,rfl,G.kept (t':=B.toks) fun b o e=>IY _ e,
   nD (St:=fun i h=>h.IsStrIter B.heap.objs.size "str_ascii_iterator" z t i) (fun A J=>Walks.strAscii J _ z t) (fun i v=>BW) (fun i h h' st k=>let ⟨o,ho,r⟩:=st;⟨o,k o ho,r⟩) (fun A i s Q E st O=>wpAny_pyIter_striter_ascii st O)
    (fun i h st=>let ⟨o,ho,hc,hd⟩:=st;⟨o,_,_,ho,hc,hd,by decide⟩),⟨Je _,⟨_,Ju _ rfl,rfl,rfl⟩⟩,fp,q⟩
abbrev HN (ta:TA):TI:=fun σ H R=>ta σ H fun vs H1=>∃ (i j c:Int) (n:Nat),vs=[.int i,.int j,.int c]∧c≠0∧(c < 1073741824∧-1073741824 < c)∧Builtin.Range.small i j c=true∧Builtin.Range.rangeSize i j c=(n:Int)∧R (Itg n fun k=>.int (i + (k:Int) * c)) H1
theorem kI (Y:Gl X "range")(hm:X.mg "range" = none)(ha:PA X [a,b,d] ta)
  (hs:starEach [a,b,d] X.env=(false,eval a X.env)::starEach [b,d] X.env:=by rfl) (J:(backTo pos (starEach [b,d] X.env)).any (·.1)=false:=by rfl) :
  PI X tg (.Call (.Name "range" p) [a,b,d] [] pos) (HN ta):=by
 intro pins s σ H R I h;refine Call_ (l_ I Y hm boot_range (PyProof.Rows.callWith_type1 (thn (ha pos pins s σ H _ I h) fun us G ⟨vs,H1,I1,r1,q1⟩ =>?_) hs J));obtain⟨i,j,c,n,e,hc,a0,O,hsz,q⟩:=q1;subst e;cases r1 with
 | cons r rr =>
  cases rr with
  | cons r' rr =>
   cases rr with
   | cons r'' rr =>
    cases rr;obtain⟨t,rfl⟩:=r;obtain⟨t',rfl⟩:=r';obtain⟨B,rfl⟩:=r'';refine call_range_3 hc ?_ (.inl (PyProof.noPylong_small (by lia)));refine wpAny_pyIter_range (IsRange.new ..) O ?_;have U:Inv X pins σ H1 { G with heap:=G.heap.push { cls:=.type "range",data:=.fields #[.int i t,.int j t',.int c B] } }:=I1.kept (t':=G.toks) fun b o e=>IY _ e
    refine⟨(G.heap.push { cls:=.type "range",data:=.fields #[.int i t,.int j t',.int c B] }).objs.size,[(G.heap.push { cls:=.type "range",data:=.fields #[.int i t,.int j t',.int c B] }).objs.size],_,_,H1,rfl,
     U.kept (t':=G.toks) fun b o e=>IY _ e,
     nD (g:=fun k=>.int (i + (k:Int) * c)) (fun A hA=>Walks.range hA _ i c n) (fun k v h=>let ⟨t,e⟩:=h;⟨t,e⟩) (fun i h h' st k=>k _ st) (fun A i s Q E st hQ=>wpAny_pyIter_rangeiter st hQ)
      (fun i h st=>⟨_,_,_,st,rfl,rfl,by decide⟩),⟨Je _,?_⟩,fun b hb =>?_,q⟩
    ·have e1:i + ((0:Nat):Int) * c=i:=by simp
     have e2:(n:Int) - ((0:Nat):Int)=Builtin.Range.rangeSize i j c:=by rw[hsz];simp
     show IsRangeIter _ _ (i + ((0:Nat):Int) * c) ((n:Int) - ((0:Nat):Int)) c;rw[e1,e2];exact Ju _ rfl
    ·have e:b=(G.heap.push { cls:=.type "range",data:=.fields #[.int i t,.int j t',.int c B] }).objs.size:=by simpa using hb
     subst e;exact U.fpOk (I_ _) (U.hok.fresh (I_ _))
end
section
theorem eQ:gY X (.type "int") (fun xs H Q=>∃ z n,xs=[.str z]∧PySem.intText? z=some n∧z.length≤640∧Q (.int n) H):=by
 intro pins s σ H xs us Q I r h;obtain⟨z,n,rfl,B,G,q⟩:=h;obtain⟨u,rfl,t,rfl⟩:=jx r;exact PySem.W.KIN.call_text B G ⟨.int n,H,I.tok _,⟨_,rfl⟩,q⟩
theorem qm:∀ {ys:List Str} {us:LV9},br (ys.map V.str) us→StrsAre us ys
 | [],us,r=>by rw[Kh]at r;cases r;exact .nil
 | y::ys,us,r=>by
  rw[Jl]at r;cases r with
  | cons r1 r2 =>
   obtain⟨t,e⟩:=r1;subst e;exact .cons y t (qm r2)
def Hk (K:Frag):V→List V→HV9:=fun x vs H Q=>∃ z a ys,x=.str z∧vs=[.ref a]∧SqL K H a (ys.map V.str)∧(ys.map (·.length)).sum + ys.length * z.length≤16777216∧Q (.str (Txt.join z ys)) H
theorem ET:MtR X "str.join" (Hk X.K):=by
 intro pins s σ H x vs v us Q I B G h;obtain⟨z,a,ys,rfl,rfl,J,O,q⟩:=h;obtain⟨t,rfl⟩:=B;obtain⟨u,rfl,U⟩:=G.one;cases U;obtain⟨its,r,Y,_⟩:=I.list J;exact join_list Y.isList (by simpa using qm r) O fun t' k=>⟨.str _,H,I.tok _,⟨_,rfl⟩,q⟩
def Iz:V→Option Int→Option Int→HV9:=fun x lo hi H Q=>∃ z,x=.str z∧z.length≤sizeLine∧Q (.str (Txt.slice z lo hi)) H
theorem i8:SlR X Iz:=by
 intro pins s σ H x v vl vu lo hi sl Q I rx hs pl Y h;obtain⟨z,rfl,B,q⟩:=h;obtain⟨t,rfl⟩:=rx;refine⟨"str",_,F.slot_str_getitem.lookup,typeIs_str _ _ _,?_⟩
 obtain⟨o,G,J,O⟩:=hs;have fin:∀ (U:Str) (t':Tok) (k:Nat),U=Txt.slice z lo hi→EP X pins σ Q (.str U t') { s with toks:=k }:=fun U t' k e=>by
  subst e;exact⟨.str _,H,I.tok _,⟨_,rfl⟩,q⟩
 cases pl with
 | none =>
  cases Y with
  | none=>exact wpAny_getItem_str_slice (l:=none) (u:=none) (st:=none) ⟨o,G,J,O⟩ rfl (post_val_or_str ⟨JA (Txt.slice_le z _ _) B,fun t' k=>fin _ t' k rfl⟩)
  | int j uj=>exact wpAny_getItem_str_slice (l:=none) (u:=some (j,uj)) (st:=none) ⟨o,G,J,O⟩ rfl (post_val_or_str ⟨JA (Txt.slice_le z _ _) B,fun t' k=>fin _ t' k rfl⟩)
 | int i ui =>
  cases Y with
  | none=>exact wpAny_getItem_str_slice (l:=some (i,ui)) (u:=none) (st:=none) ⟨o,G,J,O⟩ rfl (post_val_or_str ⟨JA (Txt.slice_le z _ _) B,fun t' k=>fin _ t' k rfl⟩)
  | int j uj=>exact wpAny_getItem_str_slice (l:=some (i,ui)) (u:=some (j,uj)) (st:=none) ⟨o,G,J,O⟩ rfl (post_val_or_str ⟨JA (Txt.slice_le z _ _) B,fun t' k=>fin _ t' k rfl⟩)
def Hn (K:Frag)(T:String):List V→HV9:=fun xs H Q=>∃ x t b,xs=[x,.ty T]∧kW K H x t∧kitOne K t (.type T)=some b∧Q (.bl b) H
theorem cV (T:String):gY X (.builtin "isinstance") (Hn X.K T):=by
 intro pins s σ H xs us Q I r h;obtain⟨x,t,b,rfl,ty,B,q⟩:=h;obtain⟨u,c,rfl,G,J⟩:=qg r;cases (show c=.type T from J);exact Bb I G ty B fun tk=>⟨.bl b,H,I.tok _,rfl,q⟩
end
section
variable {w:Wd9}{R:Result→Sh9→Prop}
def BK (ifs:List Expr)(env:Env):Sem Bool:=forIn ifs true fun c r=>if r=true then do
  let ok ← isTrue c env (eval c env)
  pure (ForInStep.yield ok)
 else pure (ForInStep.yield r)
theorem wZ (I:Nat→Sh9→Prop)
  (turn:∀ n s,I n s→wpAny (model prog w) A (pyNext it) (fun r J=>match r with
   | none=>R (.ok .next) J
   | some v=>wpAny (model prog w) A (letOwnedTupleGo target it v) (fun _ O=>wpAny (model prog w) A (assign target env v) (fun _ U =>
     wpAny (model prog w) A (BK ifs env) (fun ok B=>if ok=true then
     wpAny (model prog w) A (eval elt env) (fun x B =>
      wpAny (model prog w) A (call (.builtin "list.append") [acc,x]) (fun _ Y=>∃ m,m < n∧I m Y) (notedBy (model prog w) A env fun e s'=>R (.error e) s') B) (notedBy (model prog w) A env fun e s'=>R (.error e) s') B
     else ∃ m,m < n∧I m B) (notedBy (model prog w) A env fun e s'=>R (.error e) s') U)
     (notedBy (model prog w) A env fun e s'=>R (.error e) s') O) (notedBy (model prog w) A env fun e s'=>R (.error e) s') J) (notedBy (model prog w) A env fun e s'=>R (.error e) s') s)
  (n:Nat) (h:I n s) :
  codeAny (model prog w) A (.compLoop (.ListComp elt [⟨target,iter,ifs,0⟩] scope pos) 0 it acc env) R s:=by
 refine codeAny_loop rfl I (fun n s hI =>?_) n h;show wpAny _ A ((compTurn (.ListComp elt [⟨target,iter,ifs,0⟩] scope pos) 0 it acc env).onRaise (fun x=>do noteFrame x env;theTreesLotGoes x)) _ _ s;refine wpAny_noted ?_;rw[compTurn_list];refine IX (wpAny_standAt (IX (Kf (turn n s hI) (fun r J h1 =>?_) fun _ _ h'=>h')));cases r with
 | none=>exact Jp h1
 | some v =>
  refine IX (Kf h1 (fun _ O h2=>IX (Kf h2 (fun _ U h3 =>?_) fun _ _ h'=>h')) fun _ _ h'=>h');refine IX (Kf h3 (fun ok B G =>?_) fun _ _ h'=>h');cases ok with
  | false=>exact Jp ⟨rfl,G⟩
  | true =>
   exact IX (IX (Kf G (fun x B G=>IX (Kf G (fun _ Y h5=>Jp (Jp ⟨rfl,h5⟩)) fun _ _ h'=>h')) fun _ _ h'=>h'))
end
section
theorem oK:∀ {bs:List Bool} {us:LV9},br (bs.map V.bl) us→LSm.BoolsAre us bs
 | [],us,r=>by rw[Kh]at r;cases r;exact .nil
 | b::bs,us,r=>by
  rw[Jl]at r;cases r with
  | cons r1 r2 =>
   cases (show _=Value.bool b from r1);exact .cons b (oK r2)
theorem DK (U:X.calm=true):gY X (.builtin "all") (fun xs H Q=>∃ (a:Addr) (bs:List Bool),xs=[.ref a]∧SqL X.K H a (bs.map V.bl)∧Q (.bl (bs.all id)) H):=by
 intro pins s σ H xs us Q I r h;obtain⟨a,bs,rfl,Y,q⟩:=h;obtain⟨u,rfl,ru⟩:=jx r;cases ru;obtain⟨its,rv,B,_⟩:=I.list Y;have J:=oK rv;have G:a < s.heap.objs.size:=by obtain⟨_,e,_⟩:=B.isList;exact Jo e
 refine call_all_walk (wpAny_pyIter_list B.isList ?_);refine⟨s.heap.objs.size,[s.heap.objs.size,a],[s.heap.objs.size],its.toArray.size,_,_,fun i=>(bs[i]?).getD true,rfl,Walks.list (A:=X.A.in1) (I.ok.hd U) _ a (JJ G) its.toArray,
  ⟨⟨_,Ju _ rfl,rfl,rfl⟩,B.isList.push _⟩,fun i v s' Q' E' hP O =>?_,fun h' tk hk =>?_⟩
 ·obtain⟨b,e,rfl⟩:=J.get i v (by simpa using hP);simp only[e,Option.getD_some]at O;exact wpAny_truthy_bool O
 ·have e:((List.range its.toArray.size).all fun i=>(bs[i]?).getD true)=bs.all id:=by
   rw[JC,J.length];exact LSm.range_all bs
  rw[e];exact⟨.bl _,H,I.kept (LSm.kept_iter hk),rfl,q⟩
theorem CP:MtR X "str.index" (fun x vs H Q=>∃ z y i rest,x=.str z∧vs=[.str y]∧Builtin.Str.occurrences z y 0 z.length 1=i::rest∧Q (.int (i:Nat)) H):=by
 intro pins s σ H x vs v us Q I B G h;obtain⟨z,y,i,rest,rfl,rfl,J,q⟩:=h;obtain⟨t,rfl⟩:=B;obtain⟨u,rfl,O,rfl⟩:=G.one;exact SC.index J ⟨.int _,H,I.tok _,⟨_,rfl⟩,q⟩
end
def bW (CX:CXT):Prop:=∀ outer H s e s',CX outer H s E0 e s'→False
theorem Hq (q:bW CX):rO CX X E0:=fun _ _ _ _ _ _ _ h=>(q _ _ _ _ _ h).elim
structure Fok (P:Pg9)(w:Wd9)(K:Frag)(mg:Mg9)(base:Heap)(CX:CXT)(j:Nat)(x:Str)(ps:List Str)(dvs:List V)(sp:Sp):Prop where
 ex:∃ f fd ds,bF P w K mg base CX j f fd ps sp∧fg K fd ps ds∧br dvs ds∧keepIn K (.ref f)=true∧mg x=some (.ref f)
section
variable {CX:CXT}{j k:Nat}{ps:List Str}{sp:Sp}{dvs:List V}{E:XK}{x:Str}{p:Pos}{e:Expr}{es:List Expr}{t:TA}
theorem qN (F:Fok X.prog X.w X.K X.mg X.base CX j x ps dvs sp)(O:dP k X.A)(U:rO CX X E)(Y:PA X (e::es) t)(hj:j≤k:=by decide)(hg:Gl X x:=by rfl)
  (B:(x == ("__debug__" : Str))=false:=by decide) (he:starEach (e::es) X.env=(false,eval e X.env)::starEach es X.env:=by rfl) (J:(backTo pos (starEach es X.env)).any (·.1)=false:=by rfl) :
  PE X (.Call (.Name x p) (e::es) [] pos) (BQ sp dvs E t):=by
 obtain⟨f,fd,ds,G,b,v,kp,m⟩:=F.ex;exact EH G (O.mono hj) hg m kp b v U Y B he J
theorem aj (F:Fok X.prog X.w X.K X.mg X.base CX j x ps dvs sp)(q:bW CX)(J:dP k X.A)(O:PA X (e::es) t)(hj:j≤k:=by decide)(U:Gl X x:=by rfl)
  (B:(x == ("__debug__" : Str))=false:=by decide) (Y:starEach (e::es) X.env=(false,eval e X.env)::starEach es X.env:=by rfl) (G:(backTo pos (starEach es X.env)).any (·.1)=false:=by rfl) :
  PE X (.Call (.Name x p) (e::es) [] pos) (BQ sp dvs E0 t):=qN F J (Hq q) O hj U B Y G
end
section
variable {P:Pg9}{w:Wd9}{mg:Mg9}{base:Heap}
structure bE (K:Frag)(x qual:Str)(st:Stmt)(f:Addr)(fd:Fd9)(dV:Value):Prop where
 ex:∃ (oc:Value) (od:Option Addr) (kV doc pm:Value) (an:Option Addr) (cdv ct:Value) (osl:Array (OV9)),
  fd=fnOf x qual (cD st) (bU st) (aq st) dV kV doc pm an cdv ct∧K.lookup f=some ⟨oc,od,.func fd,osl⟩∧codeIn K cdv qual=true
 kp:keepIn K (.ref f)=true
theorem pV {x qual:Str}{st:Stmt}{f:Addr}{Y:Value}{od J:Option Addr}{G:Array (OV9)}{O kV doc U B ct:Value}(l:K.lookup f=some ⟨Y,od,.func (fnOf x qual (cD st) (bU st) (aq st) O kV doc U J B ct),G⟩)
  (c:codeIn K B qual=true) (k:keepIn K (.ref f)=true):bE K x qual st f (fnOf x qual (cD st) (bU st) (aq st) O kV doc U J B ct) O:=⟨⟨Y,od,kV,doc,U,J,B,ct,G,rfl,l,c⟩,k⟩
theorem bE.ok {st:Stmt}(F:bE K x qual st f fd dV)(S:aE N ps (aq st))(len:∀ vs H Q E,sp vs H Q E→vs.length=ps.length)
  (G:∀ (B:Value) (A:Around) (outer:List Env) (s:Sh9) (H:Hp) (vs:List V) (Q:VK) (E:XK),dP k (A.deeper (envOfC qual (aq st) s.heap.objs.size f B))→sp vs H Q E →
   ∃ t,PSs (jp CX P w K mg base N qual (aq st) f B A outer s H E).nox (bU st) t∧t { nx:=fun _ H'=>Q .non H',rt:=Q } (start N vs) H):bF P w K mg base CX (k + 1) f fd ps sp:=by
 obtain⟨oc,od,kV,doc,pm,an,B,ct,U,rfl,Y,J⟩:=F.ex;refine Dd Y J S len fun A outer s H vs Q E hr O =>?_;obtain⟨t,h,q⟩:=G B A outer s H vs Q E hr O;exact⟨t,h.nox,q⟩
theorem bE.okX {st:Stmt}(F:bE K x qual st f fd dV)(S:aE N ps (aq st))(len:∀ vs H Q E,sp vs H Q E→vs.length=ps.length)
  (G:∀ (B:Value) (A:Around) (outer:List Env) (s:Sh9) (H:Hp) (vs:List V) (Q:VK) (E:XK),dP k (A.deeper (envOfC qual (aq st) s.heap.objs.size f B))→sp vs H Q E →
   ∃ t,PSs (jp CX P w K mg base N qual (aq st) f B A outer s H E) (bU st) t∧t { nx:=fun _ H'=>Q .non H',rt:=Q } (start N vs) H):bF P w K mg base CX (k + 1) f fd ps sp:=by
 obtain⟨oc,od,kV,doc,pm,an,B,ct,U,rfl,Y,J⟩:=F.ex;exact Dd Y J S len fun A outer s H vs Q E hr O=>G B A outer s H vs Q E hr O
theorem bE.binds {st:Stmt}(F:bE K x qual st f fd dV)
  (h:∀ (kV doc G:Value) (J:Option Addr) (B ct:Value) (us:LV9),us.length=ps.length→bindArgs (fnOf x qual (cD st) (bU st) (aq st) dV kV doc G J B ct) ⟨us,[]⟩=pure (ps.zip us)):fg K fd ps []:=by
 obtain⟨Y,od,kV,doc,G,J,B,ct,O,rfl,lk,U⟩:=F.ex;exact .all (h kV doc G J B ct)
theorem bE.bindsD {st:Stmt}(F:bE K x qual st f fd (.ref t))(O:K.lookup t=some o)(U:o.data=.seq items n)
  (h:∀ (kV doc G:Value) (J:Option Addr) (B ct:Value) (us:LV9),(us++ds).length=ps.length →
   ∃ k,bindArgs (fnOf x qual (cD st) (bU st) (aq st) (.ref t) kV doc G J B ct) ⟨us,[]⟩=seqItems? (.ref t) >>= k∧k (some items)=pure (ps.zip (us++ds))):fg K fd ps ds:=by
 obtain⟨oc,od,kV,doc,G,J,B,ct,Y,rfl,lk,a0⟩:=F.ex;intro s us X hl;obtain⟨k,h1,h2⟩:=h kV doc G J B ct us hl;exact BindsTo.of_defaults rfl (X _ _ O) U h1 h2
theorem fok {st:Stmt}(F:bE K x qual st f fd dV)(G:bF P w K mg base CX j f fd ps sp)(b:fg K fd ps [])(m:mg x=some (.ref f)):
  Fok P w K mg base CX j x ps [] sp:=⟨f,fd,[],G,b,.nil,F.kp,m⟩
theorem IP {st:Stmt}(F:bE K x qual st f fd dV)(G:bF P w K mg base CX j f fd ps sp)(b:fg K fd ps ds)(v:br dvs ds)(m:mg x=some (.ref f)):
  Fok P w K mg base CX j x ps dvs sp:=⟨f,fd,ds,G,b,v,F.kp,m⟩
end
section
def FS (i j:Int):Prop:=0 < j∧j < 2 ^ 1000
def xR:R2:=fun x y H Q=>of2 (fun i j=>FS i j∧Q (.int (i / j)) H) x y
theorem aL:OpR X (binaryOp .FloorDiv) xR:=opI fun i j _ _ _ _ _ B q=>by
 have h1:(0:Int) < j:=B.1;have h2:j < 2 ^ 1000:=B.2;refine floordiv_int (by lia) (by rw[Int.fdiv_eq_ediv_of_nonneg i (by lia)];exact q) (.inl (PyProof.noPylong_of_log2 ?_));have e:j.natAbs.log2 < 1000:=by
  refine (Nat.log2_lt (by lia)).mpr ?_;have G:((j.natAbs:Nat):Int)=j:=by lia
  have J:((2 ^ 1000:Nat):Int)=(2:Int) ^ 1000:=by rw[Int.natCast_pow];rfl
  lia
 lia
theorem cm (B:0 < j)(h1:j < 1000000000000000000000000):FS i j:=⟨B,Int.lt_trans h1 (by decide +kernel)⟩
end
theorem eU:bootBuiltins "int" = some (.type "int"):=by decide +kernel
theorem yE:bootBuiltins "str" = some (.type "str"):=by decide +kernel
theorem Aa:bootBuiltins "bool" = some (.type "bool"):=by decide +kernel
theorem iR:bootBuiltins "tuple" = some (.type "tuple"):=by decide +kernel
theorem z_:bootBuiltins "dict" = some (.type "dict"):=by decide +kernel
theorem bv:bootBuiltins "isinstance" = some (.builtin "isinstance"):=by decide +kernel
theorem om:bootBuiltins "max" = some (.builtin "max"):=by decide +kernel
theorem oj:bootBuiltins "min" = some (.builtin "min"):=by decide +kernel
theorem GW:bootBuiltins "all" = some (.builtin "all"):=by decide +kernel
theorem cW:bootBuiltins "len" = some (.builtin "len"):=by decide +kernel
theorem DM:bootBuiltins "abs" = some (.builtin "abs"):=by decide +kernel
section
theorem C0:kitOne K (.type "int") (.type "int")=some true:=by kernel_rfl
theorem C3:kitOne K (.type "int") (.type "bool")=some false:=by kernel_rfl
theorem Gw:kitOne K (.type "str") (.type "str")=some true:=by kernel_rfl
theorem Gx:kitOne K (.type "bool") (.type "int")=some true:=by kernel_rfl
theorem Gy:kitOne K (.type "bool") (.type "bool")=some true:=by kernel_rfl
theorem n6:kitOne K (.type "tuple") (.type "tuple")=some true:=by kernel_rfl
end
section
variable {pins:Pn9}{σ:St}{h':Heap}
theorem Inv.turnedL {t':Nat}{L:List Addr}(I:Inv X pins σ H s)(k:∀ b o,b∉L→s.heap.get? b=some o→h'.get? b=some o)(f:∀ b∈L,vJ X pins H b):Inv X pins σ H { s with heap:=h',toks:=t' }:=by
 have G:∀ b u,H b=some u→b∉L:=fun b u e z=>by rw[(f b z).1]at e;cases e
 refine I.step (g':=s.gens) (d':=s.drawn) (ch:=L) (fun b J =>?_) (fun b o _ _ B e _=>k b o B e) (fun b o _ _ B e _=>⟨o.slots,k b o B e⟩) (fun _ _ _ _ n=>n)
  (fun b o B e=>⟨o,k b o B e⟩) (fun _ _ e=>e) (fun _ _ _ e=>e) (fun b ps e=>⟨#[],by rw[e];simp⟩) (fun m O =>?_) (fun b u e =>?_) I.bare
 ·obtain⟨f0,U,f2,Y,f4,f5⟩:=f b J;exact⟨Y,U,f4,f5⟩
 ·obtain⟨o,es,ep,ho,r⟩:=O;exact⟨o,es,ep,k _ o (fun z=>(f _ z).2.1 rfl) ho,r⟩
 ·refine (I.hok b u e).stay (fun c v B q=>k c v ?_ q) (fun _ q=>q) fun _ _ q=>q;rcases B with z | z
  ·rw[z];exact G b u e
  ·exact G c _ z
end
def KTu (K:Frag)(a:Addr)(xs:List V):Prop:=∃ (o:Obj) (its:Array Value) (n:Nat),K.lookup a=some o∧o.cls=.type "tuple" ∧ o.data=.seq its n∧its.size≤sizeLine∧br xs its.toList
theorem KTu.sq {K:Frag}(h:KTu K a xs):SqT K H a xs:=.inr h
def KD (P:Pg9)(w:Wd9)(K:Frag)(a:Addr)(kvs:LK9):Prop:=∃ (o:Obj) (vs:List (Key × Value)),K.lookup a=some o∧KV kvs vs∧o.IsDictOf (aX P w) vs
abbrev Hc (P:Pg9)(w:Wd9)(K:Frag)(td ty:TE):TE:=fun σ H Q=>td σ H fun x H1=>ty σ H1 fun y H2=>∃ a kvs k v,x=.ref a∧y=kV k∧KD P w K a kvs∧cF kvs k=some v∧Q v H2
theorem zg (U:PE X o td)(hi:PE X i ty)(Y:Fx i):PE X (.Subscript o i pos) (Hc X.prog X.w X.K td ty):=by
 intro pins s σ H Q I h;refine uq PySem.F.slot_dict_getitem.lookup Y (thn (U pins s σ H _ I h) fun u s1 ⟨x,H1,I1,rx,q1⟩=>thn (hi pins s1 σ H1 _ I1 q1) fun iv s2 ⟨y,H2,J,ry,a,kvs,k,v,ex,ey,kd,l,q2⟩ =>?_);subst ex ey;obtain rfl:u=Value.ref a:=rx;obtain⟨O,vs,hk,B,dd⟩:=kd;have dd':s2.heap.DictOf (aX X.prog X.w) a vs:=Heap.dictOf_iff.mpr ⟨O,J.kIn a O hk,dd⟩;obtain⟨w',hw,G⟩:=pi.some_of (v:=v) (o:=valueAt vs k) (by rw[← l];exact B.val k);exact⟨dd'.typeIs,wpAny_getItem_of (gU ry) dd'.mapOf hw ⟨v,H2,J.tok _,G,q2⟩⟩
def Tr3 (h base:Heap)(e:Addr)(cls a0 fl:Value):Prop :=
 ∃ oe vs T oT ts,h.get? e=some oe∧(oe.cls=cls∧vs[0]? = some a0∧vs[2]? = some .none)∧oe.data=.fields vs∧vs[1]? = some (.ref T)∧base.get? T=none∧T≠e∧h.get? T=some oT∧oT.data=.fields ts∧ts[3]? = some fl
def On3 (base:Heap)(l:List Env)(e:Addr)(cls a0 fl:Value)(h:Heap):Prop:=base.StaysIn h∧base.get? e=none∧h.FunFrames base l∧Tr3 h base e cls a0 fl
section
variable {M:Model}{E:EV9}{base:Heap}{env:Env}{outer l:List Env}{L e:Addr}{cls a0 fl:Value}{Q:Unit→Sh9→Prop}
theorem En (G:s.heap.FunFrames base l)(J:s.heap.get? b=some o)(O:o.data=.fields vs):b∉l.filterMap (·.frame):=fun m=>by
 obtain⟨_,o',B,U⟩:=G.mem m;cases J.symm.trans B;exact U vs O
theorem On3.poke (st:base.StaysIn h)(O:h.FunFrames base l)(U:h.get? T=some oT)(dT:oT.data=.fields ts)(Y:base.get? T=none)(G:∀ b,b≠T→h'.get? b=h.get? b):
  base.StaysIn h'∧h'.FunFrames base l∧∀ b o,h.get? b=some o→(∀ vs,o.data≠.fields vs)→h'.get? b=some o:=by
 have k:∀ b o,h.get? b=some o→(∀ vs,o.data≠.fields vs)→h'.get? b=some o:=fun b o B J=>(G b fun q=>by subst q;cases B.symm.trans U;exact J ts dT).trans B;exact⟨fun b o B=>(G b fun q=>by subst q;rw[Y]at B;cases B).trans (st b o B),O.of_keeps fun b o B J=>⟨o,k b o B J,rfl⟩,k⟩
theorem Hv (f:On3 base l e cls a0 fl s.heap)(q:∀ h',On3 base l e cls a0 .none h'→s.heap.UpToSlots h'→Q () { s with heap:=h' }):wpAny M A (setFlight (.ref e) none) Q E s:=by
 obtain⟨st,ne,fr,oe,vs,T,oT,ts,J,hc,O,h1,U,Y,B,dT,h3⟩:=f;have lt:=(KE.mp h3).1;unfold setFlight;refine IX (wpAny_field J O h1 ?_);rw[if_pos (by simp)];refine wpAny_setField B dT lt ?_;obtain⟨a1,a2,a3⟩:=On3.poke st fr B dT U (h':=s.heap.update T (Obj.mapFields (·.setIfInBounds 3 ((none:Option Addr).elim Value.none fun f=>rawInt f)))) fun b G=>JK _ _ (Ne.symm G);exact q _ ⟨a1,ne,a2,oe,vs,T,_,_,(JK _ _ Y).trans J,hc,O,h1,U,Y,LJ _ B (Obj.isFreed_of_fields (Obj.data_mapFields dT _)),Obj.data_mapFields dT _,by simp[lt]⟩ fun b o G nf=>⟨o.slots,a3 b o G nf⟩
theorem Dq (a1:A.frames=some (env::outer))(hf:env.frame=some L)(st:base.StaysIn s.heap)(ne:base.get? e=none)(U:s.heap.FunFrames base (env::outer))
  (he:s.heap.get? e=some oe) (Y:oe.data=.fields vs) (lt:1 < vs.size) (hc:oe.cls=cls∧vs[0]? = some a0∧vs[2]? = some .none) (q:∀ h',On3 base (env::outer) e cls a0 (rawInt L) h'→s.heap.UpToSlots h'→Q () { s with heap:=h' }) :
  wpAny M A (do let a ← frameOf env;let O ← entryPlaceOf L had;let b ← EntryCells.newEntry head a .none (rawInt L) .none O;setField (.ref e) 1 b) Q E s:=by
 have out:=En U he Y;refine IX (wpAny_frameOf_fun a1 U hf fun g sl=>IX (wpAny_entryPlaceOf fun O hp =>?_));unfold EntryCells.newEntry newFields;refine IX (wpAny_newObj_type ?_ (hp.sizeOk5 _ _ _ _ _));have g1:g.get? e=some oe:=(sl.2.1 e out).trans he;have g2:base.StaysIn g:=fun b o B=>(sl.2.1 b fun m=>by rw[(U.mem m).1]at B;cases B).trans (st b o B);obtain⟨N,eN⟩:∃ N:Obj,N={ cls:=.type "traceback",dict:=none,data:=.fields ([head,.ref L,.none,rawInt L,.none]++(if O.isEmpty then List.replicate 6 Value.none else O)).toArray }:=⟨_,rfl⟩
 have dN:N.data=.fields ([head,.ref L,.none,rawInt L,.none]++(if O.isEmpty then List.replicate 6 Value.none else O)).toArray:=by rw[eN]
 have gN:(g.push N).get? g.objs.size=some N:=Ju g (by rw[eN];rfl);have g3:(g.push N).get? e=some oe:=IY N g1;have Te:g.objs.size≠e:=KU (Jo g1);rw[← eN];refine wpAny_setField g3 Y lt (q _ ?_ ?_)
 all_goals
  have J:∀ b,b≠e→((g.push N).update e (Obj.mapFields (·.setIfInBounds 1 (Value.ref g.objs.size)))).get? b=(g.push N).get? b:=fun b B=>JK _ _ (Ne.symm B);have hk:∀ b o,s.heap.get? b=some o→(∀ vs,o.data≠.fields vs)→∃ G,((g.push N).update e (Obj.mapFields (·.setIfInBounds 1 (Value.ref g.objs.size)))).get? b=some { o with slots:=G }:=fun b o B nf=>by
   obtain⟨G,e1⟩:=sl.2.2 b o B;exact⟨G,(J b fun z=>by subst z;cases B.symm.trans he;exact nf vs Y).trans (IY N e1)⟩
 ·have d3:=Obj.data_mapFields Y (·.setIfInBounds 1 (Value.ref g.objs.size));refine⟨fun b o B=>(J b fun z=>by subst z;rw[ne]at B;cases B).trans (IY N (g2 b o B)),ne,U.of_keeps fun b o B nf =>?_,_,_,g.objs.size,N,_,LJ _ g3 (Obj.isFreed_of_fields d3),⟨?_,?_,?_⟩,d3,by simp[lt],g2.fresh,Te,(J _ Te).trans gN,dN,by rfl⟩
  ·obtain⟨G,e1⟩:=hk b o B nf;exact⟨_,e1,rfl⟩
  ·exact (Obj.cls_mapFields _ _).trans hc.1
  ·rw[LB (by decide)];exact hc.2.1
  ·rw[LB (by decide)];exact hc.2.2
 ·exact hk
theorem Hy (B:A.frames=some (env::outer))(O:env.frame=some L)(f:On3 base (env::outer) e cls a0 .none s.heap)(q:∀ h',On3 base (env::outer) e cls a0 (rawInt L) h'→s.heap.UpToSlots h'→Q () { s with heap:=h' }):
  wpAny M A (noteFrame (.ref e) env) Q E s:=by
 obtain⟨st,ne,fr,oe,vs,T,oT,ts,U,hc,Y,h1,nT,Te,G,dT,h3⟩:=f;unfold noteFrame;simp only[O];refine IX (wpAny_field U Y h1 ?_);rw[if_pos (by simp)];refine IX (wpAny_field G dT h3 ?_);rw[if_neg (by simp[rawInt])];refine IX (wpAny_setField G dT (KE.mp h3).1 ?_);obtain⟨a1,a2,a3⟩:=On3.poke st fr G dT nT (h':=s.heap.update T (Obj.mapFields (·.setIfInBounds 3 Value.none))) fun b J=>JK _ _ (Ne.symm J);exact Dq B O a1 ne a2 ((JK _ _ Te).trans U) Y (KE.mp h1).1 hc fun h' o u=>q h' o fun b o' J nf=>u b o' (a3 b o' J nf) nf
theorem Gr (B:A.frames=some (env::outer))(G:env.frame=some L)(f:On3 base (env::outer) e cls a0 .none s.heap)(q:∀ h',On3 base outer e cls a0 .none h'→s.heap.UpToSlots h'→Q () { s with heap:=h' }):
  wpAny M A (leaving env (.ref e)) Q E s:=by
 unfold leaving;refine IX (Hy B G f fun h1 J O=>Hv J fun h2 U Y =>?_);obtain⟨b1,b2,⟨_,_,b3⟩,b4⟩:=U;exact q h2 ⟨b1,b2,b3,b4⟩ (O.trans Y)
theorem Hx (G:A.frames=some (env::outer))(O:env.frame=some L)(st:base.StaysIn h)(Y:h.FunFrames base (env::outer))(B:Heap.MadeExcOf h s.heap e cls args)
  (q:∀ h' a0,On3 base outer e cls a0 .none h'→s.heap.UpToSlots h'→Q () { s with heap:=h' }):wpAny M A (leaving env (.ref e)) Q E s:=by
 obtain⟨t,U,tn,ht⟩:=B.there;have ne:base.get? e=none:=by
  cases z:base.get? e with
  | none=>rfl
  | some o=>have:=st e o z;rw[B.new]at this;cases this
 unfold leaving noteFrame;simp only[O];refine IX (IX (wpAny_field U rfl (x:=Value.none) rfl ?_));rw[if_neg (by decide)];refine Dq G O (fun b o J=>B.keeps b o (st b o J)) ne (Y.of_keeps fun b o J _=>⟨o,B.keeps b o J,rfl⟩) U rfl (by simp) ⟨rfl,rfl,rfl⟩ fun h1 o1 u1=>Hv o1 fun h2 o2 u2 =>?_;obtain⟨b1,b2,⟨_,_,b3⟩,b4⟩:=o2;exact q h2 _ ⟨b1,b2,b3,b4⟩ (u1.trans u2)
end
theorem ci.there (x:ci P w H h a o):∃ u,h.get? a=some u:=by
 cases o with
 | lst xs=>obtain⟨_,_,_,_,e⟩:=x;exact⟨_,e⟩
 | tup xs=>obtain⟨_,_,_,o,e,_⟩:=x;exact⟨_,e⟩
 | dK kvs=>obtain⟨_,_,_,_,o,_,_,e,_⟩:=x;exact⟨_,e⟩
 | dT kvs=>obtain⟨_,_,_,_,o,_,_,e,_⟩:=x;exact⟨_,e⟩
 | set S n=>obtain⟨o,_,_,_,e,_⟩:=x;exact⟨_,e⟩
 | ins C dx fs=>obtain⟨_,_,_,e,_⟩:=x;exact⟨_,e⟩
 | own y=>exact x
 | xd fs=>obtain⟨_,⟨_,_,_,e,_⟩,_⟩:=x;exact⟨_,e⟩
 | rng lo hi=>obtain⟨_,_,_,e⟩:=x;exact⟨_,e⟩
 | frz ob u=>obtain⟨e,_⟩:=x;exact⟨_,e⟩
 | tbl ps=>exact⟨_,(show h.get? a=some _ from x)⟩
 | met f y=>exact⟨_,(show h.get? a=some _ from x)⟩
 | ext φ=>obtain⟨_,e,_⟩:=x;exact e
theorem HOk.not (x:HOk P w H h)(e:h.get? a=none):H a=none:=by
 cases q:H a with
 | none=>rfl
 | some o =>
  obtain⟨u,z⟩:=(x a o q).there;rw[e]at z;cases z
structure Fly (h0:Heap)(H:Hp)(h:Heap)(e:Addr)(cls:Value):Prop where
 ex:∃ oe vs a0 T oT ts,h.get? e=some oe∧(oe.cls=cls∧vs[0]? = some a0∧vs[2]? = some .none)∧oe.data=.fields vs∧vs[1]? = some (.ref T)∧(h0.get? T=none∧H T=none)∧T≠e∧h.get? T=some oT∧oT.data=.fields ts∧ts[3]? = some .none
 new:h0.get? e=none
 un:H e=none
def CXe (P:Pg9)(w:Wd9):CXT:=fun outer H s E ev s'=>∃ e cls H',ev=.ref e∧s'.os=s.os∧AllBare s'.gens∧Un (frs outer) [] H H' s.heap s'.heap∧HOk P w H' s'.heap∧Fly s.heap H' s'.heap e cls∧E cls none H'
theorem bj:bW (CXe P w):=fun _ _ _ _ _ ⟨_,_,_,_,_,_,_,_,_,h⟩=>h
theorem xO {h b B:Heap}:∀ {l:List Env},h.FunFrames b l→(∀ a∈frs l,B.get? a=none)→h.FunFrames B l
 | [],_,_=>trivial
 | env::r,⟨hk,⟨L,o,hf,hn,ho,hd⟩,hr⟩,k=>by
  have e:frs (env::r)=L::frs r:=by unfold frs;rw[Ln,hf]
  rw[e]at k;exact⟨hk,⟨L,o,hf,k L Jg,ho,hd⟩,xO hr fun a G=>k a (Ja _ G)⟩
abbrev less (h:Heap)(l:List Addr):Heap:=PySem.W.hideAll h l
theorem q9 (h:Heap)(l:List Addr):(less h l).StaysIn h:=fun _ _ e=>PySem.W.of_hideAll l e
section
variable {P:Pg9}{w:Wd9}{H':Hp}{h h' h'' bs:Heap}{l:List Env}{hid:List Addr}
theorem yM (u:Un (frs l) [] H H' h h')(ok:HOk P w H' h')(fr:h'.FunFrames bs l)(Y:∀ b∈frs l,H' b=none)(hh:∀ b∈hid,h.get? b=none∧H' b=none)
  (st:(less h' (hid++frs l)).StaysIn h'') (up:h'.UpToSlots h''):Un (frs l) [] H H' h h''∧HOk P w H' h'':=by
 have kp:∀ b o,h'.get? b=some o→b∉hid→b∉frs l→h''.get? b=some o:=fun b o e n1 n2=>st b o (hideAll_get _ e fun z=>(Jj.mp z).elim n1 n2);have nh:∀ b o,h.get? b=some o→b∉hid:=fun b o e z=>by rw[(hh b z).1]at e;cases e
 have fs:∀ b o,h'.get? b=some o→b∈frs l→∃ sl,h''.get? b=some { o with slots:=sl }:=fun b o e B=>by
  obtain⟨_,o',e',nf⟩:=fr.mem B;rw[e]at e';cases e';exact up b o e nf
 refine⟨⟨fun b o e n B J=>kp b o (u.keep b o e n B J) (nh b o e) B,fun b o e n B J =>?_,u.free,fun b o e J =>?_,u.tups,u.frzs,u.tbls⟩,fun a o e =>?_⟩
 ·obtain⟨sl,U⟩:=u.slot b o e n B J;obtain⟨O,e2⟩:=fs b _ U B;exact⟨O,e2⟩
 ·obtain⟨o',U⟩:=u.there b o e J;by_cases B:b∈frs l
  ·obtain⟨O,e2⟩:=fs b _ U B;exact⟨_,e2⟩
  ·exact⟨o',kp b o' U (nh b o e) B⟩
 ·refine (ok a o e).stay (fun b v B q =>?_) (fun _ q=>q) fun _ _ q=>q;have G:∃ v,H' b=some v:=by
   rcases B with z|z
   ·exact⟨o,z▸e⟩
   ·exact⟨_,z⟩
  obtain⟨v',G⟩:=G;refine kp b v q (fun z =>?_) fun z =>?_
  ·rw[(hh b z).2]at G;cases G
  ·rw[Y b z]at G;cases G
theorem tL (u:Un (frs l) [] H H' h h')(ok:HOk P w H' h')(J:h'.FunFrames bs l)(O:∀ b∈hid,h.get? b=none∧H' b=none)(up:h'.UpToSlots h'') 
  (e:h''.get? T=some oT) (d:oT.data=.fields ts) (n:(less h' (hid++frs l)).get? T=none):h.get? T=none∧H' T=none:=by
 have B:T∉frs l:=fun z=>by
  obtain⟨_,o',U,B⟩:=J.mem z;obtain⟨Y,q⟩:=up T o' U B;rw[e]at q;cases q;exact B ts d
 by_cases hb:T∈hid
 ·exact O T hb
 ·have z:h'.get? T=none:=by
   cases q:h'.get? T with
   | none=>rfl
   | some o =>
    have z:(less h' (hid++frs l)).get? T=some o:=hideAll_get _ q fun z=>(Jj.mp z).elim hb B;rw[n]at z;cases z
  refine⟨?_,ok.not z⟩;cases q:h.get? T with
  | none=>rfl
  | some o =>
   obtain⟨o',G⟩:=u.there T o q (by simp);rw[z]at G;cases G
end
theorem back (u:Un fs [] H H' h h')(e:h'.get? a=none):h.get? a=none:=by
 cases q:h.get? a with
 | none=>rfl
 | some o =>
  obtain⟨o',B⟩:=u.there a o q (by simp);rw[e]at B;cases B
section
variable {P:Pg9}{w:Wd9}{mg:Mg9}{base:Heap}{N:List Str}{qual:Str}{scope:Scope}{f:Addr}{cd:Value}{outer:List Env}{s0:Sh9}{H0:Hp}{E:XK}
theorem yh {pins:Pn9}{σ:St}{H:Hp}{s:Sh9}{h':Heap}{e:Addr}{cls:Value}{args:LV9}(I:Inv (jp (CXe P w) P w K mg base N qual scope f cd A outer s0 H0 E) pins σ H s)
  (B:Heap.MadeExcOf s.heap h' e cls args) (q:E cls none H):(jp (CXe P w) P w K mg base N qual scope f cd A outer s0 H0 E).xe (.ref e) { s with heap:=h' }:=by
 have G:s.heap.FunFrames _ (jp (CXe P w) P w K mg base N qual scope f cd A outer s0 H0 E).stack:=I.stack;have O:=I.stkFree;refine Hx (base:=less s.heap ([]++frs (jp (CXe P w) P w K mg base N qual scope f cd A outer s0 H0 E).stack)) (h:=s.heap) (L:=s0.heap.objs.size) I.ok.frames rfl (q9 _ _)
  (xO G fun a ha=>hideAll_none _ (JD _ ha)) B fun h'' a0 x1 x4 =>?_
 have up:s.heap.UpToSlots h'':=(Heap.UpToSlots.of_keeps B.keeps).trans x4;obtain⟨y1,y2,y3,oe,vs,T,oT,ts,z1,z2,z3,z4,z5,z6,U,Y,z9⟩:=x1;obtain⟨u,ok⟩:=yM (H:=H) (hid:=[]) Un.refl I.hok G O (fun b z=>by cases z) y1 up;have J:=I.call' (s':={ s with heap:=h'' }) (ch:=[]) rfl u ok I.bare (fun b z=>by cases z);obtain⟨n1,n2⟩:=tL (H:=H) (hid:=[]) Un.refl I.hok G (fun b z=>by cases z) up U Y z5;exact⟨e,cls,H,rfl,J.os,J.bare,J.base,ok,⟨⟨oe,vs,_,T,oT,ts,z1,z2,z3,z4,⟨back I.base n1,n2⟩,z6,U,Y,z9⟩,back I.base B.new,I.hok.not B.new⟩,q⟩
theorem CW {pins:Pn9}{σ:St}{H:Hp}{s s':Sh9}{e:Value}(I:Inv (jp (CXe P w) P w K mg base N qual scope f cd A outer s0 H0 E) pins σ H s)
  (c:CXe P w (jp (CXe P w) P w K mg base N qual scope f cd A outer s0 H0 E).stack H s E e s'):(jp (CXe P w) P w K mg base N qual scope f cd A outer s0 H0 E).xe e s':=by
 obtain⟨G,cls,H',rfl,c1,c2,O,U,⟨⟨oe,vs,a0,T,oT,ts,f1,f2,f3,f4,f5,f6,f7,f8,f9⟩,fn,fu⟩,q⟩:=c;have J:=I.call' (s':=s') (ch:=[]) c1 O U c2 (fun b z=>by cases z);have Y:s'.heap.FunFrames _ (jp (CXe P w) P w K mg base N qual scope f cd A outer s0 H0 E).stack:=J.stack;have hh:∀ b∈[G,T],s.heap.get? b=none∧H' b=none:=fun b B=>by
  rcases Jr.mp B with rfl|B
  ·exact⟨fn,fu⟩
  ·rcases Jr.mp B with rfl|B
   ·exact f5
   ·cases B
 refine Gr (base:=less s'.heap ([G,T]++frs (jp (CXe P w) P w K mg base N qual scope f cd A outer s0 H0 E).stack)) (L:=s0.heap.objs.size) (cls:=cls) (a0:=a0) I.ok.frames rfl
  ⟨q9 _ _,hideAll_none _ (by simp),xO Y fun a ha=>hideAll_none _ (JD _ ha),oe,vs,T,oT,ts,f1,f2,f3,f4,hideAll_none _ (by simp),f6,f7,f8,f9⟩ fun h'' x1 x4 =>?_
 obtain⟨y1,y2,y3,a1,a2,T',a3,a4,z1,z2,z3,z4,z5,z6,z7,z8,z9⟩:=x1;obtain⟨u,ok⟩:=yM O U Y J.stkFree hh y1 x4;have J':=I.call' (s':={ s' with heap:=h'' }) (ch:=[]) c1 u ok c2 (fun b z=>by cases z);obtain⟨n1,n2⟩:=tL O U Y hh x4 z7 z8 z5;exact⟨G,cls,H',rfl,J'.os,J'.bare,J'.base,ok,⟨⟨a1,a2,_,T',a3,a4,z1,z2,z3,z4,⟨back I.base n1,n2⟩,z6,z7,z8,z9⟩,back I.base fn,fu⟩,q⟩
theorem FG:rO (CXe P w) (jp (CXe P w) P w K mg base N qual scope f cd A outer s0 H0 E) E:=fun _ _ _ _ _ _ I c=>CW I c
end
abbrev bmV:LV9:=[.type "ValueError",.type "Exception",.type "BaseException",.type "object"]
structure Ii (K:Frag)(mg:Mg9)(x:Str)(C:Addr):Prop where
 m:mg x=some (.ref C)
 ok:excIn K C bmV "ValueError.__new__" = true
theorem EJ {K:Frag}(X:K.In h)(q:excIn K C bmB newId=true):
  ∃ bm N nm B bs G sn sub ab col dd k0 k1 k2 k3 k5 mN,h.get? C=some (excClassObj nm B C N bs bm G sn sub ab col dd k0 k1 k2 k3 k5 newId)∧h.Ns N mN∧mN "__init__" = none∧OwnTail h bmB bm:=by
 unfold excIn at q
 split at q
 ·rename_i dct cdt slo hob
  split at q
  ·rename_i C2 bmx j0 j1 j2 j3 nw j5 hmr hsl
   simp only[Kv,beq_iff_eq,Bool.not_eq_true']at q;obtain⟨⟨⟨⟨⟨q1,q2⟩,q3⟩,U⟩,J⟩,O⟩:=q;subst q1 q2;obtain⟨nm,bs,Y,ns,B,G,sn,sub,ab,col,a0⟩:=cdt;dsimp only at hmr q3 J O;subst hmr q3;have es:slo = #[j0,j1,j2,j3,some (.builtin nw),j5]:=by
    obtain⟨l⟩:=slo;simp only at hsl;rw[hsl]
   subst es;exact⟨bmx,ns,nm,B,bs,G,sn,sub,ab,col,dct,j0,j1,j2,j3,j5,_,X _ _ hob,.of_isNs (PySem.W.isNs_of_in X J),PySem.W.nsMap_none_of_in X J O,PySem.W.tail_of_in X U⟩
  ·cases q
 ·cases q
def DU (X:Cx)(E:XK):Prop:=∀ (pins:Pn9) (σ:St) (H:Hp) (s:Sh9) (h':Heap) (e:Addr) (cls:Value) (args:LV9),Inv X pins σ H s→Heap.MadeExcOf s.heap h' e cls args→E cls none H→X.xe (.ref e) { s with heap:=h' }
theorem Eo {K:Frag}:
  DU (jp (CXe P w) P w K mg base N qual scope f cd A outer s0 H0 E) E:=fun _ _ _ _ _ _ _ _ I B q=>yh I B q
abbrev FW (te:TE)(cls:Value)(E:XK):TS:=fun _ σ H=>te σ H fun _ H1=>E cls none H1
section
theorem Ce (o:Ii X.K X.mg x C)(U:DU X E)(Y:PE X e te)(hc:X.calm=true:=by rfl)(hg:Gl X x:=by rfl)(hd:(x == ("__debug__" : Str))=false:=by decide)
  (G:starEach [e] X.env=(false,eval e X.env)::starEach [] X.env:=by rfl):PS X (.Raise (some (.Call (.Name x np) [e] [] cpos)) none pos) (FW te (.ref C) E):=by
 intro pins s σ H D I h;obtain⟨bm,N,nm,qn,bs,J,sn,sub,ab,col,dd,k0,k1,k2,k3,k5,mN,hC,hN,O,T⟩:=EJ I.mod.kin o.ok;refine wpAny_Raise_call_subT (C:=C) (nm:=nm) (q:=qn) (N:=N) (bs:=bs) (bm:=bm) (hdct:=J) (sn:=sn) (sub:=sub) (ab:=ab) (col:=col) (dd:=dd) (k0:=k0) (k1:=k1) (k2:=k2) (k3:=k3) (k5:=k5) (mN:=mN)
  F.excBase_ValueError (T.hasType F.excBase_ValueError.hasBase) (I.ok.hd hc) (by rw[G];rfl) O (vg I hg o.m ⟨rfl,?_⟩ hd)
 have ha':=aa Y af G cpos pins s σ H (fun vs H1=>vs.length=1∧E (.ref C) none H1) I (by
  refine (?_:yN te BO σ H _);exact (show te σ H _ from by
   have e1:(fun x H1=>BO σ H1 fun xs H2=>(x::xs).length=1∧E (Value.ref C) none H2)=fun (_:V) H1=>E (Value.ref C) none H1:=by
    funext x H1;simp[BO]
   rw[e1];exact h))
 rw[G]at ha' ⊢;refine Calls.evalArgs_plain (Kf ha' (fun us s2 z =>?_) fun _ _ y=>y);obtain⟨vs,H1,B,r,hl,q⟩:=z;refine⟨rfl,by rw[← r.length,hl];decide,B.bk _ _ hC,hN.keeps B.bk,T.keeps B.bk,fun h' e hm=>U pins σ H1 s2 h' e _ us B hm q⟩
end
structure IW (K:Frag)(C:Addr):Prop where
 ga:findIn K (.ref C) "__getattribute__" = some (some (.builtin "BaseException.__getattribute__"))
 gt:findIn K (.ref C) "__getattr__" = some none
 ca:findIn K (.ref C) "__class__" = some (some (.builtin "object.__class__"))
 m1:subIn K (.ref C) (.type "object")=some true
 m2:subIn K (.ref C) (.type "BaseException")=some true
 cl:(PySem.W.clsIn K C).isSome=true
def clo (env:Env)(xs:List Str):List (Str × Addr):=xs.map fun x=>(x,(env.cells.lookup x).getD 0)
def vK (env:Env)(scope:Scope)(xs caps:List Str):Prop:=∀ x∈caps,env.kindOf x=some .cell∧(relabel scope env).names.lookup x=some .cell∧x∈xs
theorem yB:vK env scope xs []:=fun _ h=>by cases h
theorem xk (h1:env.kindOf x=some .cell)(h2:(relabel scope env).names.lookup x=some .cell)(G:x∈xs)(h:vK env scope xs r):vK env scope xs (x::r):=fun y B=>by
 rcases Jr.mp B with rfl|B
 ·exact⟨h1,h2,G⟩
 ·exact h y B
theorem DJ:∀ {xs:List Str},x∈xs→env.cells.lookup x=some c→(clo env xs).lookup x=some c
 | [],h,_=>by cases h
 | y::r,h,e=>by
  unfold clo;rw[Jl,Md];by_cases z:x=y
  ·subst z;simp[e]
  ·have B:(x == y)=false:=by simpa using z
   rw[B];rcases Jr.mp h with q | q
   ·exact absurd q z
   ·exact DJ q e
theorem vD:∀ {xs:List Str},x∈xs→∃ c,(clo env xs).lookup x=some c
 | [],h=>by cases h
 | y::r,h=>by
  unfold clo;rw[Jl,Md];by_cases z:x=y
  ·subst z;exact⟨_,by simp;rfl⟩
  ·have B:(x == y)=false:=by simpa using z
   rw[B];rcases Jr.mp h with q | q
   ·exact absurd q z
   ·exact vD q
theorem Fk (B:(xs.all fun x=>(env.cells.lookup x).isSome)=true)(e:(clo env xs).lookup x=some c):env.cells.lookup x=some c:=by
 induction xs with
 | nil=>cases e
 | cons y r ih =>
  unfold clo at e;rw[Jl,Md]at e;rw[Mb,Kv]at B;by_cases z:x=y
  ·subst z;obtain⟨a,G⟩:=JG.mp B.1;rw[G]at e ⊢;simpa using e
  ·have J:(x == y)=false:=by simpa using z
   rw[J]at e;exact ih B.2 e
theorem xj {σ:St}{vs:List V}{is:List Nat}{N N' B:List Str}{k:Nat}(G:is.map (fun i=>σ[i]?)=vs.map fun v=>some (some v))(J:is.map (N[·]?)=B.map some)(O:N'.drop k=B)(U:k≤N'.length):
  (List.replicate k (none:OW9)++vs.map some).length=N'.length:=by
 have h1:=Jz List.length G;have h2:=Jz List.length J;have Y:=Jz List.length O;simp only[I0,KN,I8,Lg]at *
 lia
theorem Fm {σ:St}{vs:List V}{is:List Nat}{N N' B:List Str}{k i:Nat}{x:Str}{v:V}(O:is.map (fun i=>σ[i]?)=vs.map fun v=>some (some v))(U:is.map (N[·]?)=B.map some)(Y:N'.drop k=B)
  (e1:N'[i]? = some x) (G:(List.replicate k (none:OW9)++vs.map some)[i]? = some (some v)):∃ j:Nat,N[j]? = some x∧x∈B∧σ[j]? = some (some v):=by
 have J:k≤i:=by
  by_cases h:k≤i
  ·exact h
  ·rw[JM (by simpa using h),Lv]at G
   split at G<;>cases G
 rw[JY (by simpa using J),Lg]at G;have e1':B[i - k]? = some x:=by rw[← Y,L0,Nat.add_sub_cancel' J];exact e1
 have ev:vs[i - k]? = some v:=by
  rw[JL]at G;cases z:vs[i - k]? with
  | none=>rw[z]at G;cases G
  | some a=>rw[z]at G;cases G;rfl
 have q1:=Jz (·[i - k]?) O;have q2:=Jz (·[i - k]?) U;simp only[JL,ev,e1',Le]at q1 q2;cases z:is[i - k]? with
 | none=>rw[z]at q1;cases q1
 | some j =>
  rw[z]at q1 q2;exact⟨j,Option.some.inj q2,Jh e1',Option.some.inj q1⟩
theorem Bp {σ:St}{vs:List V}{k:Nat}(h:σ.drop k=vs.map some)(i:Nat)(v:V)(e:(List.replicate k (none:OW9)++vs.map some)[i]? = some (some v)):σ[i]? = some (some v):=by
 have B:k≤i:=by
  by_cases h:k≤i
  ·exact h
  ·rw[JM (by simpa using h),Lv]at e
   split at e<;>cases e
 rw[JY (by simpa using B),Lg,← h,L0,Nat.add_sub_cancel' B]at e;exact e
theorem GY {names:List (Str × NameKind)}{xs:List Str}(h:(names.all fun y => !(y.2 == .cell || y.2 == .free) || xs.contains y.1)=true):∀ y∈names,(y.2=.cell∨y.2=.free)→y.1∈xs:=fun y B G=>by
 have z:=Mf.mp h y B;rcases G with e | e
 ·rw[e]at z;exact List.contains_iff_mem.mp (by simpa using z)
 ·rw[e]at z;exact List.contains_iff_mem.mp (by simpa using z)
def bt (X:Cx)(N':List Str)(scope:Scope)(xs:List Str)(C:Addr)(s0:Sh9)(H0:Hp)(fp:List Addr)(pins:Pn9):Cx where
 prog:=X.prog
 w:=X.w
 K:=X.K
 mg:=X.mg
 base:=X.base
 A:=X.A
 N:=N'
 s₀:=s0
 H₀:=H0
 env:=compEnvC scope (clo X.env xs) C X.env
 outer:=X.stack
 stack:=X.stack
 ex:=fp
 fn:=fun _=>false
 calm:=X.calm
 pn:=X.pn++pins
 xe:=fun _ _=>False
def ma (σ0:St)(k:Nat)(cs:St)(g:TG)(te:TE)(Q:VK):It→Hp→Prop:=fun J H1=>∀ D,H1 D=none→∃ W:Nat→Nat→List V→Hp→Prop,(∃ m,W 0 m [] (upd H1 D (.lst []))) ∧
 ∀ i m ys H2,W i m ys H2→H2 D=some (.lst ys)∧((J.stop i H2∧Q (.ref D) H2)∨(J.go i H2∧ys.length < sizeLine ∧
  ∀ x H',J.yld i H2 x H'→g x σ0 H' fun σ2 H3=>σ2.drop k=cs∧te σ2 H3 fun y H4=>H4 D=some (.lst ys)∧∃ m',m' < m∧W (i + 1) m' (ys++[y]) (upd H4 D (.lst (ys++[y])))))
def xB (is:List Nat)(k:Nat)(wi:TI)(g:TG)(te:TE):TE:=fun σ H Q=>∃ vs:List V,is.map (fun i=>σ[i]?)=vs.map (fun v=>some (some v))∧wi σ H (ma (List.replicate k none++vs.map some) k (vs.map some) g te Q)
def ni (σ0:St)(k:Nat)(cs:St)(g:TG)(tt:TT)(te:TE)(Q:VK):It→Hp→Prop:=fun J H1=>∀ D,H1 D=none→∃ W:Nat→Nat→List V→Hp→Prop,(∃ m,W 0 m [] (upd H1 D (.lst []))) ∧
 ∀ i m ys H2,W i m ys H2→H2 D=some (.lst ys)∧((J.stop i H2∧Q (.ref D) H2)∨(J.go i H2∧ys.length < sizeLine ∧
  ∀ x H',J.yld i H2 x H'→g x σ0 H' fun σ2 H3=>σ2.drop k=cs∧tt σ2 H3 fun b H4=>if b=true then te σ2 H4 fun y H5=>H5 D=some (.lst ys)∧∃ m',m' < m∧W (i + 1) m' (ys++[y]) (upd H5 D (.lst (ys++[y])))
   else ∃ m',m' < m∧W (i + 1) m' ys H4))
def i6 (is:List Nat)(k:Nat)(wi:TI)(g:TG)(tt:TT)(te:TE):TE:=fun σ H Q=>∃ vs:List V,is.map (fun i=>σ[i]?)=vs.map (fun v=>some (some v))∧wi σ H (ni (List.replicate k none++vs.map some) k (vs.map some) g tt te Q)
def PTs (X:Cx)(ifs:List Expr)(tt:TT):Prop:=∀ (pins:Pn9) (s:Sh9) (σ:St) (H:Hp) (Q:Bool→Hp→Prop),Inv X pins σ H s→tt σ H Q→wpAny (model X.prog X.w) X.A (BK ifs X.env) (fun ok s'=>∃ H',Inv X pins σ H' s'∧Q ok H') X.xe s
def FU:TT:=fun _ H Q=>Q true H
theorem zd (h:PT X c tt):PTs X [c] tt:=fun pins s σ H Q I q=>wpAny_tests_one (h pins s σ H Q I q)
theorem Ew:PTs X [] FU:=fun _ _ _ H _ I q=>wpAny_tests_nil ⟨H,I,q⟩
theorem Bm (is:List Nat)(k:Nat)(wi:TI)(g:TG)(te:TE):xB is k wi g te=i6 is k wi g FU te:=by
 unfold xB i6 ma ni FU;simp only[if_true]
structure oz (X:Cx)(N':List Str)(scope:Scope)(xs caps:List Str)(is:List Nat)(k:Nat):Prop where
 hclos:closureFor scope X.env=pure (clo X.env xs):=by with_unfolding_all rfl
 hin:(xs.all fun x=>(X.env.cells.lookup x).isSome)=true:=by rfl
 hcap:vK X.env scope xs caps:=by repeat (first | exact yB | refine xk rfl rfl (by decide) ?_)
 his:is.map (X.N[·]?)=caps.map some:=by rfl
 hN:N'.drop k=caps:=by rfl
 hk:k≤N'.length:=by decide
 hallB:((relabel scope X.env).names.all fun y => !(y.2 == .cell || y.2 == .free) || xs.contains y.1)=true:=by rfl
 hcell:∀ y∈scope.names,y.2≠.cell:=by decide +kernel
 hkind:scope.kind=.function:=by rfl
 hnames:∀ y∈scope.names,y.2=.local→scope.names.lookup y.1=some .local:=by decide +kernel
 hcalm:X.calm=true:=by rfl
section
variable {elt tg iter cnd:Expr}{ifs:List Expr}{scope:Scope}{N':List Str}{wi:TI}{g:TG}{te:TE}{tt:TT}
theorem tN {pos':Pos}{use:Option (Value→Sem Unit)}{Qf:EV9}{R:VK}{pins:Pn9}{s:Sh9}{σ:St}{H:Hp}(xs c9:List Str)(is:List Nat)(k:Nat)(ok:oz X N' scope xs c9 is k)(hi:PI X tg iter wi)(hg:∀ C s0 H0 fp pins,PG (bt X N' scope xs C s0 H0 fp pins) tg g)(ht:∀ C s0 H0 fp pins,PTs (bt X N' scope xs C s0 H0 fp pins) ifs tt)(he:∀ C s0 H0 fp pins,PE (bt X N' scope xs C s0 H0 fp pins) elt te)
  (hs:∀ x,foldedSetIterable iter X.env x=pure x) (I:Inv X pins σ H s) (h:i6 is k wi g tt te σ H R)
  (d0:∀ (d C:Addr) (H':Hp) (s':Sh9),Inv X pins σ H' s'→∀ m,s'.heap.Ns C m→H' C=none→C≠X.env.locals→X.s₀.heap.objs.size≤C→(∀ x c,X.env.cells.lookup x=some c→c≠C)→(∀ p∈X.pn++pins,p.1≠C)→R (.ref d) H'→compPost (model X.prog X.w) X.A X.xe use Qf (.ref d) C (.ok .next) s') :
  wpAny (model X.prog X.w) X.A (comprehension (.ListComp elt [⟨tg,iter,ifs,0⟩] scope pos) scope X.env pos' (newList []) false (eval iter X.env) use) Qf X.xe s:=by
 obtain⟨b8,e4,d1,b9,hN,hk,c0,c1,a6,b3,a9⟩:=ok;have b5:=GY c0;obtain⟨vs,c2,h⟩:=h;refine wpAny_comprehension_free rfl hs b8 a6 b3 (thn (hi pins s σ H _ I h) fun v s1 h1=>thn h1 fun g1 O h2 =>?_);obtain⟨it,fp,tn,J,H2,e,U,T,c3,f2,hW⟩:=h2;subst e;refine wpAny_newObj_type (wpAny_newFunctionEnv c1 (by intro y hy;simp at hy) (fun h₁ b0 a8 =>?_) a6);dsimp only at b0 a8 ⊢;generalize c4:O.heap.push { cls:=.type "list",dict:=none,data:=.seq ([]:LV9).toArray }=Y at b0 a8 ⊢
 have hC:Y.objs.size=O.heap.objs.size + 1:=by rw[← c4,Heap.size_push]
 have G:∀ b,b < O.heap.objs.size→b≠Y.objs.size∧b≠O.heap.objs.size:=fun b B=>⟨by rw[hC];exact JJ (L8 B),JJ B⟩;have d2:O.heap.objs.size≠Y.objs.size:=by rw[hC];exact JJ (LK _)
 have a7:∀ b o,O.heap.get? b=some o→h₁.get? b=some o:=fun b o e=>a8.extBut b o (G b (Jo e)).1 (IY _ (c4▸IY _ e));have hD:h₁.get? O.heap.objs.size=some { cls:=.type "list",dict:=none,data:=.seq ([]:LV9).toArray }:=a8.extBut _ _ d2 (IY _ (c4▸Ju _ rfl))
 have d3:H2 O.heap.objs.size=none:=U.hok.fresh (I_ _);have e5:H2 Y.objs.size=none:=U.hok.fresh (by rw[hC];exact Nat.le_succ _);have c5:∀ b∈fp,b < O.heap.objs.size:=fun b B=>by
  obtain⟨o,e,_⟩:=T.obj _ _ c3 b B;exact Jo e
 have c6:∀ b,b≠X.env.locals→b∉X.fs→b∉frs X.stack:=fun b n1 n2 z=>by
  rcases Jr.mp (U.stkSub b z) with e|e
  ·exact n1 e
  ·exact n2 e
 obtain⟨W,⟨m0,w0⟩,turn⟩:=hW O.heap.objs.size d3;have a0:∀ (x:Str) (c:Addr),(clo X.env xs).lookup x=some c→X.env.cells.lookup x=some c:=fun x c e=>Fk e4 e;have b6:∀ (x:Str) (c:Addr),(clo X.env xs).lookup x=some c→∃ v,O.heap.IsCell c v:=fun x c e=>U.cell x c (a0 x c e);have e6:∀ (x:Str) (c:Addr),(clo X.env xs).lookup x=some c→c < O.heap.objs.size:=fun x c e=>by
  obtain⟨v,o,ho,_⟩:=b6 x c e;exact Jo ho
 have ok':(bt X N' scope xs Y.objs.size O H2 fp pins).Ok:=by
  refine⟨U.ok.mod,a6,U.ok.glob,U.ok.blt,?_,fun x y c e e'=>U.ok.inj x y c (a0 x c e) (a0 y c e'),fun x hx =>?_,(fun x c z _=>by cases z),U.ok.hd,U.ok.frames,.inl rfl,fun b B=>⟨(G b (c5 b B)).1,fun x c e=>(f2 b B).2.2.2.2.1 x c (a0 x c e)⟩,U.bs,JA U.ok.bsz U.sz,fun b o e B =>?_,fun b B=>c6 b (f2 b B).2.1 (f2 b B).2.2.1,U.stack,U.stkFree⟩
  ·show O.heap.objs.size≤Y.objs.size;rw[hC];exact Nat.le_succ _
  ·have hx':(relabel scope X.env).names.lookup x=some .cell∨(relabel scope X.env).names.lookup x=some .free:=hx;rcases hx' with z | z
   ·exact vD (b5 _ (PySem.mem_of_lookup z) (.inl rfl))
   ·exact vD (b5 _ (PySem.mem_of_lookup z) (.inr rfl))
  ·rcases (f2 b B).2.2.2.1 with z|z
   ·exact U.ok.noex b o e z
   ·exact absurd (Jt (Jo (U.ok.bs b o e).1) z) (KO _)
 have I':Inv (bt X N' scope xs Y.objs.size O H2 fp pins) [] (List.replicate k none++vs.map some) (upd H2 O.heap.objs.size (.lst [])) { O with heap:=h₁,toks:=O.toks + ([]:List (Str × Value)).length }:=by
  refine⟨ok',rfl,U.bare,Un.laid a7 (I_ _) d3,⟨_,b0,fun i x v e1 e2 e3 =>?_⟩,fun x c e =>?_,?_,fun x c e =>?_,fun p hp =>?_,U.hok.laid a7 (I_ _) ⟨by simp,[],0,.nil,hD⟩,?_⟩
  ·obtain⟨j,ej,e7,e9⟩:=Fm c2 b9 hN e1 e2;obtain⟨d4,f0,f1⟩:=d1 x e7;obtain⟨m,hn,hl⟩:=U.loc;obtain⟨u,r,l⟩:=hl j x v ej e9 (.inr (.inl d4));refine⟨u,r,.inr ⟨.inl f0,?_⟩⟩;rcases l with⟨z,_⟩|⟨_,c,ec,⟨o,ho,hd⟩⟩
   ·rw[show X.env.kindOf x=some .cell from d4]at z;cases z
   ·exact⟨c,DJ f1 ec,o,a7 _ _ ho,hd⟩
  ·obtain⟨v,o,ho,hd⟩:=b6 x c e;exact⟨v,o,a7 _ _ ho,hd⟩
  ·show upd H2 O.heap.objs.size (.lst []) Y.objs.size=none;rw[aG (Ne.symm d2)];exact e5
  ·show upd H2 O.heap.objs.size (.lst []) c=none;rw[aG (G _ (e6 x c e)).2];exact U.freeC x c (a0 x c e)
  ·have hp':p∈X.pn++pins:=by
    rcases Jj.mp hp with z|z
    ·exact z
    ·cases z
   obtain⟨a1,a2,a3,a4,a5⟩:=U.pin p hp';refine⟨a7 _ _ a1,?_,(G _ (Jo a1)).1,c6 _ a3 a4,a5⟩;rw[aG (G _ (Jo a1)).2];exact a2
  ·show (List.replicate k none++vs.map some).length=N'.length;exact xj c2 b9 hN hk
 have b1:∀ {H':Hp},(∀ b∈fp,H' b=none)→∀ b∈fp,vJ (bt X N' scope xs Y.objs.size O H2 fp pins) [] H' b:=fun {H'} hn b B =>
  ⟨hn b B,(G b (c5 b B)).1,c6 b (f2 b B).2.1 (f2 b B).2.2.1,.inl B,fun x c e=>(f2 b B).2.2.2.2.1 x c (a0 x c e),fun p hp=>(f2 b B).2.2.2.2.2 p (by
   rcases Jj.mp hp with z|z
   ·exact z
   ·cases z)⟩
 have fin:∀ (ys:List V) (σ':St) (H':Hp) (s':Sh9),Inv (bt X N' scope xs Y.objs.size O H2 fp pins) [] σ' H' s'→R (.ref O.heap.objs.size) H'→compPost (model X.prog X.w) X.A X.xe use Qf (.ref O.heap.objs.size) Y.objs.size (.ok .next) s':=by
  intro ys σ' H' s' J1 q;obtain⟨m,hm,_⟩:=id J1.loc;have J2:Inv X pins σ H' s':=U.call' (s':=s') (ch:=fp) J1.os ⟨J1.base.keep,J1.base.slot,J1.base.free,J1.base.there,J1.base.tups,J1.base.frzs,J1.base.tbls⟩ J1.hok J1.bare fun b B=>⟨(f2 b B).2.2.2.1,(f2 b B).2.1,(f2 b B).2.2.2.2.1,(f2 b B).2.2.2.2.2⟩;have f3:X.s₀.heap.objs.size≤Y.objs.size:=JA U.sz (by rw[hC];exact Nat.le_succ _);have f4:Y.objs.size≠X.env.locals:=Ne.symm (G _ U.lt).1;have f5:∀ x c,X.env.cells.lookup x=some c→c≠Y.objs.size:=fun x c e=>by
   obtain⟨v,o,ho,_⟩:=U.cell x c e;exact (G _ (Jo ho)).1
  have f6:∀ p∈X.pn++pins,p.1≠Y.objs.size:=fun p hp=>(G _ (Jo (U.pin p hp).1)).1;exact d0 _ _ H' s' J2 m hm J1.free f4 f3 f5 f6 q
 have b7:codeAny (model X.prog X.w) X.A (.compLoop (.ListComp elt [⟨tg,iter,ifs,0⟩] scope pos) 0 (.ref it) (.ref O.heap.objs.size) (compEnvC scope (clo X.env xs) Y.objs.size X.env))
   (compPost (model X.prog X.w) X.A X.xe use Qf (.ref O.heap.objs.size) Y.objs.size)
   { O with heap:=h₁,toks:=O.toks + ([]:List (Str × Value)).length }:=by
  refine wZ (fun n s'=>∃ i ys σ' H',σ'.drop k=vs.map some∧Inv (bt X N' scope xs Y.objs.size O H2 fp pins) [] σ' H' s'∧tn i s'.heap∧(∀ b∈fp,H' b=none)∧W i n ys H') ?_ m0
   ⟨0,[],List.replicate k none++vs.map some,_,by simp,I',T.keep _ _ _ c3 (fun b B o e=>a7 b o e),fun b B=>by rw[aG (G b (c5 b B)).2];exact (f2 b B).1,w0⟩
  rintro n s3 ⟨i,ys,σ3,H3,f7,J3,d5,d6,w3⟩;obtain⟨hl,q3⟩:=turn i n ys H3 w3;rcases q3 with⟨d7,q⟩ | ⟨go,f8,step⟩
  ·refine thn (T.done (bt X N' scope xs Y.objs.size O H2 fp pins) rfl rfl rfl a9 i [] s3 σ3 H3 _ J3 (b1 d6) d5 d7) fun r s4 ⟨hr,J4⟩ =>?_;subst hr;exact fin ys σ3 H3 s4 J4 q
  ·refine thn (T.item (bt X N' scope xs Y.objs.size O H2 fp pins) rfl rfl rfl a9 i [] s3 σ3 H3 _ J3 (b1 d6) d5 go) fun r s4 ⟨u,hr,h4⟩ =>?_;subst hr;refine thn h4 fun _ s5 ⟨x,H5,J5,r5,y5,b2,f9⟩ =>?_;have J5':=J5.pinned (b1 f9) (T.obj _ _ b2);have J6:Inv (bt X N' scope xs Y.objs.size O H2 fp pins) ([]++qM fp s5.heap) (List.replicate k none++vs.map some) H5 s5:=J5'.weak (by rw[J5'.len];exact xj c2 b9 hN hk) (Bp f7);refine Kf (hg _ _ _ _ _ _ s5 _ H5 x u _ J6 r5 (step x H5 y5)) (fun _ s6 ⟨σ6,H6,J7,d8,q6⟩ =>?_) fun _ _ z=>False.elim z;refine Kf (ht _ _ _ _ _ _ s6 σ6 H6 _ J7 q6) (fun ok d9 ⟨e0,c7,b4⟩ =>?_) fun _ _ z=>False.elim z;cases ok with
   | false =>
    rw[if_neg (by decide)];rw[if_neg (by decide)]at b4;obtain⟨m',c8,w7⟩:=b4;have pk:∀ b∈fp,∀ o,s5.heap.get? b=some o→d9.heap.get? b=some o∧e0 b=none:=fun b B o e =>
     let z:=c7.pin (b,o) (JD _ (JD _ (jn B e)))
     ⟨z.1,z.2.1⟩
    refine⟨m',c8,i + 1,ys,σ6,_,d8,c7.unpinned,T.keep _ _ _ b2 fun b B o e=>(pk b B o e).1,fun b B =>?_,w7⟩;obtain⟨o,e,_⟩:=T.obj _ _ b2 b B;exact (pk b B o e).2
   | true =>
    rw[if_pos rfl];rw[if_pos rfl]at b4;refine Kf (he _ _ _ _ _ _ d9 σ6 e0 _ c7 b4) (fun yv s7 ⟨y,H7,J8,r7,q7⟩ =>?_) fun _ _ z=>False.elim z;obtain⟨g0,m',c8,w7⟩:=q7;refine Kf (tz (X:=bt X N' scope xs Y.objs.size O H2 fp pins) _ s7 σ6 H7 (.ref O.heap.objs.size) [y] (.ref O.heap.objs.size) [yv] (fun v H8=>H8=upd H7 O.heap.objs.size (.lst (ys++[y]))) J8 rfl (.cons r7 .nil) ⟨_,ys,y,rfl,rfl,g0,f8,rfl⟩) (fun _ s8 ⟨v8,H8,J9,r8,e8⟩ =>?_) fun _ _ z=>False.elim z;subst e8;have pk:∀ b∈fp,∀ o,s5.heap.get? b=some o→s8.heap.get? b=some o∧upd H7 O.heap.objs.size (.lst (ys++[y])) b=none:=fun b B o e =>
     let z:=J9.pin (b,o) (JD _ (JD _ (jn B e)))
     ⟨z.1,z.2.1⟩
    refine⟨m',c8,i + 1,ys++[y],σ6,_,d8,J9.unpinned,T.keep _ _ _ b2 fun b B o e=>(pk b B o e).1,fun b B =>?_,w7⟩;obtain⟨o,e,_⟩:=T.obj _ _ b2 b B;exact (pk b B o e).2
 exact codeAny_compStart_list b7 (T.self X.A 0 { O with heap:=h₁,toks:=O.toks + ([]:List (Str × Value)).length } _ _ (T.keep _ _ _ c3 fun b B o e=>a7 b o e) b7)
theorem wk (xs B:List Str)(is:List Nat)(k:Nat)(ok:oz X N' scope xs B is k)(hi:PI X tg iter wi)(G:∀ C s0 H0 fp pins,PG (bt X N' scope xs C s0 H0 fp pins) tg g)(O:∀ C s0 H0 fp pins,PTs (bt X N' scope xs C s0 H0 fp pins) ifs tt)(U:∀ C s0 H0 fp pins,PE (bt X N' scope xs C s0 H0 fp pins) elt te)
  (Y:∀ x,foldedSetIterable iter X.env x=pure x:=by intro _;rfl):PE X (.ListComp elt [⟨tg,iter,ifs,0⟩] scope pos) (i6 is k wi g tt te):=by
 intro pins s σ H Q I h;rw[eval_ListComp];exact tN (use:=none) (Qf:=EP X pins σ Q) xs B is k ok hi G O U Y I h fun d C H' s' J m hm f nL s0 nC nP q=>⟨m,hm,fun h' sb=>⟨.ref d,H',J.turned (t':=s'.toks) (fun b o hb e=>(sb.2 b hb).trans e) f nL (.inr s0) nC nP,rfl,q⟩⟩
theorem iM (xs B:List Str)(is:List Nat)(k:Nat)(ok:oz X N' scope xs B is k)(hi:PI X tg iter wi)(G:∀ C s0 H0 fp pins,PG (bt X N' scope xs C s0 H0 fp pins) tg g)(J:∀ C s0 H0 fp pins,PE (bt X N' scope xs C s0 H0 fp pins) elt te)
  (O:∀ x,foldedSetIterable iter X.env x=pure x:=by intro _;rfl):PE X (.ListComp elt [⟨tg,iter,[],0⟩] scope pos) (xB is k wi g te):=by
 rw[Bm];exact wk xs B is k ok hi G (fun _ _ _ _ _=>Ew) J O
theorem s_ (xs B:List Str)(is:List Nat)(k:Nat)(ok:oz X N' scope xs B is k)(hi:PI X tg iter wi)(G:∀ C s0 H0 fp pins,PG (bt X N' scope xs C s0 H0 fp pins) tg g)(J:∀ C s0 H0 fp pins,PT (bt X N' scope xs C s0 H0 fp pins) cnd tt)(O:∀ C s0 H0 fp pins,PE (bt X N' scope xs C s0 H0 fp pins) elt te)
  (U:∀ x,foldedSetIterable iter X.env x=pure x:=by intro _;rfl):PE X (.ListComp elt [⟨tg,iter,[cnd],0⟩] scope pos) (i6 is k wi g tt te) :=
 wk xs B is k ok hi G (fun C s0 H0 fp pins=>zd (J C s0 H0 fp pins)) O U
end
def Ite (K:Frag)(l:Addr):It :=
 ⟨fun i H=>∃ xs x,SqL K H l xs∧xs[i]? = some x,
  fun i H v H'=>∃ p x,H p=none∧v=.ref p∧H'=upd H p (.tup [.int (i:Int),x])∧∀ xs,SqL K H l xs→xs[i]? = some x,
  fun i H=>∃ xs,SqL K H l xs∧xs.length≤i⟩
theorem Ai {K:Frag}(U:e≠it)(a4:l≠e)(a5:l≠it):
  yG P w K (.Tuple elts kk tp) (Ite K l) [e,it] e (fun i h=>(∃ G,IsEnum h e it (i:Int) G)∧h.IsListIter it l i) where
 mem:=by simp
 obj:=fun i h st b B=>by
  obtain⟨⟨G,J⟩,⟨o,ho,hc,hd⟩⟩:=st;simp only[Jr,Lk,or_false]at B;rcases B with rfl|rfl
  ·exact⟨_,J,fun v q=>by cases q⟩
  ·exact⟨o,ho,fun v q=>by rw[hd]at q;cases q⟩
 keep:=fun i h h' st k=>by
  obtain⟨⟨G,J⟩,⟨o,ho,r⟩⟩:=st;exact⟨⟨G,k _ (by simp) _ J⟩,⟨o,k _ (by simp) _ ho,r⟩⟩
 item:=by
  intro X hP hw hK hc i pins s σ H E I Y st hg;subst hP hw hK;obtain⟨⟨G,J⟩,O⟩:=st;obtain⟨xs,x,q1,hx⟩:=hg;obtain⟨us,r1,pl,_⟩:=I.list q1;obtain⟨x',a0,rx⟩:=r1.get hx;have hn:H s.heap.objs.size=none:=I.hok.fresh (I_ _);refine wpAny_pyNext_enum_item J O pl.isList (x:=x') (by simpa using a0) U fun g z' j1 a1 sz kp=>⟨_,rfl,?_⟩;have lt:∀ {b:Addr} {o:Obj},s.heap.get? b=some o→s.heap.objs.size≠b:=fun e=>KU (Jo e);refine wpAny_letOwnedTupleGo_enum z' fun g' a2 sb =>?_;have I1:Inv X pins σ (upd H s.heap.objs.size (.tup [.int (i:Int),x])) { s with heap:=s.heap.push { cls:=.type "tuple",data:=.seq #[.int i s.toks,x'] } } :=
   I.laid (t':=s.toks) (fun b u e=>IY _ e) (I_ _) ⟨(by show 2≤sizeLine;decide),[.int i s.toks,x'],.cons ⟨_,rfl⟩ (.cons rx .nil),⟨_,Ju _ rfl,rfl,_,rfl⟩⟩
  obtain⟨oi,a3,_⟩:=id O;have fp':∀ b∈[e,it],s.heap.objs.size≠b∧upd H s.heap.objs.size (.tup [.int (i:Int),x]) b=none:=fun b B=>by
   have q:s.heap.objs.size≠b:=by
    simp only[Jr,Lk,or_false]at B;rcases B with rfl | rfl
    ·exact lt J
    ·exact lt a3
   exact⟨q,by rw[aG (Ne.symm q)];exact (Y b B).1⟩
  have I2:Inv X pins σ (upd H s.heap.objs.size (.tup [.int (i:Int),x])) { s with heap:=g',toks:=s.toks + 1 }:=by
   refine Inv.turnedL (s:={ s with heap:=s.heap.push { cls:=.type "tuple",data:=.seq #[.int i s.toks,x'] } }) (h':=g') (t':=s.toks + 1) (L:=[e,it]) I1 (fun b o B q =>?_) fun b B =>?_
   ·have b1:b≠e:=fun z=>B (by simp[z]);have b2:b≠it:=fun z=>B (by simp[z]);rcases Heap.get?_push_cases q with⟨e1,e2⟩ | e1
    ·subst e1 e2;exact sb.extBut _ _ b1 a1
    ·exact sb.extBut _ _ b1 (kp b o b1 b2 e1)
   ·obtain⟨f0,f1,f2,f3,f4,f5⟩:=Y b B;exact⟨(fp' b B).2,f1,f2,f3,f4,f5⟩
  refine⟨.ref s.heap.objs.size,_,I2,rfl,⟨_,x,hn,rfl,rfl,fun zs hq =>?_⟩,⟨⟨_,by exact_mod_cast a2⟩,j1.extBut sb.extBut (Ne.symm U)⟩,fun b B=>(fp' b B).2⟩;rw[I.list_inj hq q1];exact hx
 done:=by
  intro X hP hw hK hc i pins s σ H E I Y st hg;subst hP hw hK;obtain⟨⟨G,J⟩,O⟩:=st;obtain⟨xs,q1,a6⟩:=hg;obtain⟨us,r1,pl,_⟩:=I.list q1;have e1:=r1.length;refine wpAny_pyNext_enum_end (I.ok.hd hc) J O pl.isList (by simp;lia) fun g kp=>⟨rfl,I.turnedL (t':=s.toks) (L:=[e,it]) (fun b o B q=>kp b o (fun z=>B (by simp[z])) q) fun b B=>Y b B⟩
 self:=fun _ _ _ _ _ st h=>let ⟨⟨_,J⟩,_⟩:=st;wpAny_pyIter_enum J h
section
abbrev HR (K:Frag)(ta:TA):TI:=fun σ H R=>ta σ H fun vs H1=>∃ l,vs=[.ref l]∧(∃ xs,SqL K H1 l xs)∧R (Ite K l) H1
theorem Fp:bootBuiltins "enumerate" = some (.type "enumerate"):=by decide +kernel
theorem uJ (hg:Gl X "enumerate")(hm:X.mg "enumerate" = none)(ha:PA X [a] ta)
  (hs:starEach [a] X.env=(false,eval a X.env)::starEach [] X.env:=by rfl) (O:(backTo pos (starEach [] X.env)).any (·.1)=false:=by rfl) :
  PI X (.Tuple elts kk tp) (.Call (.Name "enumerate" p) [a] [] pos) (HR X.K ta):=by
 intro pins s σ H R I h;refine Call_ (l_ I hg hm Fp (PyProof.Rows.callWith_type1 (thn (ha pos pins s σ H _ I h) fun us B ⟨vs,H1,J,r1,q1⟩ =>?_) hs O));obtain⟨l,e,⟨xs,q1⟩,q⟩:=q1;subst e;obtain⟨u,rfl,ru⟩:=jx r1;cases ru;obtain⟨its,r,Y,_⟩:=J.list q1;have G:l < B.heap.objs.size:=by obtain⟨_,e,_⟩:=Y.isList;exact Jo e
 refine call_enumerate_list Y.isList fun g he U sz kp=>wpAny_pyIter_enum he ?_;refine⟨_,[B.heap.objs.size + 1,B.heap.objs.size],_,_,H1,rfl,J.kept (t':=B.toks) kp,Ai (l:=l) (Nat.succ_ne_self _) (JJ (L8 G)) (JJ G),⟨⟨_,he⟩,U⟩,fun b hb =>?_,q⟩;have hb':B.heap.objs.size≤b:=by
  simp only[Jr,Lk,or_false]at hb;rcases hb with h | h
  ·rw[h];exact LL _ _
  ·rw[h];exact I_ _
 exact J.fpOk hb' (J.hok.fresh hb')
end
theorem Dc {K:Frag}{l:Addr}{xs:List V}{g:TG}{tb:TS}{D:sF}{σ:St}{H:Hp}(Pv:NS9)(J:Pv 0 σ H)(O:∀ i σ H,Pv i σ H→SqL K H l xs)
  (U:∀ i x p σ H,xs[i]? = some x→Pv i σ H→H p=none→g (.ref p) σ (upd H p (.tup [.int (i:Int),x])) fun B H2=>tb { D with nx:=Pv (i + 1),ct:=Pv (i + 1),bk:=D.nx } B H2) (Y:∀ σ H,Pv xs.length σ H→D.nx σ H) :
  ∃ W:Nat→NS9,(∃ m,W 0 m σ H)∧∀ i m σ H,W i m σ H →
   ((Ite K l).stop i H∧D.nx σ H)∨((Ite K l).go i H∧∃ N:SP9,(∀ G H',N G H'→∃ m',m' < m∧W (i + 1) m' G H')∧∀ x H',(Ite K l).yld i H x H'→g x σ H' fun B H2=>tb { D with nx:=N,ct:=N,bk:=D.nx } B H2):=by
 refine⟨fun i m σ H=>m=xs.length - i∧i≤xs.length∧Pv i σ H,⟨_,rfl,Je _,J⟩,?_⟩;rintro i m σ H ⟨rfl,hi,p⟩;have q:=O i σ H p;by_cases hlt:i < xs.length
 ·refine .inr ⟨⟨xs,xs[i],q,by simp[hlt]⟩,Pv (i + 1),fun G H' p'=>⟨_,by omega,rfl,hlt,p'⟩,fun v H' y =>?_⟩;obtain⟨a,x,hn,rfl,rfl,hx⟩:=y;exact U i x a σ H (hx xs q) p hn
 ·have e:i=xs.length:=by lia
  subst e;exact .inl ⟨⟨xs,q,I_ _⟩,Y σ H p⟩
mutual
inductive Dat (H:Hp):V→PyData→Prop
 | non:Dat H .non .none
 | bl (b:Bool):Dat H (.bl b) (.bool b)
 | int (i:Int):Dat H (.int i) (.int i)
 | str (x:Str):Dat H (.str x) (.str x)
 | lst {a:Addr} {xs:List V} {ds:List PyData}:H a=some (.lst xs)→Dats H xs ds→Dat H (.ref a) (.list ds)
 | tup {a:Addr} {xs:List V} {ds:List PyData}:H a=some (.tup xs)→Dats H xs ds→Dat H (.ref a) (.tuple ds)
inductive Dats (H:Hp):List V→List PyData→Prop
 | nil:Dats H [] []
 | cons {x:V} {xs:List V} {d:PyData} {ds:List PyData}:Dat H x d→Dats H xs ds→Dats H (x::xs) (d::ds)
end
section
variable {P:Pg9}{w:Wd9}{H:Hp}{h:Heap}
mutual
theorem Dat.reads (ok:HOk P w H h):∀ {x:V} {d:PyData} {u:Value},Dat H x d→bz x u→∃ as,Reads h u d as
 | _,_,u,.non,r=>by cases (show u=Value.none from r);exact⟨_,.none⟩
 | _,_,u,.bl b,r=>by cases (show u=Value.bool b from r);exact⟨_,.bool b⟩
 | _,_,u,.int i,r=>by obtain⟨t,rfl⟩:=r;exact⟨_,.int i t⟩
 | _,_,u,.str x,r=>by obtain⟨t,rfl⟩:=r;exact⟨_,.str x t⟩
 | _,_,u,.lst (a:=a) e q,r=>by
  cases (show u=Value.ref a from r);obtain⟨_,its,n,B,g⟩:=ok a _ e;obtain⟨as,G⟩:=Dats.reads ok q B;exact⟨_,.list g rfl rfl G⟩
 | _,_,u,.tup (a:=a) e q,r=>by
  cases (show u=Value.ref a from r);obtain⟨_,its,B,o,g,c,n,dd⟩:=ok a _ e;obtain⟨as,G⟩:=Dats.reads ok q B;exact⟨_,.tuple g c dd G⟩
theorem Dats.reads (ok:HOk P w H h):∀ {xs:List V} {ds:List PyData} {us:LV9},Dats H xs ds→br xs us→∃ as,ReadsAll h us ds as
 | _,_,_,.nil,.nil=>⟨_,.nil⟩
 | _,_,_,.cons p q,.cons r s=>by
  obtain⟨as,x⟩:=Dat.reads ok p r;obtain⟨bs,y⟩:=Dats.reads ok q s;exact⟨_,.cons x y⟩
end
end
def Ho (neg:Bool):R2:=fun x y H Q=>∃ d1 d2,Dat H x d1∧Dat H y d2∧SeqAt.shaped d1=true∧SeqAt.shaped d2=true∧Q (.bl (if neg then !PyData.eqv d1 d2 else PyData.eqv d1 d2)) H
section
variable {X:Cx}
theorem qR (B:dP k X.A):OpR X (compareOp .Eq) (Ho false):=by
 intro pins s σ H x y v u Q I G J h;obtain⟨d1,d2,p,q,O,U,h⟩:=h;obtain⟨as,Y⟩:=p.reads I.hok G;obtain⟨bs,r2⟩:=q.reads I.hok J;exact eq_dataH Y r2 O U B.units ⟨.bl _,H,I,rfl,h⟩
theorem uN (B:dP k X.A):OpR X (compareOp .NotEq) (Ho true):=by
 intro pins s σ H x y v u Q I G J h;obtain⟨d1,d2,p,q,O,U,h⟩:=h;obtain⟨as,Y⟩:=p.reads I.hok G;obtain⟨bs,r2⟩:=q.reads I.hok J;exact ne_dataH Y r2 O U B.units ⟨.bl _,H,I,rfl,h⟩
end
section
theorem mQ (B:X.K=K:=by rfl):IxR X (Hm K):=B▸bK
theorem kO (B:X.K=K:=by rfl):IxR X (Hl K):=B▸aD
end
section
variable {σ0 cs:St}{k:Nat}{g:TG}{te:TE}{tt:TT}{H1:Hp}{Q:VK}
theorem xf (n:Nat)(gv:Nat→V→Prop)(Pv:Addr→Nat→List V→Hp→Prop)(hn:n≤sizeLine)
  (O:∀ D i ys H,i < n→Pv D i ys H→J.go i H) (U:∀ D ys H,Pv D n ys H→J.stop n H) (hy:∀ D i ys H x H',i < n→Pv D i ys H→J.yld i H x H'→H'=H∧gv i x)
  (hl:∀ D i ys H,Pv D i ys H→H D=some (.lst ys)∧ys.length≤i) (h0:∀ D,H1 D=none→Pv D 0 [] (upd H1 D (.lst [])))
  (hs:∀ D i x ys H,i < n→gv i x→H1 D=none→Pv D i ys H→g x σ0 H fun Y H3=>Y.drop k=cs∧te Y H3 fun y H4=>H4 D=some (.lst ys)∧Pv D (i + 1) (ys++[y]) (upd H4 D (.lst (ys++[y]))))
  (hd:∀ D ys H,H1 D=none→Pv D n ys H→Q (.ref D) H) (mono:∀ x σ H (R G:SP9),(∀ σ' H',R σ' H'→G σ' H')→g x σ H R→g x σ H G)
  (B:∀ σ H (R G:VK),(∀ v H',R v H'→G v H')→te σ H R→te σ H G):ma σ0 k cs g te Q J H1:=by
 intro D hD;refine⟨fun i m ys H=>m=n - i∧i≤n∧Pv D i ys H,⟨n,rfl,Je _,h0 D hD⟩,?_⟩;rintro i m ys H ⟨rfl,hi,p⟩;obtain⟨e1,e2⟩:=hl D i ys H p;refine⟨e1,?_⟩;by_cases hlt:i < n
 ·refine .inr ⟨O D i ys H hlt p,by lia,fun x H' y =>?_⟩;obtain⟨rfl,hx⟩:=hy D i ys H x H' hlt p y;refine mono _ _ _ _ _ (fun Y H3 ⟨z1,z2⟩=>⟨z1,B _ _ _ _ (fun v H4 ⟨z3,z4⟩=>⟨z3,n - (i + 1),by lia,rfl,hlt,z4⟩) z2⟩) (hs D i x ys H' hlt hx hD p)
 ·have e:i=n:=by lia
  subst e;exact .inl ⟨U D ys H p,hd D ys H hD p⟩
theorem tO (n:Nat)(gv:Nat→V→Prop)(Pv:Addr→Nat→List V→Hp→Prop)(hn:n≤sizeLine)
  (Y:∀ D i ys H,i < n→Pv D i ys H→J.go i H) (a0:∀ D ys H,Pv D n ys H→J.stop n H) (hy:∀ D i ys H x H',i < n→Pv D i ys H→J.yld i H x H'→H'=H∧gv i x)
  (hl:∀ D i ys H,Pv D i ys H→H D=some (.lst ys)∧ys.length≤i) (h0:∀ D,H1 D=none→Pv D 0 [] (upd H1 D (.lst [])))
  (hs:∀ D i x ys H,i < n→gv i x→H1 D=none→Pv D i ys H→g x σ0 H fun U H3=>U.drop k=cs∧tt U H3 fun b H4=>if b=true then te U H4 fun y H5=>H5 D=some (.lst ys)∧Pv D (i + 1) (ys++[y]) (upd H5 D (.lst (ys++[y]))) else Pv D (i + 1) ys H4)
  (hd:∀ D ys H,H1 D=none→Pv D n ys H→Q (.ref D) H) (mono:∀ x σ H (R B:SP9),(∀ σ' H',R σ' H'→B σ' H')→g x σ H R→g x σ H B)
  (G:∀ σ H (R B:VK),(∀ v H',R v H'→B v H')→te σ H R→te σ H B) (O:∀ σ H (R B:Bool→Hp→Prop),(∀ v H',R v H'→B v H')→tt σ H R→tt σ H B):ni σ0 k cs g tt te Q J H1:=by
 intro D hD;refine⟨fun i m ys H=>m=n - i∧i≤n∧Pv D i ys H,⟨n,rfl,Je _,h0 D hD⟩,?_⟩;rintro i m ys H ⟨rfl,hi,p⟩;obtain⟨e1,e2⟩:=hl D i ys H p;refine⟨e1,?_⟩;by_cases hlt:i < n
 ·refine .inr ⟨Y D i ys H hlt p,by lia,fun x H' y =>?_⟩;obtain⟨rfl,hx⟩:=hy D i ys H x H' hlt p y;refine mono _ _ _ _ _ (fun U H3 ⟨z1,z2⟩=>⟨z1,O _ _ _ _ (fun b H4 z =>?_) z2⟩) (hs D i x ys H' hlt hx hD p);cases b with
  | true =>
   rw[if_pos rfl]at z ⊢;exact G _ _ _ _ (fun v H5 ⟨z3,z4⟩=>⟨z3,n - (i + 1),by lia,rfl,hlt,z4⟩) z
  | false =>
   rw[if_neg (by decide)]at z ⊢;exact⟨n - (i + 1),by lia,rfl,hlt,z⟩
 ·have e:i=n:=by lia
  subst e;exact .inl ⟨a0 D ys H p,hd D ys H hD p⟩
theorem gX (xs:List V)(Pv:Addr→Nat→List V→Hp→Prop)(Y:xs.length≤sizeLine)(J:∀ D i ys H,Pv D i ys H→SqL K H a xs)
  (hl:∀ D i ys H,Pv D i ys H→H D=some (.lst ys)∧ys.length≤i) (h0:∀ D,H1 D=none→Pv D 0 [] (upd H1 D (.lst [])))
  (hs:∀ D i x ys H,xs[i]? = some x→H1 D=none→Pv D i ys H→g x σ0 H fun O H3=>O.drop k=cs∧te O H3 fun y U=>U D=some (.lst ys)∧Pv D (i + 1) (ys++[y]) (upd U D (.lst (ys++[y]))))
  (hd:∀ D ys H,H1 D=none→Pv D xs.length ys H→Q (.ref D) H) (mono:∀ x σ H (R G:SP9),(∀ σ' H',R σ' H'→G σ' H')→g x σ H R→g x σ H G)
  (B:∀ σ H (R G:VK),(∀ v H',R v H'→G v H')→te σ H R→te σ H G):ma σ0 k cs g te Q (Itl K a) H1 :=
 xf xs.length (fun i x=>xs[i]? = some x) Pv Y (fun D i ys H hi p=>⟨xs,xs[i],J D i ys H p,by simp[hi]⟩) (fun D ys H p=>⟨xs,J D _ ys H p,I_ _⟩)
  (fun D i ys H x H' hi p y=>⟨y.1,y.2 xs (J D i ys H p)⟩) hl h0 (fun D i x ys H hi hx hD p=>hs D i x ys H hx hD p) hd mono B
end
inductive Tr where
 | col (i:Int)
 | four (a b c d:Tr)
deriving DecidableEq
def Tr.data:Tr→PyData
 | .col i=>.int i
 | .four a b c d=>.tuple [a.data,b.data,c.data,d.data]
def Tr.deep:Tr→Nat
 | .col _=>0
 | .four a b c d=>max a.deep (max b.deep (max c.deep d.deep)) + 1
def Tr.isCol:Tr→Bool
 | .col _=>true
 | .four ..=>false
inductive bS (H:Hp):V→Tr→Prop
 | col (i:Int):bS H (.int i) (.col i)
 | four {p:Addr} {a b c d:V} {ta tb tc td:Tr}:H p=some (.tup [a,b,c,d])→bS H a ta→bS H b tb→bS H c tc→bS H d td→bS H (.ref p) (.four ta tb tc td)
def bQ (H H':Hp):Prop:=∀ b xs,H b=some (.tup xs)→H' b=some (.tup xs)
theorem ak.tups (s:ak H H'):bQ H H':=fun b xs e=>s b _ e
theorem bQ.trans (s:bQ H H')(t:bQ H' H''):bQ H H'':=fun b xs e=>t b xs (s b xs e)
theorem bQ.lst (e:H l=some (.lst xs)):bQ H (upd H l (.lst ys)):=fun b zs q=>by
 rw[aG (qV q e (by intro z;cases z))];exact q
theorem bS.up (s:bQ H H'):∀ {v:V} {t:Tr},bS H v t→bS H' v t
 | _,_,.col i=>.col i
 | _,_,.four e a b c d=>.four (s _ _ e) (bS.up s a) (bS.up s b) (bS.up s c) (bS.up s d)
theorem bS.dat:∀ {v:V} {t:Tr},bS H v t→Dat H v t.data
 | _,_,.col i=>.int i
 | _,_,.four e a b c d=>.tup e (.cons a.dat (.cons b.dat (.cons c.dat (.cons d.dat .nil))))
theorem Tr.eqv:∀ t u:Tr,PyData.eqv t.data u.data=decide (t=u)
 | .col i,.col j=>by
  show (i == j)=_;by_cases h:i=j<;>simp[h]
 | .col i,.four ..=>by
  show false=_;simp
 | .four ..,.col j=>by
  show false=_;simp
 | .four a b c d,.four a' b' c' d'=>by
  show (PyData.eqv a.data a'.data && (PyData.eqv b.data b'.data && (PyData.eqv c.data c'.data && (PyData.eqv d.data d'.data && true))))=_;rw[Tr.eqv a a',Tr.eqv b b',Tr.eqv c c',Tr.eqv d d'];by_cases h1:a=a'<;>by_cases h2:b=b'<;>by_cases h3:c=c'<;>by_cases h4:d=d'<;>simp[h1,h2,h3,h4]
theorem Tr.lay:∀ t:Tr,t.data.canLay0=true
 | .col i=>rfl
 | .four a b c d=>by
  show (a.data.canLay0 && (b.data.canLay0 && (c.data.canLay0 && (d.data.canLay0 && true))))=true;rw[Tr.lay a,Tr.lay b,Tr.lay c,Tr.lay d];rfl
theorem Tr.depth:∀ t:Tr,t.data.depth=t.deep
 | .col i=>rfl
 | .four a b c d=>by
  show max a.data.depth (max b.data.depth (max c.data.depth (max d.data.depth 0))) + 1=_;rw[Tr.depth a,Tr.depth b,Tr.depth c,Tr.depth d,Nat.max_zero];rfl
theorem Tr.shaped {t:Tr}(h:t.deep≤64):SeqAt.shaped t.data=true:=by
 unfold SeqAt.shaped;rw[Tr.lay,Tr.depth,Jd h];rfl
theorem bS.ty {K:Frag}(h:bS H v t):kW K H v (if t.isCol then .type "int" else .type "tuple"):=by
 cases h with
 | col i=>exact .int i
 | four e=>exact .tup e
section
variable {elt tg iter cnd:Expr}{ifs:List Expr}{scope:Scope}{N':List Str}{wi:TI}{g:TG}{te:TE}{tt:TT}
theorem Ey (xs B:List Str)(is:List Nat)(k:Nat)(ok:oz X N' scope xs B is k)(hi:PI X tg iter wi)(hg:∀ C s0 H0 fp pins,PG (bt X N' scope xs C s0 H0 fp pins) tg g)(ht:∀ C s0 H0 fp pins,PTs (bt X N' scope xs C s0 H0 fp pins) ifs tt)(he:∀ C s0 H0 fp pins,PE (bt X N' scope xs C s0 H0 fp pins) elt te)
  (G:X.N.Nodup) (O:X.N[i0]? = some y) (hy:Loc X.env.scope y) (U:swapsWith (.ListComp elt [⟨tg,iter,ifs,0⟩] scope pos) (some (.Name y py)) spos.line X.env=pure true) (hf:X.fn y=true∨X.env.scope.names.lookup y=some .local)
  (hs:∀ x,foldedSetIterable iter X.env x=pure x:=by intro _;rfl):PS X (.Assign [.Name y py] (.ListComp elt [⟨tg,iter,ifs,0⟩] scope pos) spos) (BR (i6 is k wi g tt te) (rm i0)):=by
 intro pins s σ H D0 I h;rw[exec_Assign_Name_used _ _ _ _ U];refine IX (wpAny_standAt (IX ?_));refine IX (Kf (tN (use:=some (assign (.Name y py) X.env)) (Qf:=fun _ s'=>SP X pins D0 .next s') xs B is k ok hi hg ht he hs I h fun d C H' s' J m hm f nL s0 nC nP q =>?_) (fun _ s' hq=>Jp (Jp hq)) fun _ _ e=>e);refine wpAny_assign_Name (sO J G O hy (v:=.ref d) rfl (fun s5 J5 Y =>?_) hf);obtain⟨a,sb,ha⟩:=Y;have a0:C≠a:=by
  rcases ha with rfl|ha
  ·exact nL
  ·exact Ne.symm (nC _ _ ha)
 exact⟨m,hm.sameBut sb a0,fun h' a1=>⟨_,H',J5.turned (t':=s5.toks) (fun b o hb e=>(a1.2 b hb).trans e) f nL (.inr s0) nC nP,q⟩⟩
theorem we (xs B:List Str)(is:List Nat)(k:Nat)(ok:oz X N' scope xs B is k)(hi:PI X tg iter wi)(U:∀ C s0 H0 fp pins,PG (bt X N' scope xs C s0 H0 fp pins) tg g)(Y:∀ C s0 H0 fp pins,PT (bt X N' scope xs C s0 H0 fp pins) cnd tt)(he:∀ C s0 H0 fp pins,PE (bt X N' scope xs C s0 H0 fp pins) elt te)
  (G:X.N.Nodup) (J:X.N[i0]? = some y) (hy:Loc X.env.scope y) (O:swapsWith (.ListComp elt [⟨tg,iter,[cnd],0⟩] scope pos) (some (.Name y py)) spos.line X.env=pure true:=by rfl) (hf:X.fn y=true∨X.env.scope.names.lookup y=some .local:=by first | exact .inl rfl | exact .inr rfl | assumption)
  (hs:∀ x,foldedSetIterable iter X.env x=pure x:=by intro _;rfl):PS X (.Assign [.Name y py] (.ListComp elt [⟨tg,iter,[cnd],0⟩] scope pos) spos) (BR (i6 is k wi g tt te) (rm i0)) :=
 Ey xs B is k ok hi U (fun C s0 H0 fp pins=>zd (Y C s0 H0 fp pins)) he G J hy O hf hs
end
section
theorem pP {K:Frag}(G:X.calm=true)(h:PGs X es t)(J:X.K=K:=by rfl)
  (O:(assignEach es X.env).length=n:=by rfl) (B:(assignEach es X.env).findIdx? (·.1)=none:=by rfl):PG X (.Tuple es k pos) (HU K n t):=by
 subst J;exact iz G h O B
end
def Iv (t:TS):TS:=fun D σ H=>∃ Pv:SP9,t { D with nx:=Pv } σ H∧∀ σ' H',Pv σ' H'→D.nx σ' H'
section
variable {st:Stmt}{t:TS}
theorem Cf (h:PS X st t):PS X st (Iv t):=by
 intro pins s σ H D I ⟨Pv,h1,h2⟩;refine thn (h pins s σ H { D with nx:=Pv } I h1) fun f J q =>?_;cases f with
 | next =>
  obtain⟨B,H',G,q⟩:=q;exact⟨B,H',G,h2 _ _ q⟩
 | ret v=>exact q
 | brk=>exact q
 | cont=>exact q
end
section
variable {σ0 cs:St}{k:Nat}{g:TG}{te:TE}{tt:TT}{H1:Hp}{Q:VK}
theorem ke (xs:List V)(Pv:Addr→Nat→List V→Hp→Prop)(hn:xs.length≤sizeLine)(O:∀ D i ys H,Pv D i ys H→SqL K H a xs)
  (hl:∀ D i ys H,Pv D i ys H→H D=some (.lst ys)∧ys.length≤i) (h0:∀ D,H1 D=none→Pv D 0 [] (upd H1 D (.lst [])))
  (hs:∀ D i x ys H,xs[i]? = some x→H1 D=none→Pv D i ys H→g x σ0 H fun U H3=>U.drop k=cs∧tt U H3 fun b Y=>if b=true then te U Y fun y H5=>H5 D=some (.lst ys)∧Pv D (i + 1) (ys++[y]) (upd H5 D (.lst (ys++[y]))) else Pv D (i + 1) ys Y)
  (hd:∀ D ys H,H1 D=none→Pv D xs.length ys H→Q (.ref D) H) (mono:∀ x σ H (R B:SP9),(∀ σ' H',R σ' H'→B σ' H')→g x σ H R→g x σ H B)
  (G:∀ σ H (R B:VK),(∀ v H',R v H'→B v H')→te σ H R→te σ H B) (J:∀ σ H (R B:Bool→Hp→Prop),(∀ v H',R v H'→B v H')→tt σ H R→tt σ H B):ni σ0 k cs g tt te Q (Itl K a) H1 :=
 tO xs.length (fun i x=>xs[i]? = some x) Pv hn (fun D i ys H hi p=>⟨xs,xs[i],O D i ys H p,by simp[hi]⟩) (fun D ys H p=>⟨xs,O D _ ys H p,I_ _⟩)
  (fun D i ys H x H' hi p y=>⟨y.1,y.2 xs (O D i ys H p)⟩) hl h0 (fun D i x ys H hi hx hD p=>hs D i x ys H hx hD p) hd mono G J
end
open PySem.Calls
section
variable {σ0 cs:St}{k:Nat}{g:TG}{te:TE}{tt:TT}{H1:Hp}{Q:VK}
theorem Bn (Pv:Addr→Nat→List V→Hp→Prop)(U:n≤sizeLine)
  (Y:∀ D i ys H,Pv D i ys H→H D=some (.lst ys)∧ys.length≤i) (h0:∀ D,H1 D=none→Pv D 0 [] (upd H1 D (.lst [])))
  (hs:∀ D i ys H,i < n→H1 D=none→Pv D i ys H→g (g' i) σ0 H fun J H3=>J.drop k=cs∧te J H3 fun y O=>O D=some (.lst ys)∧Pv D (i + 1) (ys++[y]) (upd O D (.lst (ys++[y]))))
  (hd:∀ D ys H,H1 D=none→Pv D n ys H→Q (.ref D) H) (mono:∀ x σ H (R G:SP9),(∀ σ' H',R σ' H'→G σ' H')→g x σ H R→g x σ H G)
  (B:∀ σ H (R G:VK),(∀ v H',R v H'→G v H')→te σ H R→te σ H G):ma σ0 k cs g te Q (Itg n g') H1 :=
 xf n (fun i x=>x=g' i) Pv U (fun D i ys H hi p=>hi) (fun D ys H p=>I_ _)
  (fun D i ys H x H' hi p y=>y) Y h0 (fun D i x ys H hi hx hD p=>hx▸hs D i ys H hi hD p) hd mono B
end
section
variable {CX:CXT}{j k:Nat}{ps:List Str}{sp:Sp}{x:Str}{p:Pos}{e:Expr}{es:List Expr}{t:TA}
def yk:V→Bool
 | .str _=>true
 | _=>false
theorem nF (G:A.units < cLine)(h:(∃ is,s.heap.IsList a is)∨(∃ is,s.heap.IsTuple a is)):∀ {xs:List V} {us:LV9},br xs us→xs.all yk=true→∀ u∈us,SeqAt.EqAt A s u (.ref a) false
 | _,_,.nil,_=>fun u G=>by cases G
 | y::xs,u::us,.cons r t,f=>fun J B=>by
  rw[Mb,Kv]at f;rcases Jr.mp B with rfl | B
  ·cases y with
   | str z =>
    obtain⟨t,rfl⟩:=r;rcases h with⟨is,h⟩|⟨is,h⟩
    ·exact SeqAt.EqAt.str_list z t h G
    ·exact SeqAt.EqAt.str_tuple z t h G
   | _=>exact absurd f.1 (by simp[yk])
  ·exact nF G h t f.2 J B
theorem tY {us:LV9}:us.any (fun _=>false)=false:=by induction us with
 | nil=>rfl
 | cons a r ih=>rw[Lw,ih];rfl
def IC (K:Frag)(neg:Bool):R2:=fun x y H Q=>∃ p xs,y=.ref p∧(SqL K H p xs∨SqT K H p xs)∧((j8 x=true∧xs.all j8=true∧Q (.bl (if neg then !inV x xs else inV x xs)) H)∨(∃ a ys,x=.ref a∧(SqL K H a ys∨SqT K H a ys)∧xs.all yk=true∧Q (.bl neg) H))
theorem Gg (hr:dP k X.A):OpR X (compareOp .In) (IC X.K false):=by
 intro pins s σ H x y v u Q I U Y h;obtain⟨p,xs,rfl,G,h⟩:=h;rcases h with⟨fx,fs,q⟩ | ⟨a,ys,rfl,J,fs,q⟩
 ·exact AK pins s σ H x _ v u Q I U Y ⟨p,xs,rfl,G,fx,fs,q⟩
 cases Y;cases U;have hu:X.A.in1.units < cLine:=by have:=hr.un;show X.A.units + 1 < cLine;lia
 have hs:(∃ is,s.heap.IsList a is)∨(∃ is,s.heap.IsTuple a is):=by
  rcases J with J|J
  ·obtain⟨its,_,B,_⟩:=I.list J;exact .inl ⟨_,B.isList⟩
  ·obtain⟨its,_,B,_⟩:=I.tuple J;exact .inr ⟨_,B⟩
 rcases G with G|G
 ·obtain⟨its,r,B,hz⟩:=I.list G;refine SeqAt.in_listAt (fun _=>false) B.isList (fun w O=>nF hu hs r fs w (by simpa using O)) ⟨.bl _,H,I,rfl,?_⟩;rw[show its.toArray.any (fun _=>false)=its.any (fun _=>false) by simp,tY];exact q
 ·obtain⟨its,r,B,hz⟩:=I.tuple G;refine SeqAt.in_tupleAt (fun _=>false) B (fun w O=>nF hu hs r fs w (by simpa using O)) ⟨.bl _,H,I,rfl,?_⟩;rw[show its.toArray.any (fun _=>false)=its.any (fun _=>false) by simp,tY];exact q
end
end L2
namespace Qs
open PySem L2
theorem dt (z:Str):z.length=z.cps.toList.length:=by
 show z.cps.size=z.cps.toList.length;rw[JI]
def IsC (z:Str):Prop:=∀ c∈z.cps.toList,48≤c∧c≤51
def dig (z:Str):List Nat:=z.cps.toList.map (· - 48)
def cxs (ds:List Nat):Nat:=ds.foldl (fun a d=>a * 2 + d % 2) 0
def cys (ds:List Nat):Nat:=ds.foldl (fun a d=>a * 2 + d / 2) 0
theorem wW (ds:List Nat)(d:Nat):cxs (ds++[d])=cxs ds * 2 + d % 2:=by simp[cxs]
theorem wU (ds:List Nat)(d:Nat):cys (ds++[d])=cys ds * 2 + d / 2:=by simp[cys]
theorem cN (z:Str):(dig z).length=z.length:=by simp[dig,dt]
theorem vw (h:i < z.length):(dig z)[i]? = some (z.cps.getD i 0 - 48):=by
 have h':i < z.cps.size:=h;simp[dig,Kb,h']
theorem m_ (h:i < z.length):(dig z).take (i + 1)=(dig z).take i++[z.cps.getD i 0 - 48]:=by
 rw[List.take_succ,vw h];rfl
theorem uA (B:IsC z)(h:i < z.length):48≤z.cps.getD i 0∧z.cps.getD i 0≤51:=by
 have h':i < z.cps.size:=h;refine B _ ?_;have e:z.cps.getD i 0=z.cps[i]:=by simp[Kb,h']
 rw[e];exact Array.getElem_mem_toList h'
def one (d:Nat):Str:=⟨#[48 + d]⟩
theorem kG (B:IsC z)(h:i < z.length):∃ d,d < 4∧sgn z i=one d∧z.cps.getD i 0 - 48=d:=by
 obtain⟨h1,h2⟩:=uA B h;refine⟨z.cps.getD i 0 - 48,by lia,?_,rfl⟩;unfold sgn one;have e:48 + (z.cps.getD i 0 - 48)=z.cps.getD i 0:=by lia
 rw[e]
theorem four {P:Nat→Prop}(B:P 0)(h1:P 1)(h2:P 2)(G:P 3){d:Nat}(h:d < 4):P d:=by
 rcases d with _|_|_|_|d
 ·exact B
 ·exact h1
 ·exact h2
 ·exact G
 ·lia
theorem mS {d:Nat}(h:d < 4):PySem.intText? (one d)=some (d:Int) :=
 four (P:=fun d=>PySem.intText? (one d)=some (d:Int)) (by decide +kernel) (by decide +kernel) (by decide +kernel) (by decide +kernel) h
theorem IsC.nil:IsC ⟨#[]⟩:=fun c h=>by simp at h
theorem IsC.app (B:IsC a)(G:IsC b):IsC (a++b):=fun c h=>by
 have e:(a++b).cps.toList=a.cps.toList++b.cps.toList:=by
  show (a.cps++b.cps).toList=_;simp
 rw[e]at h;rcases Jj.mp h with h | h
 ·exact B c h
 ·exact G c h
theorem IsC.one (h:d < 4):IsC (one d):=fun c B=>by
 have e:c=48 + d:=by simpa[Qs.one] using B
 lia
end Qs
namespace L2
open PySem PySem.Spec PyProof.Rows
variable {H:Hp}{X:Cx}{s:Sh9}{pos:Pos}{prog:Pg9}{A:Around}{K:Frag}
section
theorem zh (h:∃ t,X.mg x=some (.int i t))(B:Gl X x:=by rfl)(G:(x == ("__debug__" : Str))=false:=by decide):PE X (.Name x pos) (tC (.int i)):=by
 obtain⟨t,h⟩:=h;exact kJ B h ⟨t,rfl⟩ G
theorem EF (h:∃ t,X.mg x=some (.str z t))(B:Gl X x:=by rfl)(G:(x == ("__debug__" : Str))=false:=by decide):PE X (.Name x pos) (tC (.str z)):=by
 obtain⟨t,h⟩:=h;exact kJ B h ⟨t,rfl⟩ G
theorem gR (B:X.mg x=none)(G:bootBuiltins x=some (.type n))(J:Gl X x:=by rfl)(O:x ≠ "__name__" := by decide)(U:(x == ("__debug__" : Str))=false:=by decide):PE X (.Name x pos) (tC (.ty n)) :=
 EI J B G rfl O U
end
theorem ak.new (h:H p=none)(o:HO):ak H (upd H p o):=fun b u q=>by rw[aG (bJ q h)];exact q
theorem ak.set (h:ak H H')(B:H p=none)(o:HO):ak H (upd H' p o):=fun b u q=>by rw[aG (bJ q B)];exact h b u q
theorem IE (h:k≤63):-(2 ^ 64) < ((2 ^ k:Nat):Int)∧((2 ^ k:Nat):Int) < 2 ^ 64:=by
 have h1:=Kr (show 0 < 2 by decide) h;generalize (2 ^ k:Nat)=m at h1
 lia
theorem small (h:n≤1000):n≤sizeLine:=KP (cH h)
def uW:PySem.Expr→Bool
 | .Starred _ _=>false
 | _=>true
theorem D_ (h:uW e=true):starEach (e::es) env=(false,eval e env)::starEach es env:=by
 cases e<;>first | rfl | (cases h)
theorem IF (B:PE X e te)(G:PA X es t)(h:uW e=true:=by rfl):PA X (e::es) (yN te t):=aa B G (D_ h)
theorem Cr (B:PE X k tk)(G:PE X v tv):PE X (.Dict [some k] [v] pos) (FC [(tk,tv)]) :=
 EG (Cj B G EA) rfl rfl (by simp) (by show 1≤15;decide)
structure PAx (X:Cx)(es:List PySem.Expr)(t:TA):Prop where
 h:PA X es t
section
variable {e:PySem.Expr}{es:List PySem.Expr}{te:TE}{t:TA}
theorem au:PAx X [] BO:=⟨af⟩
theorem av (B:PE X e te)(G:PAx X es t)(h:uW e=true:=by rfl):PAx X (e::es) (yN te t):=⟨IF B G.h h⟩
theorem aF {x1}(h:PAx X es t):PE X (.Tuple es x1 pos) (G8 t):=Ga h.h
theorem aP (h:PAx X es t):PE X (.List es pos) (Hb t):=Gc h.h
end
open PySem.Calls
def EQ:PySem.Expr→Bool
 | .ListComp _ _ _ _=>false
 | .SetComp _ _ _ _=>false
 | .DictComp _ _ _ _ _=>false
 | _=>true
theorem mq (h:EQ e=true):swapsWith e t l env=pure false:=by
 cases e<;>first | rfl | (cases h)
open PySem.W
theorem tQ:bootBuiltins "sorted" = some (.builtin "sorted"):=by decide +kernel
section
variable {pins:Pn9}{σ:St}{H':Hp}{h':Heap}
theorem oU {h:Heap}{vs:LV9}{out:Array Value}{b:Addr}{o:Obj}(e:h.get? b=some o):(sortedHeap (h.push (seqObj "list" vs.toArray 0)) h.objs.size vs out).get? b=some o:=by
 rw[sortedHeap_old (JJ (Jo e)) (by rw[size_push'];exact L8 (Jo e))];exact IY _ e
theorem rZ {h:Heap}{vs:LV9}{out:Array Value}:∃ n,(sortedHeap (h.push (seqObj "list" vs.toArray 0)) h.objs.size vs out).get? h.objs.size=some (seqObj "list" out n) :=
 sortedHeap_at (n:=0) (Ju _ rfl)
end
end L2
namespace L2
open PySem PySem.Spec PySem.Calls PyProof.Rows
variable {H:Hp}{X:Cx}{s:Sh9}{pos:Pos}{prog:Pg9}{A:Around}{K:Frag}
theorem GV:bootBuiltins "sum" = some (.builtin "sum"):=by decide +kernel
section
theorem Bq (O:X.calm=true):gY X (.builtin "sum") (fun xs H Q=>∃ (a:Addr) (B:List Int),xs=[.ref a]∧SqL X.K H a (B.map V.int)∧Q (.int B.sum) H):=by
 intro pins s σ H xs us Q I r h;obtain⟨a,B,rfl,U,q⟩:=h;obtain⟨u,rfl,Y⟩:=jx r;cases Y;obtain⟨its,rv,pl,_⟩:=I.list U;have hi:IntsAre its B:=yl rv;have J:=pl.isList;obtain⟨xs,e⟩:=hi.allInts.items;have G:B=xs.toList.map (·.1):=by rw[← hi.numsOf,← nums_intItems,← e]
 rw[e]at J;refine sum_intListG (I.ok.hd O) J fun h' tk t' hk =>?_;refine⟨.int _,H,I.kept hk,⟨t',rfl⟩,?_⟩;rw[preSum_eq,Ji (by simp),← G];exact q
theorem dP.dic (r:dP k A):A.units + 1 < PySem.cLine:=by have:=r.un;lia
end
open PySem.W
structure xt (ps caps:List Str)(scope:Scope):Prop where
 kind:scope.kind=.function
 gen:scope.isGenerator=false
 co:scope.isCoroutine=false
 nd:ps.Nodup
 loc:∀ x∈ps,scope.names.lookup x=some .local
 nocell:∀ y∈scope.names,y.2≠.cell
 free:∀ y∈scope.names,y.2=.free→y.1∈caps
 caps:∀ x∈caps,scope.names.lookup x=some .free
def oJ (c:Addr)(qual:Str):HO:=.ext fun h=>h.CodeRec (.ref c) qual
def isE (a:Addr)(o:Obj):HO:=.ext fun h=>h.get? a=some o
theorem C_ (e:h.get? a=some o):ci P w H h a (isE a o):=⟨e,⟨o,e⟩,fun _ _ B k=>k _ B⟩
theorem DH (e:h.CodeRec (.ref c) qual):ci P w H h c (oJ c qual):=by
 refine⟨e,?_,fun h1 h2 G k =>?_⟩
 ·obtain⟨_,o,vs,t,z,B,_⟩:=e;cases z;exact⟨o,B⟩
 ·obtain⟨_,o,vs,t,z,B,r⟩:=G;cases z;exact⟨c,o,vs,t,rfl,k _ B,r⟩
def Ih (H:Hp)(P:Addr)(qual:Str):Prop:=∃ ps:Array Value,H P=some (.tbl ps)∧TriplesOk ps.toList∧∀ pos cv,codeAmong pos ps.toList=some cv→∃ c',cv=.ref c'∧H c'=some (oJ c' qual)
def fT (T:AS9)(H:Hp):Prop:=∀ q∈T,Ih H q.1 q.2
def cq (T:AS9)(H H':Hp):Prop:=∀ b o,H b=some o→b∉T.map (·.1)→H' b=some o
theorem ak.toT (s:ak H H'):cq T H H':=fun b o e _=>s b o e
theorem cq.refl (H:Hp):cq T H H:=fun _ _ h _=>h
theorem cq.trans (a:cq T H H1)(b:cq T H1 H2):cq T H H2:=fun c o h n=>b c o (a c o h n) n
theorem ak.tabs (s:ak H H')(t:fT T H):fT T H':=fun q B=>by
 obtain⟨ps,h1,h2,G⟩:=t q B;refine⟨ps,s _ _ h1,h2,fun pos J e =>?_⟩;obtain⟨O,U,Y⟩:=G pos J e;exact⟨O,U,s _ _ Y⟩
theorem fT.apart (t:fT T H)(e:H b=some o)(n:∀ ps,o≠.tbl ps):b∉T.map (·.1):=fun B=>by
 obtain⟨q,G,rfl⟩:=I9.mp B;obtain⟨ps,h1,_⟩:=t q G;rw[e]at h1;cases h1;exact n ps rfl
theorem cq.keep (s:cq T H H')(t:fT T H)(e:H b=some o)(n:∀ ps,o≠.tbl ps):H' b=some o:=s b o e (t.apart e n)
theorem rF {pos pos':Pos}{c B:Value}(l:LV9)(h:TriplesOk l)(e:codeAmong pos (l++[rawInt pos'.line,rawInt pos'.col,c])=some B):codeAmong pos l=some B∨B=c:=by
 fun_induction TriplesOk l with
 | case1 =>
  simp only[Ku,rawInt,codeAmong]at e
  split at e
  ·exact .inr (Option.some.inj e).symm
  ·cases e
 | case2 a t b u x rest ih =>
  simp only[Me,codeAmong]at e ⊢
  split at e
  ·rename_i hc
   rw[if_pos hc];exact .inl e
  ·rename_i hc
   rw[if_neg hc];exact ih h e
 | case3 l h1 h2=>exact h.elim
def nA (mg:Mg9)(h:Heap):Prop:=∃ bm,(∃ ob,(mg "__builtins__" = some (.ref bm)∧bm≠builtinsNs∧h.get? bm=some ob∧ob.cls=.type "module" ∧ ob.dict=some builtinsNs∧ob.data=.plain))
def Iq (T:AS9)(qual:Str)(mk:Addr→Value→Obj):TE:=fun _ H Q=>fT T H∧∀ fa c' ctv H',H fa=none→H' fa=some (isE fa (mk c' ctv))→H' c'=some (oJ c' qual)→fT T H'→cq T H H'→Q (.ref fa) H'
section
theorem Gd (xs:List Str)(hB:nA X.mg X.base)(hC:CodeHd X.base c P)(a0:X.env.code=.ref c)(hT:(P,qual)∈T)(c4:(T.map (·.1)).Nodup)(hq:X.env.qual ++ "<lambda>" = qual)
  (a1:closureFor scope X.env=pure (clo X.env xs)) (b8:defaultsOf params X.env=([],[]):=by rfl) :
  PE X (.Lambda params body scope pos) (Iq T qual fun G O=>kla_obj "<lambda>" qual params body scope (clo X.env xs) ((X.mg "__name__").getD .none) G O):=by
 intro pins s σ H Q I h;obtain⟨a2,h⟩:=h;obtain⟨ps,Y,ht,a9⟩:=a2 (P,qual) hT;have a3:s.heap.get? P=some (tabObj ps):=I.hok P _ Y;have a6:s.heap.Ns mainGlobals X.mg:=I.ok.mod.glob.keeps I.bk;have c5:mainGlobals≠P:=fun q=>by
  obtain⟨o,es,ep,e,hd,_⟩:=a6;rw[q,a3]at e;cases e;cases hd
 obtain⟨bm,ob,b1,b2,b3,b4,b5,b6⟩:=hB;have b3':=I.bk _ _ b3;have c6:bm≠P:=fun q=>by
  rw[q,a3]at b3';cases b3';cases b4
 have c7:bm≠mainGlobals:=fun q=>by
  obtain⟨o,es,ep,e,hd,_⟩:=a6;rw[q,e]at b3';cases b3';rw[hd]at b6;cases b6
 have b9:s.heap.BuiltinsAt X.mg P:=⟨bm,ob,b1,b2,c7,c6,b3',b4,b5,b6⟩;refine kla_eval b8 ?_;rw[hq];cases hf:codeAmong pos ps.toList with
 | none =>
  refine kla_makeFunction a1 I.ok.glob a6 a0 (hC.keeps I.bk) a3 ht hf c5 b9 fun G O h' tk hx a7 c0 c1 c2 =>?_;generalize a4:kla_obj "<lambda>" qual params body scope (clo X.env xs) ((X.mg "__name__").getD .none) G O=B
  have c3:P < s.heap.objs.size:=Jo a3;have c8:G≠P:=KU (Jt c3 a7);have b0:s.heap.objs.size≤h'.objs.size:=KP (Lc a7 c0);have c9:h'.objs.size≠P:=KU (Jt c3 b0);have d0:h'.objs.size≠G:=KU c0;have a5:H h'.objs.size=none:=I.hok.fresh b0;have nc:H G=none:=I.hok.fresh a7;have a8:∀ b o,b≠P→s.heap.get? b=some o→(h'.push B).get? b=some o:=fun b o hb e=>IY _ (hx b o hb e)
  let H':Hp:=upd (upd (upd H P (.tbl (ps ++ #[rawInt pos.line,rawInt pos.col,.ref G]))) G (oJ G qual)) h'.objs.size (isE h'.objs.size B)
  have e1:H' h'.objs.size=some (isE h'.objs.size B):=ah;have e2:H' G=some (oJ G qual):=by show upd _ _ _ _=_;rw[aG (Ne.symm d0),ah]
  have e3:H' P=some (.tbl (ps ++ #[rawInt pos.line,rawInt pos.col,.ref G])):=by show upd _ _ _ _=_;rw[aG (Ne.symm c9),aG (Ne.symm c8),ah]
  have e4:∀ b,b≠P→b≠G→b≠h'.objs.size→H' b=H b:=fun b n1 n2 n3=>by show upd _ _ _ _=_;rw[aG n3,aG n2,aG n1]
  have e5:∀ b o,H b=some o→b≠P→H' b=some o:=fun b o e n=>by rw[e4 b n (bJ e nc) (bJ e a5)];exact e
  have hrec':(h'.push B).CodeRec (.ref G) qual:=by
   obtain⟨c₂,o₂,d1,t₂,z,g₂,r₂⟩:=c1;exact⟨c₂,o₂,d1,t₂,z,IY _ g₂,r₂⟩
  have b7:B.isFreed=false:=by rw[← a4];rfl
  have J:Inv X pins σ H' { s with heap:=h'.push B,toks:=tk }:=by
   refine I.un ⟨fun b u q n _ _=>a8 b u (fun z=>by rw[z,Y]at n;cases n) q,fun b u q n _ _=>⟨u.slots,a8 b u (fun z=>by rw[z,Y]at n;cases n) q⟩,fun b u q n _ =>?_,fun b u q _ =>?_,fun b xs q=>e5 b _ q (fun z=>by rw[z,Y]at q;cases q),fun b u xs q=>e5 b _ q (fun z=>by rw[z,Y]at q;cases q),fun b qs q =>?_⟩ fun b u q =>?_
   ·have hb:=Jo q;rw[e4 b (fun z=>by rw[z,Y]at n;cases n) (JJ (Jt hb a7)) (JJ (Jt hb b0))];exact n
   ·by_cases hb:b=P
    ·rw[hb];exact⟨_,IY _ c2⟩
    ·exact⟨u,a8 b u hb q⟩
   ·by_cases hb:b=P
    ·rw[hb,Y]at q;cases q;exact⟨_,by rw[hb];exact e3⟩
    ·exact⟨#[],by rw[e5 b _ q hb];simp⟩
   ·by_cases h1:b=h'.objs.size
    ·subst h1;rw[e1]at q;cases q;exact C_ (Ju _ b7)
    ·by_cases h2:b=G
     ·subst h2;rw[e2]at q;cases q;exact DH hrec'
     ·by_cases h3:b=P
      ·subst h3;rw[e3]at q;cases q;exact IY _ c2
      ·rw[e4 b h3 h2 h1]at q;refine (I.hok b u q).stay (fun d v hd r=>a8 d v ?_ r) (fun d r=>e5 d _ r fun z=>by rw[z,Y]at r;cases r) fun d xs r=>e5 d _ r fun z=>by rw[z,Y]at r;cases r
       rcases hd with rfl|hd
       ·exact h3
       ·intro z;rw[z,Y]at hd;cases hd
  refine⟨.ref h'.objs.size,H',J,rfl,h _ G O H' a5 (by dsimp only;rw[a4];exact e1) e2 (fun q hq =>?_) fun b o e n=>e5 b o e fun z=>n (by rw[z];exact I9.mpr ⟨_,hT,rfl⟩)⟩;by_cases hqP:q.1=P
  ·have d2:q=(P,qual):=by
    have:∀ (l:AS9),(l.map (·.1)).Nodup→q∈l→(P,qual)∈l→q.1=P→q=(P,qual):=by
     intro l
     induction l with
     | nil=>intro _ h;cases h
     | cons y r ih =>
      intro nd h1 h2 h3;rw[Jl,Kn]at nd;rcases Jr.mp h1 with z1 | z1
      ·rcases Jr.mp h2 with U|U
       ·exact z1.trans U.symm
       ·exact absurd (I9.mpr ⟨_,U,by rw[← z1];exact h3.symm⟩) nd.1
      ·rcases Jr.mp h2 with U|U
       ·exact absurd (I9.mpr ⟨_,z1,by rw[← U];exact h3⟩) nd.1
       ·exact ih nd.2 z1 U h3
    exact this T c4 hq hT hqP
   subst d2;refine⟨_,e3,?_,fun pos' cv e =>?_⟩
   ·rw[Ka];exact TriplesOk_snoc _ _ _ _ ht
   ·rw[Ka]at e;rcases rF _ ht e with e | e
    ·obtain⟨d,z1,U⟩:=a9 _ _ e;exact⟨d,z1,e5 d _ U fun z=>by rw[z,Y]at U;cases U⟩
    ·exact⟨G,e,e2⟩
  ·obtain⟨qs,g1,g2,g3⟩:=a2 q hq;refine⟨qs,e5 _ _ g1 hqP,g2,fun pos' cv e =>?_⟩;obtain⟨d,z1,U⟩:=g3 _ _ e;exact⟨d,z1,e5 d _ U fun z=>by rw[z,Y]at U;cases U⟩
 | some cv =>
  obtain⟨G,rfl,d3⟩:=a9 _ _ hf;refine kla_makeFunctionHit a1 I.ok.glob a6 a0 (hC.keeps I.bk) a3 ht hf b9 fun O h' tk hk hsz =>?_;show EP X pins σ Q (.ref h'.objs.size) { s with heap:=h'.push (kla_obj "<lambda>" qual params body scope (clo X.env xs) ((X.mg "__name__").getD .none) G O),toks:=tk }
  generalize a4:kla_obj "<lambda>" qual params body scope (clo X.env xs) ((X.mg "__name__").getD .none) G O=B
  have b7:B.isFreed=false:=by rw[← a4];rfl
  have a5:H h'.objs.size=none:=I.hok.fresh hsz;have sm:ak H (upd H h'.objs.size (isE h'.objs.size B)):=fun b o e=>by rw[aG (bJ e a5)];exact e
  refine⟨.ref h'.objs.size,_,I.laid (a:=h'.objs.size) (o:=isE h'.objs.size B) (h':=h'.push B) (t':=tk) (fun b u e=>IY _ (hk b u e)) hsz (C_ (Ju _ b7)),rfl,h _ G O _ a5 (by dsimp only;rw[a4];exact ah) (sm _ _ d3) (sm.tabs a2) sm.toT⟩
end
theorem AY {P:Pg9}{w:Wd9}{K:Frag}{mg mb:Mg9}{CX:CXT}{k:Nat}{fa a:Addr}{fd:Fd9}{x:Str}{sp:Sp}{B:Sh9}{vs:LV9}{ns:List Int}{Ps:List Addr}
  (KX:K.In B.heap) (a2:B.heap.Ns mainGlobals mg) (G:B.heap.Ns builtinsNs mb) (b0:∀ x:Str,x ≠ "__name__" → mb x=bootBuiltins x) (a3:B.heap.NoLimit) (hg:B.gens = #[])
  (ha:B.heap.get? a=some { cls:=.type "list",data:=.seq vs.toArray }) (hi:IntsAre vs ns) (hl:ns.length≤sizeLine) (hr:dP k callerA)
  (b7:nA mg B.heap) (O:∀ P∈Ps,B.heap.get? P=some (tabObj #[])∧K.lookup P=none∧∃ c,CodeHd B.heap c P)
  (F:∀ base:Heap,K.In base→base.Ns mainGlobals mg→nA mg base→bF P w K mg base CX k fa fd [x] sp) (a1:∀ (s:Sh9) (u:Value),BindsTo s fd ⟨[u],[]⟩ [(x,u)])
  (b8:∀ H:Hp,(∀ P∈Ps,H P=some (.tbl #[]))→SqL K H a (ns.map V.int)→sp [.ref a] H (fun v _=>v=.bl true) fun _ _ _=>False)
  (b9:∀ H e s',CX [] H B (fun _ _ _=>False) e s'→False) :
  codeAny (model P w) callerA (.call (.ref fa) ⟨[.ref a],[]⟩) (fun r s'=>r=.ok (.ret (.bool true))∧OldK B.heap s'.heap∧s'.os=B.os∧AllBare s'.gens) B:=by
 have rv:=sH hi;have a4:=hi.length;have a5:a∉Ps:=fun z=>by
  have:=(O a z).1
  rw[ha]at this;cases this
 have Y:∀ H:Hp,(∀ b,H b=none∨(b∈Ps∧H b=some (.tbl #[]))∨∃ o xs,H b=some (.frz o (.lst xs)))→(∀ P∈Ps,H P=some (.tbl #[]))→SqL K H a (ns.map V.int)→HOk P w H B.heap→(∀ b,H b≠none→b∈Ps∨b=a)→(H a≠none→K.lookup a=none) →
   codeAny (model P w) callerA (.call (.ref fa) ⟨[.ref a],[]⟩) (fun r s'=>r=.ok (.ret (.bool true))∧OldK B.heap s'.heap∧s'.os=B.os∧AllBare s'.gens) B:=by
  intro H hO hT hS a6 hA hK;have J:∀ {b:Addr} {o:Obj},B.heap.get? b=some o→H b=none→(sy B.heap H).get? b=some o:=fun e n=>Da e n;have a7:∀ {b:Addr} {o:Obj},B.heap.get? b=some o→(∀ qs,o.data≠.fields qs)→(∀ qs n,o.data≠.seq qs n)→H b=none:=fun {b o} e d1 d2=>by
   cases q:H b with
   | none=>rfl
   | some u =>
    rcases hA b (by rw[q];simp) with e'|e'
    ·rw[(O b e').1]at e;cases e;exact absurd rfl (d1 #[])
    ·subst e';rw[ha]at e;cases e;exact absurd rfl (d2 _ _)
  have U:∀ {b:Addr} {m:Mg9},B.heap.Ns b m→(sy B.heap H).Ns b m:=fun {b m} ⟨o,es,ep,e,d,r⟩=>⟨o,es,ep,J e (a7 e (fun qs z=>by rw[d]at z;cases z) (fun qs n z=>by rw[d]at z;cases z)),d,r⟩;have a8:K.In (sy B.heap H):=fun b o e=>J (KX b o e) (by
   cases q:H b with
   | none=>rfl
   | some u =>
    rcases hA b (by rw[q];simp) with e'|e'
    ·rw[(O b e').2.1]at e;cases e
    ·subst e';rw[hK (by rw[q];simp)]at e;cases e)
  have hM:Mod K mg (sy B.heap H):=⟨a8,U a2,⟨mb,U G,b0⟩,let ⟨mc,h1,h2⟩:=a3;⟨mc,U h1,h2⟩⟩;have c0:nA mg (sy B.heap H):=by
   obtain⟨bm,ob,b1,b2,b3,b4,b5,b6⟩:=b7;exact⟨bm,ob,b1,b2,J b3 (a7 b3 (fun qs z=>by rw[b6]at z;cases z) (fun qs n z=>by rw[b6]at z;cases z)),b4,b5,b6⟩
  have e0:FA P w K mg (sy B.heap H) callerA [] B H:=⟨rfl,hM,fun b o e=>EO e,Mj (Bf _ _),trivial,fun b G=>absurd (show b∈([]:List Addr) from G) (by simp),a6,.of_eq hg⟩;refine codeAny_mono ((F _ a8 (U a2) c0).run callerA [] B H ⟨[.ref a],[]⟩ [.ref a] [.ref a] _ _ hr e0 (a1 B (.ref a)) (.cons rfl .nil) (b8 H hT hS)) fun r s' h =>?_;cases r with
  | error e=>exact (b9 H e s' h).elim
  | ok fl =>
   cases fl with
   | next=>exact False.elim h
   | brk=>exact False.elim h
   | cont=>exact False.elim h
   | ret u =>
    obtain⟨v,H',os,bare,un,a0,r',q⟩:=h;have q':v=.bl true:=q;subst q';obtain rfl:u=Value.bool true:=r';have nofs:∀ b:Addr,b∉frs []:=fun b z=>absurd (show b∈([]:List Addr) from z) (by simp);refine⟨rfl,⟨fun b o e =>?_,fun b o e=>un.there b o e (by simp)⟩,os,bare⟩;rcases hO b with q|⟨c1,q⟩|⟨ob,xs,z⟩
    ·exact .inl (un.keep b o e q (nofs b) (by simp))
    ·obtain⟨h1,h2,c,h3⟩:=O b c1;rw[h1]at e;cases e;obtain⟨a9,hm⟩:=un.tbls b _ q;exact .inr (.inl ⟨(h3.tab h1).isCodeTable,rfl,#[],a9,rfl,a0 b _ hm⟩)
    ·have z2:=un.frzs b ob _ z;obtain⟨e1,_⟩:=a6 b _ z;obtain⟨e2,_⟩:=a0 b _ z2;rw[e]at e1;cases e1;exact .inl e2
 cases hk:K.lookup a with
 | some o =>
  have e:=KX a o hk;rw[ha]at e;cases e;refine Y (fun b=>if b∈Ps then some (.tbl #[]) else none) (fun b =>?_) (fun P hP=>if_pos hP) (.inr ⟨_,vs.toArray,_,hk,rfl,rfl,rfl,by rw[JC,a4];exact hl,by simpa using rv⟩) (fun b u z =>?_) (fun b z =>?_) fun z=>absurd (if_neg a5) z
  ·by_cases G:b∈Ps
   ·exact .inr (.inl ⟨G,if_pos G⟩)
   ·exact .inl (if_neg G)
  ·by_cases G:b∈Ps
   ·have z':=(if_pos G).symm.trans z;cases z';exact (O b G).1
   ·have z':=(if_neg G).symm.trans z;cases z'
  ·by_cases G:b∈Ps
   ·exact .inl G
   ·exact absurd (if_neg G) z
 | none =>
  refine Y (fun b=>if b∈Ps then some (.tbl #[]) else if b=a then some (.frz { cls:=.type "list",data:=.seq vs.toArray } (.lst (ns.map V.int))) else none) (fun b =>?_) (fun P hP=>if_pos hP) (.inl (.inr ⟨{ cls:=.type "list",data:=.seq vs.toArray },(if_neg a5).trans (if_pos rfl)⟩)) (fun b u z =>?_) (fun b z =>?_) fun _=>hk
  ·by_cases G:b∈Ps
   ·exact .inr (.inl ⟨G,if_pos G⟩)
   ·by_cases hb2:b=a
    ·exact .inr (.inr ⟨_,_,(if_neg G).trans (if_pos hb2)⟩)
    ·exact .inl ((if_neg G).trans (if_neg hb2))
  ·by_cases G:b∈Ps
   ·have z':=(if_pos G).symm.trans z;cases z';exact (O b G).1
   ·have z:=(if_neg G).symm.trans z;by_cases hb2:b=a
    ·have z':=(if_pos hb2).symm.trans z;cases z';subst hb2;exact⟨ha,by rw[I0];exact hl,vs,_,rv,ha⟩
    ·have z':=(if_neg hb2).symm.trans z;cases z'
  ·by_cases G:b∈Ps
   ·exact .inl G
   ·by_cases hb2:b=a
    ·exact .inr hb2
    ·exact absurd ((if_neg G).trans (if_neg hb2)) z
def sM (K:Frag)(cd:Value):Option Addr:=match cd with
 | .ref c=>(match K.lookup c with
  | some ⟨_,_,.fields vs,_⟩=>(match (vs[11]? : OV9) with
   | some (.ref P)=>if codeHdIn K c P=true then some P else none
   | _=>none)
  | _=>none)
 | _=>none
theorem vR {K:Frag}(X:K.In h)(e:sM K cd=some P):∃ c,cd=.ref c∧CodeHd h c P:=by
 unfold sM at e
 split at e
 ·rename_i c
  split at e
  ·split at e
   ·split at e
    ·rename_i hc
     cases e;exact⟨c,rfl,codeHd_of_K X hc⟩
    ·cases e
   ·cases e
  ·cases e
 ·cases e
theorem BL {K:Frag}(B:cd=.ref c)(l:K.lookup c=some ⟨cl,od,.fields vs,sl⟩)(e:vs[11]? = some (.ref P))(h:codeHdIn K c P=true):sM K cd=some P:=by
 subst B;unfold sM;simp only[l,e,h,if_true]
theorem BC {l:PySem.W.OpenLaw}{n k:Nat}{q:Pg9}{J:List Str}{XP:(Mg9)→Heap→Prop}{YP:Wd9→Heap→Prop}{d:DefRec}{K:Params→Frag}{CX:Wd9→CXT}{x:Str}{ts:List Addr}
  (hn:l.most=some n) (a0:n≤sizeLine) (a1:d.params.defaults=[]) (hr:dP k callerA)
  (hY:∀ (w:Wd9) (h:Heap),YP w h→(K w.params).In h) (hT:∀ (w:Wd9) (h:Heap),YP w h→∀ P∈ts,h.get? P=some (tabObj #[]))
  (F:∀ (w:Wd9) (mg:Mg9) (fa:Addr) (h:Heap),(K w.params).In h→h.Ns mainGlobals mg→mg d.name=some (.ref fa) →
   ∃ (fd:Fd9) (Ps:List Addr) (sp:Sp),(∀ (s:Sh9) (u:Value),BindsTo s fd ⟨[u],[]⟩ [(x,u)])∧(∀ P∈Ps,P∈ts∧(K w.params).lookup P=none∧∃ c,CodeHd h c P) ∧
    (∀ base:Heap,(K w.params).In base→base.Ns mainGlobals mg→nA mg base→bF l.prog w (K w.params) mg base (CX w) k fa fd [x] sp) ∧
    ∀ (H:Hp) (a:Addr) (ns:List Int),ns.length≤n→(∀ P∈Ps,H P=some (.tbl #[]))→SqL (K w.params) H a (ns.map V.int)→sp [.ref a] H (fun v _=>v=.bl true) fun _ _ _=>False)
  (a2:∀ (w:Wd9) (H:Hp) (s:Sh9) (e:Value) (s':Sh9),CX w [] H s (fun _ _ _=>False) e s'→False) :
  PySem.W.WalkO q J XP YP l.row.toRowW d [] (fun f vs=>PySem.call f vs):=by
 refine Att.xp hn a1 fun w s₀ s₁ mg mb fa o pm cd doc a vs ns G Y ho hd a5 a3 U O B hg =>?_;have KX:=hY w _ Y;obtain⟨fd,Ps,sp,hb,hP,hF,a4⟩:=F w mg fa _ KX G.T.g a3;exact AY (Ps:=Ps) KX G.T.g G.T.b G.T.builtins G.T.nolimit hg U O (JA B a0) hr G.T.bmain (fun P h=>⟨hT w _ Y P (hP P h).1,(hP P h).2.1,(hP P h).2.2⟩) hF hb (fun H hO hS=>a4 H a ns B hO hS) fun H e s'=>a2 w H s₁ e s'
section
variable {P:Pg9}{w:Wd9}{mg:Mg9}{base:Heap}{Z:Pn9}
structure Fz (K:Frag)(x qual:Str)(st:Stmt)(f:Addr)(fd:Fd9)(dV:Value)(P:Addr):Prop where
 ex:∃ (oc:Value) (od:Option Addr) (kV doc pm:Value) (an:Option Addr) (cdv ct:Value) (osl:Array (OV9)),
  fd=fnOf x qual (cD st) (bU st) (aq st) dV kV doc pm an cdv ct∧K.lookup f=some ⟨oc,od,.func fd,osl⟩∧codeIn K cdv qual=true∧sM K cdv=some P
theorem E8 {x qual:Str}{st:Stmt}{f Pt:Addr}{Y:Value}{od J:Option Addr}{G:Array (OV9)}{O kV doc U B ct:Value}(l:K.lookup f=some ⟨Y,od,.func (fnOf x qual (cD st) (bU st) (aq st) O kV doc U J B ct),G⟩)
  (c:codeIn K B qual=true) (t:sM K B=some Pt):Fz K x qual st f (fnOf x qual (cD st) (bU st) (aq st) O kV doc U J B ct) O Pt:=⟨⟨Y,od,kV,doc,U,J,B,ct,G,rfl,l,c,t⟩⟩
theorem Fz.ok {st:Stmt}(F:Fz K x qual st f fd dV Pt)(O:K.In base)(S:aE N ps (aq st))(len:∀ vs H Q E,sp vs H Q E→vs.length=ps.length)
  (B:∀ (c:Addr) (A:Around) (outer:List Env) (s:Sh9) (H:Hp) (vs:List V) (Q:VK) (E:XK),CodeHd base c Pt→dP k (A.deeper (envOfC qual (aq st) s.heap.objs.size f (.ref c)))→sp vs H Q E →
   ∃ t,PSs (jp CX P w K mg base N qual (aq st) f (.ref c) A outer s H E).nox (bU st) t∧t { nx:=fun _ H'=>Q .non H',rt:=Q } (start N vs) H):bF P w K mg base CX (k + 1) f fd ps sp:=by
 obtain⟨oc,od,kV,doc,pm,an,U,ct,Y,rfl,lk,G,ht⟩:=F.ex;obtain⟨c,rfl,hc⟩:=vR O ht;refine Dd lk G S len fun A outer s H vs Q E hr J =>?_;obtain⟨t,h,q⟩:=B c A outer s H vs Q E hc hr J;exact⟨t,h.nox,q⟩
end
theorem SqL.upT {K:Frag}(h:SqL K H a xs)(s:cq T H H')(t:fT T H):SqL K H' a xs:=by
 rcases h with (h|⟨o,h⟩)|h
 ·exact .inl (.inl (s.keep t h (by intro ps z;cases z)))
 ·exact .inl (.inr ⟨o,s.keep t h (by intro ps z;cases z)⟩)
 ·exact .inr h
theorem cq.tups (s:cq T H H')(t:fT T H):bQ H H':=fun b xs e=>s.keep t e (by intro ps z;cases z)
theorem fT.start (h:∀ P∈T.map (·.1),H P=some (.tbl #[])):fT T H:=fun q B =>
 ⟨#[],h _ (I9.mpr ⟨_,B,rfl⟩),trivial,fun pos G e=>by cases e⟩
structure Lin {α:Type}(lt:α→α→Bool):Prop where
 irr:∀ x,lt x x=false
 tr:∀ x y z,lt x y=true→lt y z=true→lt x z=true
 tot:∀ x y,lt x y=false→lt y x=false→x=y
theorem j_:∀ {l:List α},(∀ x∈l,p x=true→q x=true)→a∈l→p a=false→q a=true→l.countP p < l.countP q
 | [],_,h,_,_=>by simp at h
 | x::l,hm,B,hp,hq=>by
  have m:l.countP p≤l.countP q:=List.countP_mono_left fun y G=>hm y (by simp[G]);rw[List.countP_cons,List.countP_cons];rcases Jr.mp B with rfl | B
  ·rw[hp,hq];simp
   lia
  ·have:=j_ (fun y G=>hm y (by simp[G])) B hp hq
   have J:=hm x (by simp);cases e:p x with
   | true=>rw[J e];simp;omega
   | false=>simp;split<;>omega
def rnk {α:Type}(lt:α→α→Bool)(ks:List α)(x:α):Int:=((ks.countP fun k=>lt k x:Nat):Int)
theorem uF (L:Lin lt)(B:x∈ks)(G:y∈ks):decide (rnk lt ks x < rnk lt ks y)=lt x y:=by
 unfold rnk;cases e:lt x y with
 | true =>
  have:=j_ (l:=ks) (p:=fun k=>lt k x) (q:=fun k=>lt k y) (fun k _ h=>L.tr _ _ _ h e) B (L.irr x) e
  simp
  exact this
 | false =>
  cases e2:lt y x with
  | true =>
   have:=j_ (l:=ks) (p:=fun k=>lt k y) (q:=fun k=>lt k x) (fun k _ h=>L.tr _ _ _ h e2) G (L.irr y) e2
   simp
   lia
  | false =>
   have:=L.tot _ _ e e2
   subst this;simp
section
variable {w:Wd9}{E:EV9}{α:Type}{lt:α→α→Bool}{kf:Value→α}
structure G0 (prog:Pg9)(w:Wd9)(vs:LV9){α:Type}(kf:Value→α)(lt:α→α→Bool)(κ:SortKind)(s:Sh9):Prop where
 kind:∀ (A:Around),2≤vs.length→∀ Q:SortKind→Sh9→Prop,Q κ s→wpAny (model prog w) A (keyKind' vs.toArray) Q (fun _ _=>False) s
 less:∀ (A:Around) (x y:Value) (C:Bool→Sh9→Prop),x∈vs→y∈vs→C (lt (kf x) (kf y)) s→wpAny (model prog w) A (keyLt' κ x y) C (fun _ _=>False) s
theorem vL {vs:LV9}{p:Keyed}(h:p∈(vs.toArray.zip vs.toArray).toList):p.1=p.2∧p.2∈vs:=by
 rw[Array.toList_zip]at h;obtain⟨i,hi⟩:=List.mem_iff_getElem?.mp h;rw[List.getElem?_zip_eq_some]at hi;have e:=hi.1.symm.trans hi.2;exact⟨Option.some.inj e,List.mem_iff_getElem?.mpr ⟨i,hi.2⟩⟩
theorem yK (vs:LV9):(vs.toArray.zip vs.toArray).toList.map (·.2)=vs:=by
 rw[Array.toList_zip];exact List.map_snd_zip (I_ _)
theorem sx {a:Addr}{vs:LV9}{n:Nat}{κ:SortKind}{P:PySem.Fin→Sh9→Prop}(L:Lin lt)(ho:s.heap.get? a=some (seqObj "list" vs.toArray n))(sz:vs.length≤sizeLine)
  (hs:∀ h',(∀ b o,b≠a→s.heap.get? b=some o→h'.get? b=some o)→G0 prog w vs kf lt κ { s with heap:=h' })
  (h:∀ out:LV9,out.Perm vs→out.Pairwise (fun x y=>lt (kf y) (kf x)=false)→P (.done (.ret .none)) { s with heap:=sortedHeap s.heap a vs out.toArray }) :
  wpAny (model prog w) A (Builtin.«list.sort» ⟨[.ref a],[]⟩) P E s:=by
 have ha:a < s.heap.objs.size:=Jo ho;rw[list_sort_plain];refine IX (listItems_at ho rfl ?_);refine IX (listUpdate_at ho rfl ?_ (by rw[JC];exact sz) (Je _));obtain⟨e1,O⟩:∃ e1,(s.heap.update a (Obj.mapSeq fun _=>(#[]:Array Value))).get? a=some (seqObj "list" #[] e1):=⟨_,get?_update_seq ho fun _ => #[]⟩
 refine IX (seqEpoch_at O rfl ?_);refine IX (wpAny_newTuple ?_ (by show vs.length≤_;exact sz));refine IX (wpAny_newList ?_ (Je _));refine wpAny_holding ?_;show wpAny (model prog w) A _ P E { s with heap:=((s.heap.update a (Obj.mapSeq fun _=>(#[]:Array Value))).push (seqObj "tuple" vs.toArray 0)).push (seqObj "list" #[] 0) }
 dsimp only;have J:(((s.heap.update a (Obj.mapSeq fun _=>(#[]:Array Value))).push (seqObj "tuple" vs.toArray 0)).push (seqObj "list" #[] 0)).get? a=some (seqObj "list" #[] e1):=IY _ (IY _ O)
 have kp:∀ b o,b≠a→s.heap.get? b=some o→(((s.heap.update a (Obj.mapSeq fun _=>(#[]:Array Value))).push (seqObj "tuple" vs.toArray 0)).push (seqObj "list" #[] 0)).get? b=some o:=fun b o hb e =>
  IY _ (IY _ ((JK _ _ (Ne.symm hb)).trans e))
 have S:=hs _ kp;by_cases h2:vs.toArray.size < 2
 ·rw[if_pos h2,if_pos h2];refine IX (Jp ?_);rw[StateT.run_pure];refine IX (Jp ?_);dsimp only;refine IX (seqEpoch_at J rfl ?_);have ez:(vs.toArray.zip vs.toArray).map (·.2)=vs.toArray:=by
   apply Ll.mp
   rw[Mi,yK]
  refine IX (listUpdate_at J rfl ?_ (hsz2:=by rw[Array.size_map,Array.size_zip];simp;lia));simp only[bne_self_eq_false,Jb,if_false];refine Jp ?_
  have:=h vs (List.Perm.refl _) (by
   rw[JC]at h2
   match vs,h2 with
   | [],_=>exact List.Pairwise.nil
   | [x],_=>exact K_ _ _
   | _::_::_,h2=>exact absurd h2 (by simp))
  show P _ { s with heap:=Heap.update _ a (Obj.mapSeq fun _=>(vs.toArray.zip vs.toArray).map (·.2)) };rw[ez];exact this
 ·rw[if_neg h2,if_neg h2];have h2':2≤vs.length:=by rw[JC]at h2;lia
  refine IX (Kf (S.kind A h2' (fun U s'=>U=κ∧s'=_) ⟨rfl,rfl⟩) (fun U s' hk =>?_) fun _ _ x=>x.elim);obtain⟨rfl,rfl⟩:=hk;have LO:Tim.dQ prog w A E { s with heap:=((s.heap.update a (Obj.mapSeq fun _=>(#[]:Array Value))).push (seqObj "tuple" vs.toArray 0)).push (seqObj "list" #[] 0) } (vs.toArray.zip vs.toArray) U (fun p=>rnk lt (vs.map kf) (kf p.2)):=fun x y C hx hy hC=>by
   obtain⟨x1,x2⟩:=vL hx;obtain⟨y1,y2⟩:=vL hy;rw[x1,y1];refine S.less A x.2 y.2 C x2 y2 ?_;rw[← uF L (JX x2) (JX y2)];exact hC
  refine IX (Kf (Tim.yX LO (st:=SortSt.mk' U (vs.toArray.zip vs.toArray) #[] 7 none) (Q:=fun _ G=>Tim.SB (vs.toArray.zip vs.toArray) U G∧Tim.Seg (fun p=>rnk lt (vs.map kf) (kf p.2)) (arrOf G) 0 (vs.toArray.zip vs.toArray).size) ⟨Array.Perm.refl _,rfl,rfl⟩ rfl fun G B S'=>⟨B,S'⟩) ?_ fun _ _ e=>e);rintro⟨⟨⟩,G⟩ s' ⟨rfl,B,S'⟩;dsimp only at B S' ⊢;refine IX (seqEpoch_at J rfl ?_);have hp:((arrOf G).toList.map (·.2)).Perm vs:=by
   have:=(KC.mp B.perm).map (·.2)
   rw[yK]at this;exact this
  have Y:(arrOf G).map (·.2)=((arrOf G).toList.map (·.2)).toArray:=by
   apply Ll.mp
   rw[Mi]
  rw[Y];refine IX (listUpdate_at J rfl ?_ (Je _) (by rw[JC,hp.length_eq];lia));rw[B.ok];simp only[bne_self_eq_false,Jb,if_false];refine Jp (h _ hp ?_);rw[JN,Km];intro i j hi hj a0;rw[JI]at hi hj;have q:=S' i j (Je _) (KP a0) (by rw[← B.size];exact hj);rw[Tim.aw (Jf hi),Tim.aw (Jf hj)]at q;have m1:(arrOf G)[i].2∈vs:=hp.mem_iff.mp (JX (by simp));have m2:(arrOf G)[j].2∈vs:=hp.mem_iff.mp (JX (by simp))
  have:=uF L (ks:=vs.map kf) (JX m2) (JX m1)
  show lt (kf (arrOf G)[j].2) (kf (arrOf G)[i].2)=false;rw[← this];exact JT (by lia)
theorem xF (L:Lin lt)(G:wpAny (model prog w) A.in1 (collect (.ref r)) (fun vs B=>vs.length≤sizeLine∧∃ (κ:SortKind),(∀ h',(∀ b o,B.heap.get? b=some o→h'.get? b=some o)→G0 prog w vs kf lt κ { B with heap:=h' }) ∧
   ∀ out:LV9,out.Perm vs→out.Pairwise (fun x y=>lt (kf y) (kf x)=false)→Q (.ref B.heap.objs.size) { B with heap:=sortedHeap (B.heap.push (seqObj "list" vs.toArray 0)) B.heap.objs.size vs out.toArray }) E s) :
  wpAny (model prog w) A (call (.builtin "sorted") [.ref r]) Q E s:=by
 refine Calls.call_function_entry kind_sorted plain_sorted entry_sorted (args_sorted1 _) ?_;unfold Builtin.«sorted»;refine IX (m:=checkCount "sorted" 1 1 _) (Jp ?_)
 refine IX (Kf G (fun vs B ⟨sz,κ,O,U⟩ =>?_) fun _ _ e=>e);refine IX (wpAny_newList ?_ sz);have J:(B.heap.push (seqObj "list" vs.toArray 0)).get? B.heap.objs.size=some (seqObj "list" vs.toArray 0):=Ju _ rfl
 show wpAny _ _ _ _ _ { B with heap:=B.heap.push (seqObj "list" vs.toArray 0) }
 refine IX (wpAny_holding (wpAny_call_entry slot_list_sort ⟨_,J,rfl⟩ entry_list_sort (sx (kf:=kf) (κ:=κ) L J sz (fun h' kp=>O h' fun b o e =>?_) fun out o u=>⟨_,rfl,?_⟩) (args_list_sort _)))
 ·exact kp b o (JJ (Jo e)) (IY _ e)
 ·exact Jp ⟨_,rfl,U out o u⟩
end
theorem zo:Lin (fun (a b:List Nat)=>decide (a < b)):=by
 refine⟨fun a=>by simpa using KG a,fun a b c h1 h2 =>?_,fun a b h1 h2 =>?_⟩
 ·simp only[decide_eq_true_eq]at *;exact List.lt_trans h1 h2
 ·simp only[decide_eq_false_iff_not]at *;exact List.le_antisymm (List.not_lt.mp h2) (List.not_lt.mp h1)
theorem vf:Lin (fun (a b:Int)=>decide (a < b)):=by
 refine⟨fun a=>by simp,fun a b c h1 h2 =>?_,fun a b h1 h2 =>?_⟩
 ·simp only[decide_eq_true_eq]at *
  lia
 ·simp only[decide_eq_false_iff_not]at *
  lia
def n5 {α β:Type}[DecidableEq α](l:α→α→Bool)(m:β→β→Bool)(x y:α × β):Bool:=if x.1=y.1 then m x.2 y.2 else l x.1 y.1
theorem ve {α β:Type}[DecidableEq α]{l:α→α→Bool}{m:β→β→Bool}(B:Lin l)(G:Lin m):Lin (n5 l m):=by
 refine⟨fun x=>by unfold n5;rw[if_pos rfl];exact G.irr _,fun x y z h1 h2 =>?_,fun x y h1 h2 =>?_⟩
 ·unfold n5 at h1 h2 ⊢;by_cases e1:x.1=y.1
  ·rw[if_pos e1]at h1;by_cases e2:y.1=z.1
   ·rw[if_pos e2]at h2;rw[if_pos (e1.trans e2)];exact G.tr _ _ _ h1 h2
   ·rw[if_neg e2]at h2;rw[e1,if_neg e2];exact h2
  ·rw[if_neg e1]at h1;by_cases e2:y.1=z.1
   ·rw[← e2,if_neg e1];exact h1
   ·rw[if_neg e2]at h2;have J:=B.tr _ _ _ h1 h2;by_cases e3:x.1=z.1
    ·rw[e3,B.irr]at J;cases J
    ·rw[if_neg e3];exact J
 ·unfold n5 at h1 h2;by_cases e1:x.1=y.1
  ·rw[if_pos e1]at h1;rw[if_pos e1.symm]at h2;exact Prod.ext e1 (G.tot _ _ h1 h2)
  ·rw[if_neg e1]at h1;rw[if_neg (Ne.symm e1)]at h2;exact absurd (B.tot _ _ h1 h2) e1
def lF:Value→Addr
 | .ref a=>a
 | _=>0
section
theorem Inv.sortd {pins:Pn9}{σ:St}{H:Hp}{s:Sh9}{a:Addr}{its out:LV9}{us:List V}(I:Inv X pins σ H s)(G:us.length≤sizeLine)(J:br us out):
  ∃ S,H S=none∧Inv X pins σ (upd H S (.lst us)) { s with heap:=sortedHeap (((s.heap.push (seqObj "list" #[] 0)).update s.heap.objs.size (Obj.mapSeq (· ++ its.toArray))).push (seqObj "list" its.toArray 0)) ((s.heap.push (seqObj "list" #[] 0)).update s.heap.objs.size (Obj.mapSeq (· ++ its.toArray))).objs.size its out.toArray } ∧
   S=((s.heap.push (seqObj "list" #[] 0)).update s.heap.objs.size (Obj.mapSeq (· ++ its.toArray))).objs.size:=by
 have kp:∀ b o,s.heap.get? b=some o→((s.heap.push (seqObj "list" #[] 0)).update s.heap.objs.size (Obj.mapSeq (· ++ its.toArray))).get? b=some o:=fun b o e =>
  (JK _ _ (Ne.symm (JJ (Jo e)))).trans (IY _ e)
 have B:Inv X pins σ H { s with heap:=(s.heap.push (seqObj "list" #[] 0)).update s.heap.objs.size (Obj.mapSeq (· ++ its.toArray)) }:=I.kept (t':=s.toks) kp
 obtain⟨O,U⟩:=rZ (h:=(s.heap.push (seqObj "list" #[] 0)).update s.heap.objs.size (Obj.mapSeq (· ++ its.toArray))) (vs:=its) (out:=out.toArray)
 refine⟨_,B.hok.fresh (I_ _),B.laid (t':=s.toks) (fun b o e=>oU e) (I_ _) ⟨G,out,O,J,U⟩,rfl⟩
end
abbrev Pky:Type:=List Nat × Int × List Nat
def pkV (x:Str):V→Pky
 | .int i=>(x.cps.toList,i,[])
 | .str y=>(x.cps.toList,0,y.cps.toList)
 | _=>(x.cps.toList,0,[])
def pkH (H:Hp)(a:Addr):Pky:=match H a with
 | some (.tup [.str x,v])=>pkV x v
 | _=>([],0,[])
def ltP:Pky→Pky→Bool:=n5 (fun a b=>decide (a < b)) (n5 (fun a b=>decide (a < b)) (fun a b=>decide (a < b)))
theorem zt:Lin ltP:=ve zo (ve vf zo)
def Snd (t:Bool)(v:V):Prop:=if t=true then ∃ y,v=.str y else ∃ i,v=.int i
section
variable {w:Wd9}
theorem zW {x y:Str}(h:x.cps.toList=y.cps.toList):x=y:=by
 cases x;cases y;simp only[Str.mk.injEq];exact Ll.mp h
theorem AX {x y:Addr}{a b:Str}{p q:V}{O U:LV9}{t:Bool}{C:Bool→Sh9→Prop}(Y:Snd t p)(hq:Snd t q)(ix:IsTup s.heap x O.toArray)(iy:IsTup s.heap y U.toArray)(B:br [.str a,p] O)(G:br [.str b,q] U)
  (h:C (ltP (pkV a p) (pkV b q)) s):wpAny (model prog w) A (keyLt' (tuples' true) (.ref x) (.ref y)) C (fun _ _=>False) s:=by
 obtain⟨ox,hx,_,n,dx⟩:=ix;obtain⟨oy,hy,_,m,dy⟩:=iy;cases B with
 | cons r1 B =>
 cases B with
 | cons r2 B =>
 cases B;cases G with
 | cons r3 G =>
 cases G with
 | cons r4 G =>
 cases G;obtain⟨t1,rfl⟩:=r1;obtain⟨t3,rfl⟩:=r3;refine kat_lt hx dx hy dy (kat_cons (wpAny_eqBool_str (kat_go (fun e=>kat_yes ?_) fun e=>kat_no ?_)))
 ·have e':a=b:=by simpa using e
  subst e';cases t with
  | true =>
   obtain⟨c,rfl⟩:=Y;obtain⟨d,rfl⟩:=hq;obtain⟨t2,rfl⟩:=r2;obtain⟨t4,rfl⟩:=r4;have J:ltP (pkV a (.str c)) (pkV a (.str d))=decide (c.cps.toList < d.cps.toList):=by
    simp only[ltP,n5,pkV,if_true];exact decide_eq_decide.mpr Iff.rfl
   rw[J]at h;refine kat_cons (wpAny_eqBool_str (kat_go (fun e=>kat_yes (kat_nil ?_)) fun e=>kat_no (kat_one _ _ (PySem.P.lt_str ?_))))
   ·have e':c=d:=by simpa using e
    subst e';rw[JT (KG _)]at h;simpa using h
   ·exact h
  | false =>
   obtain⟨c,rfl⟩:=Y;obtain⟨d,rfl⟩:=hq;obtain⟨t2,rfl⟩:=r2;obtain⟨t4,rfl⟩:=r4;have J:ltP (pkV a (.int c)) (pkV a (.int d))=decide (c < d):=by
    simp only[ltP,n5,pkV,if_true];by_cases e:c=d
    ·subst e;simp
    ·exact (if_neg e).trans (decide_eq_decide.mpr Iff.rfl)
   rw[J]at h;refine kat_cons (wpAny_eqBool_int (kat_go (fun e=>kat_yes (kat_nil ?_)) fun e=>kat_no (kat_one _ _ (PySem.P.lt_int ?_))))
   ·have e':c=d:=by simpa using e
    subst e';simpa using h
   ·exact h
 ·have e':¬ a=b:=by simpa using e
  show wpAny _ _ (oneLt' true _ _) _ _ _;refine oneLt_str ?_;have J:ltP (pkV a p) (pkV b q)=decide (a.cps.toList < b.cps.toList):=by
   have f1:∀ (x:Str) (v:V),(pkV x v).1=x.cps.toList:=fun x v=>by cases v<;>rfl
   unfold ltP n5;rw[f1,f1,if_neg fun e=>e' (zW e)]
  rw[← J];exact h
def Prs (H:Hp)(t:Bool)(as:List Addr):Prop:=∀ b∈as,∃ x v,H b=some (.tup [.str x,v])∧Snd t v
theorem Ea (J:Prs H t as)(B:∀ b x v,H b=some (.tup [.str x,v])→∃ its:LV9,br [.str x,v] its∧IsTup s.heap b its.toArray):
  G0 prog w (as.map Value.ref) (fun v=>pkH H (lF v)) ltP (tuples' true) s:=by
 refine⟨fun A h2 Q q =>?_,fun A x y C hx hy q =>?_⟩
 ·have kt:∀ (as:List Addr),Prs H t as→∃ fs:LV9,KatTups s.heap (as.map Value.ref) fs∧fs.length=as.length∧∀ v∈fs,∃ (k:Str) (t:Tok),v=.str k t:=by
   intro as
   induction as with
   | nil=>intro _;exact⟨[],KatTups.nil,rfl,fun v G=>nomatch G⟩
   | cons a as ih =>
    intro J;obtain⟨x,v,e,_⟩:=J a (by simp);obtain⟨its,r,o,ho,hc,n,hd⟩:=B a x v e;obtain⟨fs,O,U,Y⟩:=ih fun b hb=>J b (by simp[hb]);cases r with
    | cons r1 r =>
     obtain⟨tk,rfl⟩:=r1;refine⟨.str x tk::fs,KatTups.cons ho hc hd (by simp) O,by simp[U],fun v G =>?_⟩;rcases Jr.mp G with rfl|G
     ·exact⟨x,tk,rfl⟩
     ·exact Y v G
  obtain⟨fs,O,U,Y⟩:=kt as J;refine kat_kind (T:=.type "str") O (by rw[U];rw[I0]at h2;lia) (fun v G =>?_) (by decide) q
  obtain⟨k,t,rfl⟩:=Y v G;exact Looks.now
 ·obtain⟨a,ha,rfl⟩:=I9.mp hx;obtain⟨b,hb,rfl⟩:=I9.mp hy;obtain⟨x,v,e1,s1⟩:=J a ha;obtain⟨y,u,e2,s2⟩:=J b hb;obtain⟨ix,r1,i1⟩:=B a x v e1;obtain⟨iy,r2,i2⟩:=B b y u e2;refine AX s1 s2 i1 i2 r1 r2 ?_;have O:pkH H (lF (.ref a))=pkV x v:=by show pkH H a=_;unfold pkH;rw[e1]
  have U:pkH H (lF (.ref b))=pkV y u:=by show pkH H b=_;unfold pkH;rw[e2]
  rw[← O,← U];exact q
end
section
theorem nB:∀ {as:List Addr} {its:LV9},br (as.map V.ref) its→its=as.map Value.ref
 | [],its,r=>by cases r;rfl
 | a::as,its,r=>by
  cases r with
  | cons h t =>
   rw[nB t,show _=Value.ref a from h];rfl
theorem sY:∀ (as:List Addr),br (as.map V.ref) (as.map Value.ref)
 | []=>.nil
 | _::as=>.cons rfl (sY as)
theorem yC (hc:X.calm=true):gY X (.builtin "sorted") (fun xs H Q=>∃ (a:Addr) (t:Bool) (as:List Addr),xs=[.ref a]∧SqL X.K H a (as.map V.ref)∧Prs H t as ∧
  ∀ (S:Addr) (as':List Addr),H S=none→as'.Perm as→as'.Pairwise (fun x y=>ltP (pkH H y) (pkH H x)=false)→Q (.ref S) (upd H S (.lst (as'.map V.ref)))):=by
 intro pins s σ H xs us Q I r h;obtain⟨a,t,as,rfl,U,Y,q⟩:=h;obtain⟨u,rfl,ru⟩:=jx r;cases ru;obtain⟨its,O,pl,sz⟩:=I.list U;have sz':its.length≤sizeLine:=by rw[← O.length];exact sz
 obtain rfl:=nB O;refine xF (kf:=fun v=>pkH H (lF v)) zt (collect_list pl.isList ?_ sz');have G:∀ b o,s.heap.get? b=some o→((s.heap.push (seqObj "list" #[] 0)).update s.heap.objs.size (Obj.mapSeq (· ++ (as.map Value.ref).toArray))).get? b=some o:=fun b o e =>
  (JK _ _ (Ne.symm (JJ (Jo e)))).trans (IY _ e)
 refine⟨sz',tuples' true,fun h' kp=>Ea (t:=t) Y fun b x v e =>?_,fun out J hw =>?_⟩
 ·obtain⟨_,its,r,it⟩:=I.hok b _ e;exact⟨its,r,it.keeps fun c o e=>kp c o (G c o e)⟩
 have ro:out=(out.map lF).map Value.ref:=by
  rw[JE];refine (My out).symm.trans (Jk fun v hv =>?_);obtain⟨b,_,rfl⟩:=I9.mp (J.mem_iff.mp hv);rfl
 have pm:(out.map lF).Perm as:=by
  have:=J.map lF
  rw[JE]at this;have e:as.map (lF ∘ Value.ref)=as:=(Jk fun b _=>rfl).trans (My as);rw[e]at this;exact this
 have B:br ((out.map lF).map V.ref) out:=by
  have:=sY (out.map lF)
  rw[← ro]at this;exact this
 obtain⟨S,h1,h2,h3⟩:=I.sortd (a:=a) (its:=as.map Value.ref) (by rw[B.length,J.length_eq];exact sz') B;subst h3;refine⟨.ref _,_,h2,rfl,q _ _ h1 pm ?_⟩;rw[JN];exact hw
end
theorem u9:typeLookup (.type "list") "keys" = pure none:=by rw[typeLookup_type,builtinLookup_eq_fast];kernel_rfl
theorem tM:entryFor table "dict.update.loop" = some Builtin.«dict.update.loop» := entryFor_of_tree (by kernel_rfl)
theorem kH:plainId "dict.update.loop" = true:=by decide +kernel
section
variable {w:Wd9}{E:EV9}{a:Addr}{o:Obj}{xs:Array Value}{k:Nat}
theorem Bu 
  (Y:s.heap.get? a=some o) (hc:o.cls=.type "list") (B:o.data=.seq xs k) (hd:o.dict=none) (G:typeLookup (.type "list") name=pure none) (J:(["__module__","__name__","__qualname__","__doc__","__annotations__"]:List Str).contains name=false) (hA:A.handled=none)
  (h:∀ h' tk e,Heap.NewExcOf s.heap h' e "AttributeError" → E (.ref e) { s with heap:=h',toks:=tk }) (hsz:name.length + 100≤sizeLine:=by size_fits) :
  wpAny (model prog w) A (getAttrBy (.ref a) (.str name u) false) Q E s:=by
 obtain⟨c,a0,dat,sl⟩:=o;simp only at hc B hd;subst hc B hd;obtain⟨hp,g,d,tk,os⟩:=s;have hT:∀ O,(⟨hp,g,d,O,os⟩:Sh9).TypeIs (.ref a) "list" := fun _=>⟨_,Y,rfl⟩
 have f1:=sub_AttributeError;have f3:=PySem.F.slot_list_getattribute.lookup;have f4:=PySem.F.slot_list_getattribute.bind (.ref a);have f5:=am_list_getattr_none;unfold getAttrBy
 repeat (any_goals (first | assumption | exact hT _ | ((with_reducible show wpAny _ _ (call (Value.builtin "list.__getattribute__") _ _) _ _ _);refine call_meets PySem.F.slot_list_getattribute (hT _) am_entry_list_getattribute (PySem.F.args_list_getattribute_2 _ _) (meets_getattribute_miss_list a xs k sl name _ G J hsz) ⟨Y,hA,fun h' O e U =>?_⟩) | wp_step))
 all_goals (try (obtain⟨t',u',he⟩:=U.there))
 all_goals (try (show wpAny _ _ (getattributeRaised _ _ _ _ _ _ _) _ _ _;unfold getattributeRaised))
 repeat (any_goals (first | assumption | wp_step))
 exact h _ _ _ U.of
theorem ER (G:s.heap.get? a=some o)(J:o.cls=.type "list")(B:o.data=.seq xs k)(O:o.dict=none)(U:A.handled=none)
  (h:∀ h' tk,(∀ b u,s.heap.get? b=some u→h'.get? b=some u)→Q none { s with heap:=h',toks:=tk }):wpAny (model prog w) A (getAttr? (.ref a) "keys") Q E s:=by
 unfold getAttr? getAttrBy?;refine IX (wpAny_mkText (IX (wpAny_attempt (Bu (s:={ s with toks:=s.toks + 1 }) G J B O u9 (by decide +kernel) U (fun h' tk e x =>?_) (by rw[sizeLine_eq];decide +kernel)))));obtain⟨Y,vs,e1,e2,_⟩:=x.there;have hT:({ s with heap:=h',toks:=tk }:Sh9).TypeIs (.ref e) "AttributeError" := ⟨Y,e1,e2⟩
 show wpAny _ _ (isInstance (.ref e) (.type "AttributeError") >>= _) _ _ _
 refine IX (wpAny_isInstance hT sub_AttributeError ?_);simp only[if_true];exact Jp (h h' tk x.keeps)
def G2 {K:Type}[DecidableEq K](knd:KeyKind prog w K)(h:Heap)(items:Array Value)(ps:List (K × Value)):Prop :=
 items.size=ps.length∧∀ (i:Nat) (v:Value),items[i]? = some v→∃ (a:Addr) (o:Obj) (n:Nat) (key x:Value) (k:K),v=.ref a∧h.get? a=some o∧o.cls=.type "tuple" ∧ o.data=.seq #[key,x] n∧knd.is k key=true∧ps[i]? = some (k,x)
theorem GN {K:Type}[DecidableEq K]{knd:KeyKind prog w K}{R:Result→Sh9→Prop}{d it l:Addr}{items:Array Value}{ps:List (K × Value)}(hh:A.handled=none)(b1:d≠l)(O:d≠it)(a0:l≠it)(nd:(ps.map (·.1)).Nodup)(hsz:ps.length≤sizeLine):
  ∀ (m i:Nat) (s:Sh9) (tk:Tok),items.size - i=m→i≤items.size→s.heap.IsListIter it l i→s.heap.IsList l items→G2 knd s.heap items ps→s.heap.DictOf knd d (ps.take i) →
   (∀ (j:Nat) (b:Addr),items[j]? = some (.ref b)→b≠d∧b≠it) →
   (∀ h' B,h'.DictOf knd d ps→(∀ b u,b≠d→b≠it→s.heap.get? b=some u→h'.get? b=some u)→R (.ok (.ret .none)) { s with heap:=h',toks:=B }) →
   codeAny (model prog w) A (.builtin "dict.update.loop" ⟨[.ref d,.ref it,.int (i:Int) tk,.none],[]⟩) R s:=by
 intro m
 induction m with
 | zero =>
  intro i s tk hm hi U hl hP hd G hR;have e:i=items.size:=by lia
  subst e;refine codeAny_builtin tM ?_;rw[Around.under_plainId kH _];show wpAny _ A.in1 (pyNext (.ref it) >>= _) _ _ s;refine IX ((Walks.list (A:=A.in1) hh it l a0 items).done s _ _ ⟨U,hl⟩ fun h' B Y =>?_);show wpAny _ _ (Builtin.Dict.addKeywords d [] >>= fun _=>ret Value.none) _ _ _;refine IX (Jp (Jp (hR h' B ?_ fun b u _ hb e=>Y b u (by simpa using hb) e)));have e1:ps.take items.size=ps:=by rw[hP.1];exact Kq
  rw[e1]at hd;obtain⟨o,es,ep,ho,r⟩:=hd;exact⟨o,es,ep,Y d o (by simpa using O) ho,r⟩
 | succ m ih =>
  intro i s tk hm hi U hl hP hd G hR;have a1:i < items.size:=by lia
  refine codeAny_builtin tM ?_;rw[Around.under_plainId kH _];show wpAny _ A.in1 (pyNext (.ref it) >>= _) _ _ s;refine IX ((Walks.list (A:=A.in1) hh it l a0 items).item i s _ _ a1 ⟨U,hl⟩ fun v h' B hv a2 Y =>?_);obtain⟨b,o,n,key,x,k,rfl,hb,hc,a3,hk,a4⟩:=hP.2 i v hv;have b2:=G i b hv;have hb':h'.get? b=some o:=Y b o (by simpa using b2.2) hb;have hd':h'.DictOf knd d (ps.take i):=by
   obtain⟨o,es,ep,ho,r⟩:=hd;exact⟨o,es,ep,Y d o (by simpa using O) ho,r⟩
  dsimp only;refine IX (wpAny_holding (IX (wpAny_tryCatch ?_)));unfold Builtin.Dict.pairItems;refine IX (wpAny_typeOf (T := "tuple") ⟨o,hb',hc⟩ ?_)
  rw[if_pos (by decide)];unfold seqItems?;refine IX (IX (wpAny_load hb' ?_));rw[a3];refine Jp (Jp ?_);show wpAny _ _ (holding [key,x] (dictSet d key x)) _ _ _;have b4:i < ps.length:=(IZ.mp a4).1;have et:ps.take (i + 1)=ps.take i++[(k,x)]:=by rw[Jw,a4];rfl
  refine wpAny_holding (wpAny_dictSet_pairs (s:={ s with heap:=h',toks:=B }) hk hd' (fun h2 a5 sb =>?_) (by rw[JO];lia));have ea:stored (ps.take i) k x=ps.take (i + 1):=by
   unfold stored;rw[if_neg,et];intro h;rw[List.any_eq_true]at h;obtain⟨q,hq,e⟩:=h;have e':q.1=k:=by simpa using e
   have a6:((ps.take (i + 1)).map (·.1)).Nodup:=by
    have:=nd.sublist ((L9 (i + 1) ps).map (·.1))
    exact this
   rw[et,Jn,K3]at a6;exact a6.2.2 q.1 (JX hq) k (by simp) e'
  rw[ea]at a5;have J:∀ b u,b≠d→h'.get? b=some u→h2.get? b=some u:=fun b u hb e=>(sb.2 b hb).trans e;refine Jp ⟨plainId_quiet kH _,?_⟩;have ei:rawInt ((i:Int) + 1)=Value.int ((i + 1:Nat):Int) 0:=rfl;rw[ei];refine ih (i + 1) { s with heap:=h2,toks:=B + 1 } 0 (by lia) a1 ?_ ?_ ?_ a5 G fun h3 b3 q1 q2=>hR h3 b3 q1 fun b u a7 a8 e=>q2 b u a7 a8 (J b u a7 (Y b u (by simpa using a8) e))
  ·exact a2.1.at fun o e=>J it o (Ne.symm O) e
  ·exact a2.2.at fun o e=>J l o (Ne.symm b1) e
  ·refine⟨hP.1,fun j v a9 =>?_⟩;obtain⟨b',o',n',b0,x',k',e1,e2,e3,e4,e5,e6⟩:=hP.2 j v a9;subst e1;have hbn':=G j b' a9;exact⟨b',o',n',b0,x',k',rfl,J b' o' hbn'.1 (Y b' o' (by simpa using hbn'.2) e2),e3,e4,e5,e6⟩
end
section
variable {w:Wd9}{E:EV9}
theorem pe {K:Type}[DecidableEq K]{knd:KeyKind prog w K}{l:Addr}{items:Array Value}{ps:List (K × Value)}{Q:EV9}(hh:A.handled=none)(hl:PlainL s.heap l items)(hP:G2 knd s.heap items ps)(nd:(ps.map (·.1)).Nodup)(hsz:ps.length≤sizeLine)
  (h:∀ h' tk,h'.DictOf knd s.heap.objs.size ps→(∀ b u,s.heap.get? b=some u→h'.get? b=some u)→Q (.ref s.heap.objs.size) { s with heap:=h',toks:=tk }) :
  wpAny (model prog w) A (call (.type "dict") [.ref l]) Q E s:=by
 refine callType_codes (Q₁:=fun a0 s₁=>a0=.ref s.heap.objs.size∧s₁={ s with heap:=s.heap.push { cls:=.type "dict",data:=.dict #[] } }) PySem.F.kt_called_dict (PySem.F.kt_typeCall_dict_1 _) PySem.F.entry_dict_init (kt_code_dict_new _ ⟨rfl,rfl⟩) ?_
 rintro a0 s₁ ⟨rfl,rfl⟩;have B:(s.heap.push { cls:=.type "dict",data:=.dict #[] }).DictOf knd s.heap.objs.size []:=Heap.DictOf.new s.heap
 obtain⟨o,n,Y,hc,a4,J⟩:=hl;have a1:l < s.heap.objs.size:=Jo Y;have ho':(s.heap.push { cls:=.type "dict",data:=.dict #[] }).get? l=some o:=IY _ Y
 refine⟨B.typeIs,PySem.F.args_dict_init_2 _ _,?_⟩;unfold Builtin.«dict.__init__»;refine IX ?_;unfold Builtin.Dict.selfAndRest;refine IX (wpAny_notOrdered_dict B.typeIs ?_);show wpAny _ _ (pure (s.heap.objs.size,[Value.ref l])) _ _ _;refine Jp ?_;show wpAny _ _ (Builtin.Dict.updateFrom "dict.__init__" s.heap.objs.size (.ref l) [] .none) _ _ _
 unfold Builtin.Dict.updateFrom;refine IX (wpAny_typeOf (T := "list") ⟨o,ho',hc⟩ ?_)
 rw[if_pos (by decide)];refine IX (ER ho' hc J a4 hh fun h1 a5 k1 =>?_);dsimp only at k1 ⊢;rw[if_pos (show (none:OV9).isNone=true from rfl)];refine IX (wpAny_rule ?_);have a2:h1.IsList l items:=⟨o,k1 l o ho',hc,n,J⟩;refine IX (wpAny_pyIter_list a2 ?_);dsimp only;have a3:h1.DictOf knd s.heap.objs.size []:=by
  obtain⟨o,es,ep,Y,r⟩:=B;exact⟨o,es,ep,k1 _ o Y,r⟩
 have G:s.heap.objs.size < h1.objs.size:=by
  obtain⟨o,es,ep,Y,r⟩:=a3;exact Jo Y
 refine Jp ⟨plainId_quiet kH _,?_⟩;have e0:rawInt 0=Value.int ((0:Nat):Int) 0:=rfl;rw[e0];have kp:∀ b u,s.heap.get? b=some u→h1.get? b=some u:=fun b u e=>k1 b u (IY _ e);have a6:(h1.push { cls:=.type "list_iterator",data:=.fields #[.ref l,.int 0 0] }).IsListIter h1.objs.size l 0:=⟨_,Ju _ rfl,rfl,rfl⟩
 refine GN (A:=A.in1) (knd:=knd) (l:=l) (items:=items) (ps:=ps) (show A.in1.handled=none from hh) (KU a1) (JJ G) (JJ (LG a1 G)) nd hsz items.size 0 { s with heap:=h1.push { cls:=.type "list_iterator",data:=.fields #[.ref l,.int 0 0] },toks:=a5 } 0 (by rfl) (Je _) a6 ?_ ?_ ?_ ?_ fun h2 a7 q1 q2 =>?_
 ·obtain⟨o',U,r⟩:=a2;exact⟨o',IY _ U,r⟩
 ·refine⟨hP.1,fun j v hv =>?_⟩;obtain⟨b',o',n',O,x',k',e1,e2,e3,e4,e5,e6⟩:=hP.2 j v hv;exact⟨b',o',n',O,x',k',e1,IY _ (kp _ _ e2),e3,e4,e5,e6⟩
 ·obtain⟨o',es,ep,U,r⟩:=a3;exact⟨o',es,ep,IY _ U,r⟩
 ·intro j b hv;obtain⟨b',o',n',O,x',k',e1,e2,_⟩:=hP.2 j _ hv;cases e1
  have:=Jo e2
  exact⟨JJ this,JJ (LG this G)⟩
 ·exact⟨rfl,h h2 a7 q1 fun b u e=>q2 b u (JJ (Jo e)) (JJ (LG (Jo e) G)) (IY _ (kp b u e))⟩
end
abbrev nn (H:Hp):List Addr→LK9→Prop:=Paired fun a kv=>H a=some (.tup [kV kv.1,kv.2])
section
theorem rH (hc:X.calm=true):gY X (.type "dict") (fun xs H Q=>∃ (a:Addr) (as:List Addr) (kvs:LK9),xs=[.ref a]∧SqL X.K H a (as.map V.ref)∧nn H as kvs∧(kvs.map (·.1)).Nodup∧Nw H (.dK kvs) fun p H=>Q (.ref p) H):=by
 intro pins s σ H xs us Q I r h;obtain⟨a,as,kvs,rfl,hS,hA,nd,q⟩:=h;obtain⟨u,rfl,ru⟩:=jx r;cases ru;obtain⟨its,rv,pl,sz⟩:=I.list hS;obtain rfl:=nB rv;have key:∀ (as:List Addr) (kvs:LK9),nn H as kvs→∃ ps:List (Key × Value),KV kvs ps∧G2 (aX X.prog X.w) s.heap (as.map Value.ref).toArray ps:=by
  intro as
  induction as with
  | nil =>
   intro kvs h;cases h;exact⟨[],.nil,rfl,fun i v O=>by simp at O⟩
  | cons b as ih =>
   intro kvs h;cases h with
   | @cons _ kv _ kvs hb t =>
    obtain⟨ps,k1,k2,k3⟩:=ih kvs t;obtain⟨_,its,G,o,ho,Y,n,J⟩:=I.hok b _ hb;cases G with
    | cons r1 G=>cases G with
     | cons r2 G =>
      cases G
      rename_i B U
      refine⟨(kv.1,U)::ps,.cons ⟨rfl,r2⟩ k1,?_,fun i v O =>?_⟩
      ·rw[JC,I0]at k2 ⊢;rw[Jv,Jv,k2]
      ·cases i with
       | zero =>
        have e:Value.ref b=v:=by simpa using O
        exact⟨b,o,n,B,U,kv.1,e.symm,ho,Y,by rw[J],gU r1,rfl⟩
       | succ i =>
        obtain⟨b',o',n',B,U,k',e1,e2,e3,e4,e5,e6⟩:=k3 i v (by simpa using O);exact⟨b',o',n',B,U,k',e1,e2,e3,e4,e5,by simpa using e6⟩
 obtain⟨ps,k1,k2⟩:=key as kvs hA;have lk:kvs.length=ps.length:=KV.length k1;have a0:ps.length≤sizeLine:=by
  have:=k2.1
  rw[JC,I0]at this;rw[I0]at sz
  lia
 have ek:ps.map (·.1)=kvs.map (·.1):=by
  have:∀ {kvs:LK9} {ps:List (Key × Value)},KV kvs ps→ps.map (·.1)=kvs.map (·.1):=fun {kvs}=>by
   induction kvs with
   | nil=>intro ps h;cases h;rfl
   | cons a kvs ih =>
    intro ps h;cases h with
    | cons r t=>rw[Jl,Jl,ih t,r.1]
  exact this k1
 refine pe (knd:=aX X.prog X.w) (ps:=ps) (I.ok.hd hc) pl k2 (by rw[ek];exact nd) a0 fun h' tk hd kp =>?_;refine⟨.ref s.heap.objs.size,upd H s.heap.objs.size (.dK kvs),I.laid (t':=tk) kp (I_ _) ⟨by lia,?_,ps,k1,hd⟩,rfl,q _ (I.hok.fresh (I_ _))⟩
 have:=I.big
 cases e:(s.heap.objs.size == sysModules) with
 | false=>rfl
 | true =>
  have e':s.heap.objs.size=sysModules:=by simpa using e
  rw[e']at this;exact absurd this (KO _)
theorem AJ (B:X.A.units + 1 < cLine):OpR X (compareOp .NotIn) (fun x y H Q=>∃ (a:Addr) (o:OW9),y=.ref a∧ot H a x o∧Q (.bl (!o.isSome)) H):=by
 intro pins s σ H x y v u Q I G J h;obtain⟨a,o,rfl,g,q⟩:=h;cases J;exact Ff B I g G fun s' O=>⟨.bl _,H,O,rfl,q⟩
end
end L2
namespace L2
open PySem PySem.Spec PySem.Calls PyProof.Rows
variable {H:Hp}{X:Cx}{s:Sh9}{pos:Pos}{prog:Pg9}{A:Around}{K:Frag}
def Itk (d:Addr)(ob:Obj)(kvs:LK9):It :=
 ⟨fun i H=>H d=some (.frz ob (.dK kvs))∧i < kvs.length,fun i H x H'=>H'=H∧∃ k v,kvs[i]? = some (k,v)∧x=kV k,fun i H=>H d=some (.frz ob (.dK kvs))∧kvs.length≤i⟩
theorem Iy (h:mP k v=true):bz (kV k) v:=by
 rcases bN h with⟨i,t,rfl,rfl⟩|⟨x,t,rfl,rfl⟩
 ·exact⟨t,rfl⟩
 ·exact⟨t,rfl⟩
theorem HG {κ:Type}{kvs:List (κ × V)}{vs:List (κ × Value)}(h:KV kvs vs):∀ {i:Nat} {k:κ} {x:Value},vs[i]? = some (k,x)→∃ v,kvs[i]? = some (k,v)∧bz v x:=by
 have h':Paired _ kvs vs:=h
 clear h
 induction h' with
 | nil=>intro i k x e;cases e
 | @cons a b as bs h _ ih =>
  intro i k x e;cases i with
  | zero=>cases e;exact⟨a.2,Jz some (Prod.ext h.1 rfl),h.2⟩
  | succ i=>exact ih e
theorem Gu {κ:Type}{kvs:List (κ × V)}{vs:List (κ × Value)}(h:KV kvs vs){i:Nat}{k:κ}{x:Value}(e:vs[i]? = some (k,x)):∃ v,kvs[i]? = some (k,v) :=
 (HG h e).imp fun _ h=>h.1
theorem Ah {P:Pg9}{w:Wd9}{K:Frag}{tg:Expr}{h0:Heap}{d it:Addr}{ob:Obj}{kvs:LK9}{vs:List (Key × Value)}{ep:Nat}(Y:KV kvs vs)(hD:h0.DictAt (aX P w) d vs ep)(G:h0.get? d=some ob)(a0:d≠it):
  yG P w K tg (Itk d ob kvs) [it] it (fun i h=>h.IsKeyIter it d i vs.length ep) where
 mem:=by simp
 obj:=fun i h st b B=>by
  have e:b=it:=by simpa using B
  subst e;obtain⟨o,e,c,dd⟩:=st;exact⟨o,e,fun v z=>by rw[dd]at z;cases z⟩
 keep:=fun i h h' st k=>st.at fun o e=>k it (by simp) o e
 item:=by
  intro X hP hw hK hc i pins s σ H E I U st hg;subst hP hw hK;obtain⟨f0,f1,f2,f3,f4,f5⟩:=U it (by simp);obtain⟨hd,hi⟩:=hg;have hl:kvs.length=vs.length:=Paired.length Y;have hD':s.heap.DictAt (aX X.prog X.w) d vs ep:=hD.at' fun o e=>by
   rw[G]at e;cases e;exact (I.hok d _ hd).1
  obtain⟨⟨k,x⟩,hx⟩:∃ p,vs[i]? = some p:=⟨vs[i],by simp[← hl,hi]⟩;refine wpAny_pyNext_dict_item st hD' hx fun key h' J O sb =>?_;have I1:Inv X pins σ H { s with heap:=h' }:=I.turned (t':=s.toks) (fun b o B e=>(sb.2 b B).trans e) f0 f1 f3 f4 f5;obtain⟨o,e,c,dd⟩:=id O;obtain⟨v,hv⟩:=Gu Y hx;exact⟨key,rfl,wJ (s:={ s with heap:=h' }) e c dd (by decide) ⟨kV k,H,I1,Iy J,⟨rfl,k,v,hv,rfl⟩,O,fun b B=>(U b B).1⟩⟩
 done:=by
  intro X hP hw hK hc i pins s σ H E I U st hg;subst hP hw hK;obtain⟨f0,f1,f2,f3,f4,f5⟩:=U it (by simp);obtain⟨hd,hi⟩:=hg;have hl:kvs.length=vs.length:=Paired.length Y;have hD':s.heap.DictAt (aX X.prog X.w) d vs ep:=hD.at' fun o e=>by
   rw[G]at e;cases e;exact (I.hok d _ hd).1
  exact wpAny_pyNext_dict_end (I.ok.hd hc) st hD' (by rw[K0];lia) fun h' eb=>⟨rfl,I.turned (t':=s.toks) (fun b o B e=>eb b o B e) f0 f1 f3 f4 f5⟩
 self:=fun _ _ _ _ _ st h=>wpAny_pyIter_keyiter st h
section
variable {tg:Expr}
abbrev HQ (tl:TE):TI:=fun σ H R=>tl σ H fun x H1=>∃ d kvs,x=.ref d∧H1 d=some (.dK kvs)∧∀ ob,R (Itk d ob kvs) (upd H1 d (.frz ob (.dK kvs)))
theorem Inv.frozen (I:Inv X pins σ H s)(e:H d=some (.dK kvs))(G:s.heap.get? d=some ob):Inv X pins σ (upd H d (.frz ob (.dK kvs))) s:=by
 have B:∀ b o,H b=some o→b≠d→upd H d (.frz ob (.dK kvs)) b=some o:=fun b o q n=>by rw[aG n];exact q
 refine I.un (t':=s.toks) ⟨fun b o q _ _ _=>q,fun b o q _ _ _=>⟨o.slots,q⟩,fun b o q n _ =>?_,fun b o q _=>⟨o,q⟩,fun b xs q=>B b _ q fun z =>?_,fun b o u q=>B b _ q fun z =>?_,fun b ps q=>⟨#[],?_⟩⟩ fun b u q =>?_
 ·rw[aG fun z=>by rw[z,e]at n;cases n];exact n
 ·rw[z,e]at q;cases q
 ·rw[z,e]at q;cases q
 ·rw[B b _ q fun z=>by rw[z,e]at q;cases q];simp
 ·by_cases hb:b=d
  ·subst hb;rw[ah]at q;cases q;refine⟨G,?_⟩;exact (I.hok b _ e).stay (fun _ _ _ r=>r) (fun c r=>B c _ r fun z=>by rw[z,e]at r;cases r) fun c xs r=>B c _ r fun z=>by rw[z,e]at r;cases r
  ·rw[aG hb]at q;exact (I.hok b u q).stay (fun _ _ _ r=>r) (fun c r=>B c _ r fun z=>by rw[z,e]at r;cases r) fun c xs r=>B c _ r fun z=>by rw[z,e]at r;cases r
theorem EB (hl:PE X l tl):PI X tg l (HQ tl):=by
 intro pins s σ H R I h;refine thn (hl pins s σ H _ I h) fun v B ⟨x,H1,Y,r1,q1⟩ =>?_;obtain⟨d,kvs,e,hd,q⟩:=q1;subst e;cases r1;obtain⟨_,hs,vs,kv,J⟩:=Y.hok d _ hd;obtain⟨o,es,ep,G,r⟩:=id J;have hD:B.heap.DictAt (aX X.prog X.w) d vs ep:=⟨o,es,G,r⟩;refine wpAny_pyIter_dict hs hD ?_;have O:=Y.frozen hd G;have U:d < B.heap.objs.size:=Jo G;refine⟨B.heap.objs.size,[B.heap.objs.size],_,_,_,rfl,O.kept (t':=B.toks) fun b o e=>IY _ e,Ah kv hD G (JJ U),⟨_,Ju _ rfl,rfl,rfl⟩,fun b hb =>?_,q o⟩;have e:b=B.heap.objs.size:=by simpa using hb
 subst e;exact O.fpOk (I_ _) (O.hok.fresh (I_ _))
end
theorem Db {d:Addr}{B:Obj}{kvs:LK9}{g:TG}{tb:TS}{D:sF}{σ:St}{H:Hp}(Pv:NS9)(O:Pv 0 σ H)(U:∀ i σ H,i≤kvs.length→Pv i σ H→H d=some (.frz B (.dK kvs)))
  (Y:∀ i k v σ H,kvs[i]? = some (k,v)→Pv i σ H→g (kV k) σ H fun G H2=>tb { D with nx:=Pv (i + 1),ct:=Pv (i + 1),bk:=D.nx } G H2) (hd:∀ σ H,Pv kvs.length σ H→D.nx σ H) :
  ∃ W:Nat→NS9,(∃ m,W 0 m σ H)∧∀ i m σ H,W i m σ H →
   ((Itk d B kvs).stop i H∧D.nx σ H)∨((Itk d B kvs).go i H∧∃ N:SP9,(∀ J H',N J H'→∃ m',m' < m∧W (i + 1) m' J H')∧∀ x H',(Itk d B kvs).yld i H x H'→g x σ H' fun G H2=>tb { D with nx:=N,ct:=N,bk:=D.nx } G H2):=by
 refine⟨fun i m σ H=>m=kvs.length - i∧i≤kvs.length∧Pv i σ H,⟨kvs.length,by simp,Je _,O⟩,?_⟩;rintro i m σ H ⟨rfl,hi,p⟩;have q:=U i σ H hi p;by_cases hlt:i < kvs.length
 ·refine .inr ⟨⟨q,hlt⟩,Pv (i + 1),fun J H' p'=>⟨kvs.length - (i + 1),by omega,rfl,hlt,p'⟩,fun x H' y =>?_⟩;obtain⟨e,k,v,hk,rfl⟩:=y;subst e;exact Y i k v σ _ hk p
 ·have e:i=kvs.length:=by lia
  subst e;exact .inl ⟨⟨q,I_ _⟩,hd σ H p⟩
section
theorem G7 (r:br [x,y,z] us):∃ u v B,us=[u,v,B]∧bz x u∧bz y v∧bz z B:=by
 cases r with
 | cons r1 r2 =>
  obtain⟨v,B,rfl,h,h'⟩:=qg r2;exact⟨_,v,B,rfl,r1,h,h'⟩
theorem Br (B:X.calm=true):gY X (.builtin "max") (fun xs H Q=>∃ i j k:Int,xs=[.int i,.int j,.int k]∧Q (.int (if j > i then (if k > j then k else j) else (if k > i then k else i))) H):=by
 intro pins s σ H xs us Q I r h;obtain⟨i,j,k,rfl,q⟩:=h;obtain⟨u,v,O,rfl,⟨t,rfl⟩,⟨t',rfl⟩,⟨G,rfl⟩⟩:=G7 r;refine PySem.max_three_ints (I.ok.hd B) fun h' tk J=>⟨_,H,I.kept J,?_,q⟩;by_cases h1:j > i
 ·rw[if_pos h1,if_pos h1];by_cases h2:k > j
  ·rw[if_pos h2,if_pos h2];exact⟨_,rfl⟩
  ·rw[if_neg h2,if_neg h2];exact⟨_,rfl⟩
 ·rw[if_neg h1,if_neg h1];by_cases h2:k > i
  ·rw[if_pos h2,if_pos h2];exact⟨_,rfl⟩
  ·rw[if_neg h2,if_neg h2];exact⟨_,rfl⟩
end
open PySem.W
section
theorem Ck (B:PE X l tl)(G:X.K=K:=by rfl):PI X tg l (FL K tl):=G▸bO B
end
abbrev NK:Type:=(Int × Int) × Int
def inn (p:Int × Int):List Key:=[.inl p.1,.inl p.2]
theorem zC (h:inn p=inn q):p=q:=by
 simp only[inn,List.cons.injEq,Sum.inl.injEq,and_true]at h;exact Prod.ext h.1 h.2
def oo (P:Pg9)(w:Wd9)(h:Heap)(k:NK)(a:Addr):Prop:=∃ (b:Addr) (t:Tok),IsTup h a #[.ref b,.int k.2 t]∧(tupleKind (aX P w)).is h (inn k.1) b
section
variable {P:Pg9}{w:Wd9}{h h':Heap}{a d:Addr}{k x y:NK}
theorem D6 (i:IsTup h a u)(j:IsTup h a v):u=v:=by
 obtain⟨o,e,_,n,q⟩:=i;obtain⟨o',G,_,J,B⟩:=j;cases e.symm.trans G;rw[q]at B;injection B
theorem oo.inj (B:oo P w h x a)(G:oo P w h y a):x=y:=by
 obtain⟨b,t,i,j⟩:=B;obtain⟨U,t',J,O⟩:=G;have e:=Jz Array.toList (D6 i J);injection e with e1 e2;injection e1 with e1;injection e2 with e2;injection e2 with e2 _;subst e1;exact Prod.ext (zC (IsTupleKey.inj j O)) e2
theorem oo.keeps {es ep}(i:oo P w h k a)(G:h.get? d=some o)(J:o.data=.dict es ep)(O:Heap.SameBut d h h'):oo P w h' k a:=by
 obtain⟨b,t,⟨o',U,Y,n',B⟩,j⟩:=i;refine⟨b,t,⟨o',(O.2 a fun z =>?_).trans U,Y,n',B⟩,IsTupleKey.keeps j G J O⟩;subst z;cases G.symm.trans U;rw[J]at B;exact nomatch B
end
def uX (P:Pg9)(w:Wd9)(k:NK):Int:=reduceHash (Builtin.Tuple.tupleHashOf [tupleKeyHash (aX P w) (inn k.1),hashInt k.2])
section
variable {P:Pg9}{w:Wd9}{E:EV9}{k x y:NK}{a b:Addr}
theorem ES (J:A.units + 1 < cLine)(i:oo P w s.heap k a)(h:Q (uX P w k) { s with toks:=s.toks + 5 }):wpAny (model P w) A (PySem.pyHash (.ref a)) Q E s:=by
 obtain⟨b,t,⟨o,O,U,n,Y⟩,j⟩:=i;have B:s.TypeIs (.ref a) "tuple" := ⟨o,O,U⟩
 have G:A.units < cLine:=Nat.lt_of_succ_lt J;unfold pyHash pyHashByItsType;refine IX (wpAny_cRoomFor_or (.inr G) (IX (wpAny_specialOf B F.slot_tuple_hash.lookup ?_)));show wpAny _ _ (if (some (Value.builtin "tuple.__hash__") == some Value.none)=true then _ else _) Q E s
 rw[if_neg (by rw[beq_builtin_none];exact Jq)];refine IX (wpAny_specialOf B F.slot_tuple_hash.lookup (?_:wpAny _ _ (callSpecialIfBoundUnlessNone? (.ref a) "__hash__" _ >>= _) Q E s))
 refine IX (wpAny_callSpecialIfBoundUnlessNone?_slot B F.slot_tuple_hash (wpAny_call_entry F.slot_tuple_hash B F.entry_tuple_hash (?_:wpAny _ _ (Builtin.Tuple.tupleItemsOf (.ref a) >>= _) _ _ s) (F.args_tuple_hash_1 _)));refine IX (wpAny_tupleItemsOf O Y (IX ?_));rw[← L5];show wpAny _ _ (forIn [Value.ref b,Value.int k.2 t] _ _) _ _ s;rw[Lh];refine IX (IX (wpAny_pyHash_tuple (ks:=inn k.1) J j ?_));refine Jp ?_;show wpAny _ _ (forIn [Value.int k.2 t] _ _) _ _ _;rw[Lh];refine IX (IX (wpAny_pyHash_int (Jp ?_)));show wpAny _ _ (forIn ([]:LV9) _ _) _ _ _;rw[Mu];refine Jp (?_:wpAny _ _ (retInt (Builtin.Tuple.tupleHashOf [tupleKeyHash (aX P w) (inn k.1),hashInt k.2])) _ _ _);refine wpAny_ret_mkInt ?_;generalize hz:Builtin.Tuple.tupleHashOf [tupleKeyHash (aX P w) (inn k.1),hashInt k.2]=z;have hk:uX P w k=reduceHash z:=by unfold uX;rw[hz]
 rw[hk]at h;unfold reduceHash at h;show wpAny _ _ (if (decide (-(2:Int) ^ 63≤z) && decide (z < 2 ^ 63))=true then _ else _) Q E _;by_cases hr:(decide (-(2:Int) ^ 63≤z) && decide (z < 2 ^ 63))=true
 ·rw[if_pos hr]at h ⊢;exact Jp h
 ·rw[if_neg hr]at h ⊢;exact IX (wpAny_rule (Jp h))
theorem vi (i:(tupleKind (aX P w)).is h (inn p) b):∃ t u,IsTup h b #[.int p.1 t,.int p.2 u]:=by
 obtain⟨o,items,n,e,c,q,r⟩:=i;have r':ItemsAre (aX P w) [.inl p.1,.inl p.2] items.toList:=r;generalize J:items.toList=l at r';cases r' with
 | cons h1 r' =>
 cases r' with
 | cons h2 r' =>
 cases r';have h1':mP (.inl p.1) _=true:=h1;have h2':mP (.inl p.2) _=true:=h2;rcases bN h1' with⟨i1,O,B,U⟩ | ⟨_,_,B,_⟩
 ·rcases bN h2' with⟨i2,Y,G,e4⟩|⟨_,_,G,_⟩
  ·injection B with B;injection G with G;subst B G U e4;refine⟨O,Y,o,e,c,n,?_⟩;rw[q,← Array.toArray_toList (xs:=items),J]
  ·cases G
 ·cases B
theorem eq_int (A:Around)(s:Sh9)(i j:Int)(t u:Tok):SeqAt.EqAt A s (.int i t) (.int j u) (decide (i=j)):=fun _ _ _ _ h=>wpAny_eqBool_int h
theorem sJ (i:IsTup h a xs):h.IsTuple a xs:=i
theorem zL {a b:Addr}{x y u v:Value}{p q:Bool}(B:A.units < cLine)(G:IsTup s.heap a #[x,y])(J:IsTup s.heap b #[u,v])(O:SeqAt.EqAt A.in1 s x u p)(U:SeqAt.EqAt A.in1 s y v q)(Y:a=b→p=true∧q=true):SeqAt.EqAt A s (.ref a) (.ref b) (p && q):=by
 by_cases hab:a=b
 ·obtain⟨rfl,rfl⟩:=Y hab;subst hab;exact SeqAt.EqAt.same _
 ·refine SeqAt.EqAt.of_refs hab ?_
  have:=SeqAt.RcAt.tuples (A:=A) (s:=s) (e:=fun j=>if j=0 then p else q) (sJ G) (sJ J) B (fun j h1 h2 =>?_)
  ·have e3:(List.range (min (#[x,y]:Array Value).size (#[u,v]:Array Value).size)).all (fun j=>if j=0 then p else q)=(p && q):=by
    show ([0,1].all fun j=>if j=0 then p else q)=_;simp
   rw[e3]at this;simpa using this
  ·rcases j with _|_|j
   ·exact O
   ·exact U
   ·exact absurd h1 (by simp)
theorem GK {p q:Int × Int}{b c:Addr}(B:A.units < cLine)(i:(tupleKind (aX P w)).is s.heap (inn p) b)(j:(tupleKind (aX P w)).is s.heap (inn q) c):SeqAt.EqAt A s (.ref b) (.ref c) (decide (p=q)):=by
 obtain⟨O,U,G⟩:=vi i;obtain⟨Y,u2,J⟩:=vi j
 have:=zL B G J (eq_int _ _ _ _ _ _) (eq_int _ _ _ _ _ _) fun e=>by
  subst e
  have:=zC (IsTupleKey.inj i j)
  subst this;exact⟨Jd rfl,Jd rfl⟩
 have e:(decide (p.1=q.1) && decide (p.2=q.2))=decide (p=q):=by
  rw[Ki,Kv,JV,JV,JV];exact⟨fun h=>Prod.ext h.1 h.2,fun h=>by rw[h];exact⟨rfl,rfl⟩⟩
 rw[e]at this;exact this
theorem eq_nk {x y:NK}{a b:Addr}(G:A.units + 1 < cLine)(J:oo P w s.heap x a)(O:oo P w s.heap y b):SeqAt.EqAt A s (.ref a) (.ref b) (decide (x=y)):=by
 have B:=fun (e:a=b)=>J.inj (by rw[e];exact O);obtain⟨b1,t1,U,Y⟩:=J;obtain⟨b2,t2,i2,j2⟩:=O
 have:=zL (Nat.lt_of_succ_lt G) U i2 (GK (A:=A.in1) G Y j2) (eq_int _ _ _ _ _ _) fun e=>by
  have:=B e
  subst this;exact⟨Jd rfl,Jd rfl⟩
 have e:(decide (x.1=y.1) && decide (x.2=y.2))=decide (x=y):=by
  rw[Ki,Kv,JV,JV,JV];exact⟨fun h=>Prod.ext h.1 h.2,fun h=>by rw[h];exact⟨rfl,rfl⟩⟩
 rw[e]at this;exact this
theorem Hw (B:A.units + 1 < cLine)(G:oo P w s.heap x a)(J:oo P w s.heap y b)(h:Q (decide (x=y)) s):wpAny (model P w) A (PySem.eqBool (.ref a) (.ref b)) Q E s:=by
 exact eq_nk B G J P w E Q h
theorem Be (i:(tupleKind (aX P w)).is s.heap (inn p) b)(h:Q true s):wpAny (model P w) A (eqIsQuiet 7 (.ref b)) Q E s:=by
 obtain⟨t,u,⟨o,B,J,n,O⟩⟩:=vi i;have G:s.TypeIs (.ref b) "tuple" := ⟨o,B,J⟩
 unfold eqIsQuiet;refine IX (wpAny_specialOf G F.slot_tuple_eq.lookup (?_:wpAny _ _ (isInstance (.ref b) (.type "tuple") >>= _) _ _ s))
 refine IX (wpAny_isInstance G isSubtype_tuple_tuple ?_);simp only[Bool.not_true,Jb,if_false];refine IX (wpAny_seqItems B O (IX (?_:wpAny _ _ (forIn #[Value.int p.1 t,Value.int p.2 u] _ _) _ _ s)));rw[← L5];show wpAny _ _ (forIn [Value.int p.1 t,Value.int p.2 u] _ _) _ _ s;rw[Lh];refine IX ?_;rw[eqIsQuiet_byValue _ (show carriedByValue (.int p.1 t)=true from rfl)];refine IX (Jp (?_:wpAny _ _ (pure (ForInStep.yield (none,()))) _ _ _));refine Jp (?_:wpAny _ _ (forIn [Value.int p.2 u] _ _) _ _ _);rw[Lh];refine IX ?_;rw[eqIsQuiet_byValue _ (show carriedByValue (.int p.2 u)=true from rfl)];refine IX (Jp (?_:wpAny _ _ (pure (ForInStep.yield (none,()))) _ _ _));refine Jp (?_:wpAny _ _ (forIn ([]:LV9) _ _) _ _ _);rw[Mu];exact Jp (Jp h)
theorem CJ (i:oo P w s.heap k a)(h:Q true s):wpAny (model P w) A (eqIsQuiet 8 (.ref a)) Q E s:=by
 obtain⟨b,t,⟨o,B,J,n,O⟩,j⟩:=i;have G:s.TypeIs (.ref a) "tuple" := ⟨o,B,J⟩
 unfold eqIsQuiet;refine IX (wpAny_specialOf G F.slot_tuple_eq.lookup (?_:wpAny _ _ (isInstance (.ref a) (.type "tuple") >>= _) _ _ s))
 refine IX (wpAny_isInstance G isSubtype_tuple_tuple ?_);simp only[Bool.not_true,Jb,if_false];refine IX (wpAny_seqItems B O (IX ?_));show wpAny _ _ (forIn #[Value.ref b,Value.int k.2 t] _ _) _ _ s;rw[← L5];show wpAny _ _ (forIn [Value.ref b,Value.int k.2 t] _ _) _ _ s;rw[Lh];refine IX ?_;refine IX (Be j (?_:wpAny _ _ (pure (ForInStep.yield (none,()))) _ _ _));refine Jp (?_:wpAny _ _ (forIn [Value.int k.2 t] _ _) _ _ _);rw[Lh];refine IX ?_;rw[eqIsQuiet_byValue _ (show carriedByValue (.int k.2 t)=true from rfl)];refine IX (Jp (?_:wpAny _ _ (pure (ForInStep.yield (none,()))) _ _ _));refine Jp (?_:wpAny _ _ (forIn ([]:LV9) _ _) _ _ _);rw[Mu];exact Jp (Jp h)
end
def fG (P:Pg9)(w:Wd9):HeapKind P w NK where
 is:=oo P w
 hash:=uX P w
 draws:=fun _=>5
 room:=fun A=>A.units + 1 < cLine
 inj:=fun hx hy=>hx.inj hy
 keeps:=fun x ho hd hs=>x.keeps ho hd hs
 pyHash:=fun hu i h=>ES hu i h
 eqBool:=fun hu hx hy h=>Hw hu hx hy h
 quiet:=fun i h=>CJ i h
def iE (H:Hp)(k:NK)(a:Addr):Prop:=∃ b,H a=some (.tup [.ref b,.int k.2])∧H b=some (.tup [.int k.1.1,.int k.1.2])
theorem iE.up (h:iE H k a)(B:∀ b xs,H b=some (.tup xs)→H' b=some (.tup xs)):iE H' k a:=by
 obtain⟨b,h1,h2⟩:=h;exact⟨b,B _ _ h1,B _ _ h2⟩
def vv:V→Value
 | .ref a=>.ref a
 | .bl b=>.bool b
 | _=>.none
def Pln (v:V):Prop:=bz v (vv v)
abbrev NE:Type:=NK × Addr × V
def raw (e:NE):NK × Addr × Value:=(e.1,e.2.1,vv e.2.2)
def dN (P:Pg9)(w:Wd9)(a:Addr)(xs:List NE):HO:=.ext fun h=>xs.length≤sizeLine∧(a == sysModules)=false ∧
 ∃ o es ep,h.get? a=some o∧o.ExactDict∧o.data=.dict es ep∧es.toList=(xs.map raw).map (entryOfKey (fG P w))∧((xs.map raw).map (·.1)).Nodup
structure DN (P:Pg9)(w:Wd9)(H:Hp)(a:Addr)(xs:List NE):Prop where
 at_:H a=some (dN P w a xs)
 keys:∀ e∈xs,iE H e.1 e.2.1∧Pln e.2.2
def nkV (xs:List NE)(k:NK):OW9:=(xs.find? fun e=>decide (e.1=k)).map (·.2.2)
def dj (xs:List NE)(k:NK)(a:Addr)(v:V):List NE:=if (nkV xs k).isSome then xs.map (fun e=>if e.1=k then (e.1,e.2.1,v) else e) else xs++[(k,a,v)]
section
variable {P:Pg9}{w:Wd9}{H':Hp}{h:Heap}{a b d:Addr}{xs:List NE}{k:NK}{v:V}
theorem wA (ok:HOk P w H h)(i:iE H k a):(fG P w).is h k a:=by
 obtain⟨b,h1,h2⟩:=i;obtain⟨_,its,r,p⟩:=(show ci P w H h a (.tup _) from ok a _ h1);obtain⟨J,O,rfl,B,G⟩:=qg r;cases B;obtain⟨t,rfl⟩:=G;exact⟨b,t,p,ra (ks:=inn k.1) ok h2⟩
theorem DP (xs:List NE)(k:NK):(atKey (xs.map raw) k).map (·.2)=(nkV xs k).map vv:=by
 induction xs with
 | nil=>rfl
 | cons e xs ih =>
  by_cases q:e.1=k
  ·simp[atKey,nkV,KI,raw,q]
  ·simpa[atKey,nkV,KI,raw,q] using ih
theorem vF (xs:List NE)(k:NK):(atKey (xs.map raw) k).isSome=(nkV xs k).isSome:=by
 have:=Jz Option.isSome (DP xs k)
 simpa using this
theorem Ev (xs:List NE)(k:NK)(a:Addr)(v:V):storedH (xs.map raw) k a (vv v)=(dj xs k a v).map raw:=by
 unfold storedH dj;rw[vF]
 split
 ·rw[JE,JE];refine Jk fun e _ =>?_;by_cases q:e.1=k<;>simp[putAt,raw,q]
 ·simp[raw]
theorem za (xs:List NE)(k:NK)(a:Addr)(v:V):(dj xs k a v).length≤xs.length + 1:=by
 unfold dj
 split<;>simp
theorem DN.up (D:DN P w H a xs)(B:ak H H'):DN P w H' a xs:=⟨B _ _ D.at_,fun e G=>⟨(D.keys e G).1.up fun b ys q=>B _ _ q,(D.keys e G).2⟩⟩
theorem DN.keep (D:DN P w H a xs)(h1:H' a=H a)(G:∀ b ys,H b=some (.tup ys)→H' b=some (.tup ys)):DN P w H' a xs:=⟨h1.trans D.at_,fun e B=>⟨(D.keys e B).1.up G,(D.keys e B).2⟩⟩
theorem DN.rd (ok:HOk P w H h)(D:DN P w H a xs):xs.length≤sizeLine∧(a == sysModules)=false∧h.DictOfH (fG P w) a (xs.map raw):=by
 obtain⟨⟨z,y,o,es,ep,h1,h2,B,G,J⟩,_⟩:=(show ci P w H h a (dN P w a xs) from ok a _ D.at_);refine⟨z,y,o,es,ep,h1,h2,B,G,fun x O =>?_,J⟩;obtain⟨e,U,rfl⟩:=I9.mp O;exact wA ok (D.keys e U).1
theorem DA (z:xs.length≤sizeLine)(y:(a == sysModules)=false)(dd:h.DictOfH (fG P w) a (xs.map raw)):ci P w H h a (dN P w a xs):=by
 obtain⟨o,es,ep,h1,h2,J,O,_,U⟩:=dd;refine⟨⟨z,y,o,es,ep,h1,h2,J,O,U⟩,⟨o,h1⟩,fun g1 g2 q st =>?_⟩;obtain⟨Y,y',o',B,G,k1,k2,k3,k4,k5⟩:=q;exact⟨Y,y',o',B,G,st _ k1,k2,k3,k4,k5⟩
theorem Cd (J:∀ e∈xs,iE H e.1 e.2.1∧Pln e.2.2)(i:iE H k b)(pv:Pln v):∀ e∈dj xs k b v,iE H e.1 e.2.1∧Pln e.2.2:=by
 intro e B;unfold dj at B
 split at B
 ·obtain⟨O,G,rfl⟩:=I9.mp B
  split
  ·exact⟨(J O G).1,pv⟩
  ·exact J O G
 ·rcases Jj.mp B with B|B
  ·exact J e B
  ·rw[Jc.mp B];exact⟨i,pv⟩
end
section
def FY (P:Pg9)(w:Wd9):TE:=fun _ H Q=>∀ p,H p=none→Q (.ref p) (upd H p (dN P w p []))
theorem wj:PE X (.Dict [] [] pos) (FY X.prog X.w):=fun pins s σ H Q I h =>
 wpAny_Dict_empty ⟨.ref s.heap.objs.size,_,I.laid (a:=s.heap.objs.size) (o:=dN X.prog X.w s.heap.objs.size []) (t':=s.toks) (fun _ _ q=>IY _ q) (I_ _)
  (DA (Je _) (beq_eq_false_iff_ne.mpr (Ne.symm (JJ I.big))) ⟨_,#[],0,Ju _ rfl,⟨rfl,rfl,rfl⟩,rfl,rfl,fun x (B:x∈([]:List _))=>absurd B (by simp),List.nodup_nil⟩),rfl,h _ (I.hok.fresh (I_ _))⟩
theorem Gh (B:X.A.units + 2 < cLine):OpR X (compareOp .In) (fun x y H Q=>∃ (a b:Addr) (k:NK) (xs:List NE),x=.ref b∧y=.ref a∧DN X.prog X.w H a xs∧iE H k b∧Q (.bl (nkV xs k).isSome) H):=by
 intro pins s σ H x y v u Q I G J h;obtain⟨a,b,k,xs,rfl,rfl,D,i,q⟩:=h;cases G;cases J;obtain⟨_,y,dd⟩:=D.rd I.hok;refine wpAny_in_heap (knd:=fG X.prog X.w) B (wA I.hok i) y dd ?_;rw[vF];exact⟨.bl _,H,I.tok _,rfl,q⟩
theorem AI (B:X.A.units + 2 < cLine):OpR X (compareOp .NotIn) (fun x y H Q=>∃ (a b:Addr) (k:NK) (xs:List NE),x=.ref b∧y=.ref a∧DN X.prog X.w H a xs∧iE H k b∧Q (.bl (!(nkV xs k).isSome)) H):=by
 intro pins s σ H x y v u Q I G J h;obtain⟨a,b,k,xs,rfl,rfl,D,i,q⟩:=h;cases G;cases J;obtain⟨_,y,dd⟩:=D.rd I.hok;refine wpAny_notIn_heap (knd:=fG X.prog X.w) B (wA I.hok i) y dd ?_;rw[vF];exact⟨.bl _,H,I.tok _,rfl,q⟩
abbrev F0 (P:Pg9)(w:Wd9)(td ty:TE):TE:=fun σ H Q=>td σ H fun x H1=>ty σ H1 fun y H2=>∃ (a b:Addr) (k:NK) (xs:List NE) (v:V),x=.ref a∧y=.ref b∧DN P w H2 a xs∧iE H2 k b∧nkV xs k=some v∧Q v H2
theorem mL (h:nkV xs k=some v):∃ a,(k,a,v)∈xs:=by
 obtain⟨e,h1,rfl⟩:=JQ.mp h;have h2:=LW h1;have B:e.1=k:=by simpa using h2
 exact⟨e.2.1,by rw[← B];exact KZ h1⟩
theorem Cs (O:X.A.units + 2 < cLine)(U:PE X o td)(hi:PE X i ty)(Y:Fx i):PE X (.Subscript o i pos) (F0 X.prog X.w td ty):=by
 intro pins s σ H Q I h;refine uq PySem.F.slot_dict_getitem.lookup Y (thn (U pins s σ H _ I h) fun u s1 ⟨x,H1,I1,rx,q1⟩=>thn (hi pins s1 σ H1 _ I1 q1) fun iv s2 ⟨y,H2,B,ry,a,b,k,xs,v,ex,ey,D,j,g,q2⟩ =>?_);subst ex ey;cases rx;cases ry;obtain⟨_,_,dd⟩:=D.rd B.hok;have J:=DP xs k;rw[g]at J;obtain⟨p,hp,G⟩:=JQ.mp J;obtain⟨c,hc⟩:=mL g;refine⟨dd.typeIs,wpAny_getItem_heap (knd:=fG X.prog X.w) O (wA B.hok j) dd hp ?_⟩;rw[G];exact⟨v,H2,B.tok _,(D.keys _ hc).2,q2⟩
abbrev F3 (P:Pg9)(w:Wd9)(td ty tv:TE):TS:=fun D σ H=>tv σ H fun v H1=>td σ H1 fun x H2=>ty σ H2 fun y H3=>∃ (a b:Addr) (k:NK) (xs:List NE),x=.ref a∧y=.ref b∧DN P w H3 a xs∧iE H3 k b∧Pln v∧xs.length < sizeLine ∧
 (DN P w (upd H3 a (dN P w a (dj xs k b v))) a (dj xs k b v)→D.nx σ (upd H3 a (dN P w a (dj xs k b v))))
theorem wf (hu:X.A.units + 2 < cLine)(ho:PE X o td)(hi:PE X i ty)(hv:PE X value tv)(G:swapsWith value (some (.Subscript o i pos')) pos.line X.env=pure false):
  PS X (.Assign [.Subscript o i pos'] value pos) (F3 X.prog X.w td ty tv):=by
 intro pins s σ H D I h;refine wpAny_Assign_Subscript (thn (hv pins s σ H _ I h) fun r s1 ⟨v,H1,I1,J,q1⟩=>thn (ho pins s1 σ H1 _ I1 q1) fun u s2 ⟨x,H2,I2,rx,q2⟩=>thn (hi pins s2 σ H2 _ I2 q2) fun iv s3 ⟨y,H3,O,ry,a,b,k,xs,ex,ey,Dn,j,pv,hl,q3⟩ =>?_) G;subst ex ey;cases rx;cases ry;have er:r=vv v:=by
  unfold Pln at pv;cases v with
  | ref a=>rw[show r=_ from J];rfl
  | bl b=>rw[show r=_ from J];rfl
  | non=>rw[show r=_ from J];rfl
  | int i=>exact nomatch pv
  | str x=>exact nomatch pv
  | byt b=>exact nomatch pv
  | flt b=>exact nomatch pv
  | ty n=>cases pv
 subst er;obtain⟨z,y,dd⟩:=Dn.rd O.hok;have hz:(xs.map raw).length≤sizeLine:=by rw[I0];exact z
 refine wpAny_setItem_heap (knd:=fG X.prog X.w) (hsz:=hz) hu (wA O.hok j) dd fun h' B G =>?_;rw[Ev]at B;have U:(dj xs k b v).length≤sizeLine:=JA (za xs k b v) hl;have nt:∀ c ys,H3 c=some (.tup ys)→upd H3 a (dN X.prog X.w a (dj xs k b v)) c=some (.tup ys):=fun c ys Y=>by
  rw[aG fun q=>by rw[q,Dn.at_]at Y;exact nomatch Y];exact Y
 refine⟨σ,_,p_ O (by rw[Dn.at_];exact True.intro) G (let ⟨q,_,_,hq,_⟩:=B;⟨q,hq⟩) (DA U y B),q3 ⟨ah,fun e he =>?_⟩⟩;obtain⟨k1,k2⟩:=Cd Dn.keys j pv e he;exact⟨k1.up nt,k2⟩
theorem dP.nest (r:dP k A):A.units + 2 < PySem.cLine:=by have:=r.units;lia
end
def rN (h:Heap)(d:Addr)(es:Array DictEntry)(ep:Nat):Prop:=∃ o,h.get? d=some o∧o.ExactDict∧o.data=.dict es ep
theorem rN.type {s:Sh9}{d:Addr}{es:Array DictEntry}{ep:Nat}(r:rN s.heap d es ep):s.TypeIs (.ref d) "dict" := let ⟨o,h,c,_⟩:=r;⟨o,h,c.1⟩
theorem rN.keep (r:rN h d es ep)(k:∀ o,h.get? d=some o→h'.get? d=some o):rN h' d es ep:=let ⟨o,e,x⟩:=r;⟨o,k o e,x⟩
section
variable {w:Wd9}{E:EV9}{d I:Addr}{es:Array DictEntry}{ep i:Nat}
theorem AB {Q:EV9}(O:(d == sysModules)=false)(r:rN s.heap d es ep)
  (U:Q (.ref s.heap.objs.size) { s with heap:=s.heap.push { cls:=.type "dict_keyiterator",data:=.fields #[.ref d,.int 0 0,.int es.size 0,.int ep 0] } }):wpAny (model prog w) A (pyIter (.ref d)) Q E s:=by
 have G:=r.type;obtain⟨o,J,Y,B⟩:=r;refine wpAny_pyIter_slot G F.slot_dict_iter (wpAny_call_entry F.slot_dict_iter G F.entry_dict_iter ?_ (F.args_dict_iter_1 _));unfold Builtin.«dict.__iter__» Builtin.Dict.dictSlotNone;refine IX (IX (wpAny_notOrdered_dict G (Jp (?_:wpAny _ _ (Builtin.Dict.showsAll d >>= _) _ _ s))));unfold Builtin.Dict.showsAll;rw[if_neg (by rw[O];exact Jq)];refine IX (Jp (IX (wpAny_dictEntries J B (IX (wpAny_dictEpoch J B (IX (wpAny_newObj_type (Jp ⟨_,rfl,"dict_keyiterator",_,⟨_,Ju _ rfl,rfl⟩,F.slot_dict_keyiterator_next.lookup,?_⟩))))))))
 simpa[rawInt] using U
theorem AC (it:s.heap.IsKeyIter I d i es.size ep)(r:rN s.heap d es ep)(hi:i < es.size)
  (Y:∀ h',h'.IsKeyIter I d (i + 1) es.size ep→Heap.SameBut I s.heap h'→Q (some es[i].key) { s with heap:=h' }):wpAny (model prog w) A (pyNext (.ref I)) Q E s:=by
 have B:=it.typeIs;obtain⟨o,U,hc,O⟩:=it;obtain⟨od,G,a0,J⟩:=r;unfold pyNext;refine IX (wpAny_attempt (wpAny_callSpecial?_slot (name:=Str.ofString "__next__") B F.slot_dict_keyiterator_next (wpAny_call_entry F.slot_dict_keyiterator_next B F.entry_dict_keyiterator_next (IX (Jp (IX (IX ?_)))) (F.args_dict_keyiterator_next_1 _))))
 refine IX (wpAny_typeNameOfWhole_keyiter B (Jp (IX (wpAny_fieldsOf U O ?_))));simp only[show Builtin.Dict_items.ownsTuple "dict_keyiterator" = false by decide,Jb,if_false]
 show wpAny _ _ (if (Value.ref d == Value.none)=true then _ else _) _ _ s;rw[if_neg (show ¬ ((Value.ref d == Value.none)=true) from Jq)];refine IX (Jp (IX (wpAny_dictEntries G J ?_)));rw[if_neg (by simp)];refine IX (Jp (IX (wpAny_dictEpoch G J ?_)));rw[if_neg (by simp)];refine Jp ?_;simp only[show ¬ ((i:Int) < 0) from by simp,if_false,JU,Jf hi];refine IX (IX (wpAny_typeNameOfWhole_keyiter B (Jp (IX (wpAny_isOneOf_keyiter B (?_:wpAny _ _ (setField (.ref I) 1 (rawInt ((i:Int) + 1)) >>= _) _ _ s))))));refine IX (wpAny_setField U O (by simp) ?_);have it':(s.heap.update I (Obj.mapFields (·.setIfInBounds 1 (rawInt ((i:Int) + 1))))).IsKeyIter I d (i + 1) es.size ep :=
  ⟨_,LJ _ U (Obj.isFreed_of_fields (Obj.data_mapFields O _)),(Obj.cls_mapFields ..).trans hc,by rw[Obj.data_mapFields O];simp[rawInt]⟩
 refine IX (wpAny_holding (IX (wpAny_isOneOf_keyiter (s:={ s with heap:=s.heap.update I (Obj.mapFields (·.setIfInBounds 1 (rawInt ((i:Int) + 1)))) }) it'.typeIs (?_:wpAny _ _ (pure es[i].key) _ _ _))));exact Jp (Jp ⟨_,rfl,Jp (Y _ it' (Heap.SameBut.update ..))⟩)
theorem B5 (Y:A.handled=none)(it:s.heap.IsKeyIter I d es.size es.size ep)(r:rN s.heap d es ep)(hQ:∀ h',Heap.ExtBut I s.heap h'→Q none { s with heap:=h' }):wpAny (model prog w) A (pyNext (.ref I)) Q E s:=by
 have B:=it.typeIs;obtain⟨o,O,hc,U⟩:=it;obtain⟨od,G,a0,J⟩:=r;unfold pyNext;refine IX (wpAny_attempt (wpAny_callSpecial?_slot (name:=Str.ofString "__next__") B F.slot_dict_keyiterator_next (wpAny_call_entry F.slot_dict_keyiterator_next B F.entry_dict_keyiterator_next (IX (Jp (IX (IX ?_)))) (F.args_dict_keyiterator_next_1 _))))
 refine IX (wpAny_typeNameOfWhole_keyiter B (Jp (IX (wpAny_fieldsOf O U ?_))));simp only[show Builtin.Dict_items.ownsTuple "dict_keyiterator" = false by decide,Jb,if_false]
 show wpAny _ _ (if (Value.ref d == Value.none)=true then _ else _) _ _ s;rw[if_neg (show ¬ ((Value.ref d == Value.none)=true) from Jq)];refine IX (Jp (IX (wpAny_dictEntries G J ?_)));rw[if_neg (by simp)];refine IX (Jp (IX (wpAny_dictEpoch G J ?_)));rw[if_neg (by simp)];refine Jp ?_;simp only[show ¬ ((es.size:Int) < 0) from by simp,if_false,JU,Lz (I_ es.size)];refine IX (IX (wpAny_typeNameOfWhole_keyiter B (Jp (?_:wpAny _ _ (setField (.ref I) 0 .none >>= _) _ _ s))));refine IX (wpAny_setField O U (by simp) (?_:wpAny _ _ (newExc (.type "StopIteration") [] >>= _) _ _ _))
 refine IX ?_;simp only[newExc,newTuple];refine IX (wpAny_newObj_type (IX (m:=firstArgMember _ _) (wpAny_of_eq (a:=Value.none) (by first | rfl | (simp only[firstArgMember];rfl)) (wpAny_newObj_type ?_ (by size_fits)))) (by size_fits));simp only[raiseNew];refine IX (wpAny_handled ?_);rw[show A.in1.handled=none from Y];refine IX (Jp (wpAny_throw ?_));exact IX (wpAny_isInstance (T := "StopIteration") (b:=true) ⟨_,Ju _ rfl,rfl⟩ isSubtype_stop (Jp (hQ _ (((Heap.SameBut.update ..).extBut.push _).push _))))
theorem xP (hh:A.handled=none)(O:d≠I):Walks prog w A I [I,d] [I] es.size (fun i v=>∃ e,es[i]? = some e∧v=e.key) (fun i h=>h.IsKeyIter I d i es.size ep∧rN h d es ep) where
 sub:=fun b B=>by simp at B;simp[B]
 frame:=fun _ _ _ st hk=>⟨st.1.at fun o e=>hk I (by simp) o e,st.2.keep fun o e=>hk d (by simp) o e⟩
 item:=fun i s Q E hi st G=>AC st.1 st.2 hi fun h' U J=>G _ h' s.toks ⟨es[i],by simp[hi],rfl⟩ ⟨U,st.2.keep fun o e=>J.extBut d o O e⟩ fun b o B e=>J.extBut b o (fun h=>B (by simp[h])) e
 done:=fun s Q E st G=>B5 hh st.1 st.2 fun h' Y=>G h' s.toks fun b o B e=>Y b o (fun h=>B (by simp[h])) e
 self:=fun _ _ _ _ st G=>wpAny_pyIter_keyiter st.1 G
theorem B4 (lo:(d == sysModules)=false):KdlSrc prog w "dict" d d es.size (fun i v=>∃ e,es[i]? = some e∧v=e.key) (fun h=>rN h d es ep) where
 type:=fun _ B=>B.type
 there:=fun _ B=>let ⟨o,ho,_⟩:=B;⟨Jo ho,Jo ho⟩
 keep:=fun _ _ B J=>B.keep fun o e=>J d (.inl rfl) o e
 notList:=by decide
 notTuple:=by decide
 hint:=fun _ _ _ _ B G=>kdl_hint_dict B.type G
 iter:=fun _ s O B=>⟨_,_,(fun _ _ G=>AB lo B G),xP O (let ⟨o,ho,_⟩:=B;JJ (Jo ho)),⟨⟨_,Ju _ rfl,rfl,rfl⟩,B.keep fun o e=>IY _ e⟩⟩
end
def pA (h:Heap)(k:Int × Int)(u:Value):Prop:=∃ (a:Addr) (t t':Tok),u=.ref a∧IsTup h a #[.int k.1 t,.int k.2 t']
def ltI:Int × Int→Int × Int→Bool:=n5 (fun a b=>decide (a < b)) (fun a b=>decide (a < b))
theorem CU:Lin ltI:=ve vf vf
theorem CZ (i:pA h k u)(B:∀ b o,o.cls=.type "tuple" → h.get? b=some o→h'.get? b=some o):pA h' k u:=by
 obtain⟨a,t,t',e,o,g,c,r⟩:=i;exact⟨a,t,t',e,o,B a o c g,c,r⟩
section
variable {w:Wd9}{E:EV9}
theorem EZ (i:pA s.heap k u)(j:pA s.heap l v)(h:C (ltI k l) s):wpAny (model prog w) A (keyLt' (tuples' true) u v) C E s:=by
 obtain⟨a,t,t',rfl,oa,J,_,na,O⟩:=i;obtain⟨b,q,q',rfl,ob,U,_,nb,Y⟩:=j;refine kat_lt J O U Y (kat_cons (wpAny_eqBool_int (kat_go (fun e=>kat_yes (kat_cons (wpAny_eqBool_int (kat_go (fun G=>kat_yes (kat_nil ?_)) fun G=>kat_no (kat_one _ _ (PySem.P.lt_int ?_)))))) fun e=>kat_no ?_)))
 ·have B:k.1=l.1:=by simpa using e
  have e3:k.2=l.2:=by simpa using G
  have:ltI k l=false:=by rw[Prod.ext B e3];exact CU.irr l
  rw[this]at h;exact h
 ·have B:k.1=l.1:=by simpa using e
  have:ltI k l=decide (k.2 < l.2):=by unfold ltI n5;rw[if_pos B]
  rw[this]at h;exact h
 ·have B:¬ k.1=l.1:=by simpa using e
  have:ltI k l=decide (k.1 < l.1):=by unfold ltI n5;rw[if_neg B]
  rw[this]at h;exact oneLt_int h
theorem E1 (U:Paired (fun k u=>pA s.heap k u) ks us)(h2:0 < us.length)(q:Q (tuples' true) s):wpAny (model prog w) A (keyKind' us.toArray) Q E s:=by
 have Y:∃ fs:LV9,KatTups s.heap us fs∧fs.length=us.length∧∀ v∈fs,∃ (k:Int) (t:Tok),v=.int k t:=by
  induction U with
  | nil=>exact⟨[],KatTups.nil,rfl,fun v B=>nomatch B⟩
  | @cons k u ks us h t ih =>
   obtain⟨a,t1,t2,rfl,o,ho,hc,n,hd⟩:=h;obtain⟨fs,G,O,J⟩:∃ fs:LV9,KatTups s.heap us fs∧fs.length=us.length∧∀ v∈fs,∃ (k:Int) (t:Tok),v=.int k t:=by
    cases us with
    | nil=>exact⟨[],KatTups.nil,rfl,fun v B=>nomatch B⟩
    | cons u us=>exact ih (LD _)
   refine⟨.int k.1 t1::fs,KatTups.cons ho hc hd (by simp) G,by simp[O],fun v B =>?_⟩;rcases Jr.mp B with rfl | B
   ·exact⟨_,_,rfl⟩
   ·exact J v B
 obtain⟨fs,G,O,J⟩:=Y;refine kat_kind (T:=.type "int") G (by lia) (fun v B =>?_) (by decide) q
 obtain⟨k,t,rfl⟩:=J v B;exact Looks.now
theorem D4 {h:Heap}{S:Addr}{f:Array Value→Array Value}{vs:Array Value}{n:Nat}(B:h.get? S=some (seqObj "list" vs n)):∀ b o,o.cls=.type "tuple" → h.get? b=some o→(h.update S (Obj.mapSeq f)).get? b=some o:=fun b o c e=>by
 refine (JK _ _ fun z =>?_).trans e;subst z;cases B.symm.trans e;exact absurd (show Value.type "list" = Value.type "tuple" from c) (by decide)
theorem qO:∀ {l:List α} {m:List β},Paired R l m→∀ p∈m.zip l,R p.2 p.1
 | _,_,.nil,p,h=>by simp at h
 | _,_,.cons r t,p,h=>by
  rcases Jr.mp h with rfl|h
  ·exact r
  ·exact qO t p h
theorem sw {a q:Addr}{vs:LV9}{n:Nat}{kf:Value→Int × Int}{P:PySem.Fin→Sh9→Prop}(ho:s.heap.get? a=some (seqObj "list" vs.toArray n))(sz:vs.length≤sizeLine)
  (turn:∀ (v:Value) (h:Heap) (tk:Nat),v∈vs→(∀ b o,b≠a→s.heap.get? b=some o→h.get? b=some o)→wpAny (model prog w) A (call (.ref q) [v]) (fun u s'=>∃ h' tk',s'={ s with heap:=h',toks:=tk' }∧(∀ b o,h.get? b=some o→h'.get? b=some o)∧pA h' (kf v) u) (fun _ _=>False) { s with heap:=h,toks:=tk })
  (fin:∀ (h':Heap) (tk:Nat) (out:LV9) (c:Nat),(∀ b o,b≠a→s.heap.get? b=some o→h'.get? b=some o)→h'.get? a=some (seqObj "list" out.toArray c)→out.Perm vs→out.Pairwise (fun x y=>ltI (kf y) (kf x)=false)→P (.done (.ret .none)) { s with heap:=h',toks:=tk }) :
  wpAny (model prog w) A (Builtin.«list.sort» ⟨[.ref a],[(Str.ofString "key",.ref q)]⟩) P E s:=by
 have ha:a < s.heap.objs.size:=Jo ho;rw[ksk_t1];unfold ksk_tree;obtain⟨e1,a3⟩:∃ e1,(s.heap.update a (Obj.mapSeq fun _=>(#[]:Array Value))).get? a=some (seqObj "list" #[] e1):=⟨_,get?_update_seq ho fun _ => #[]⟩
 refine IX (listItems_at ho rfl (IX (listUpdate_at ho rfl (IX (seqEpoch_at a3 rfl (IX (wpAny_newTuple (IX (wpAny_newList (wpAny_holding ?_) (Je _))) (by show vs.length≤_;exact sz))))) (by rw[JC];exact sz) (Je _))));obtain⟨h0,O⟩:∃ h0,h0=((s.heap.update a (Obj.mapSeq fun _=>(#[]:Array Value))).push (seqObj "tuple" vs.toArray 0)).push (seqObj "list" #[] 0):=⟨_,rfl⟩
 obtain⟨U,Y⟩:∃ U,U=((s.heap.update a (Obj.mapSeq fun _=>(#[]:Array Value))).push (seqObj "tuple" vs.toArray 0)).objs.size:=⟨_,rfl⟩
 show wpAny (model prog w) A (ksk_rest a (.ref q) false vs.toArray _ (.ref ((s.heap.update a (Obj.mapSeq fun _=>(#[]:Array Value))).push (seqObj "tuple" vs.toArray 0)).objs.size)) P E { s with heap:=((s.heap.update a (Obj.mapSeq fun _=>(#[]:Array Value))).push (seqObj "tuple" vs.toArray 0)).push (seqObj "list" #[] 0) }
 rw[← O,← Y];have a4:s.heap.objs.size < U:=by rw[Y,size_push',Heap.size_update];simp
 have ka:U≠a:=KU (LG ha a4);have g0:h0.get? a=some (seqObj "list" #[] e1):=by rw[O];exact IY _ (IY _ a3)
 have gk:h0.get? U=some (seqObj "list" #[] 0):=by rw[O,Y];exact Ju _ rfl
 have a6:∀ b o,b≠a→s.heap.get? b=some o→h0.get? b=some o:=fun b o hb e=>by
  rw[O];exact IY _ (IY _ ((JK _ _ (Ne.symm hb)).trans e))
 have nk:∀ b o,s.heap.get? b=some o→b≠U:=fun b o e=>JJ (LG (Jo e) a4)
 clear O Y
 unfold ksk_rest;refine IX (wpAny_rule ?_);rw[List.forIn_toArray];refine IX (ksk_fold (fun i s'=>∃ h tk G e,s'={ s with heap:=h,toks:=tk }∧(∀ b o,b≠a→s.heap.get? b=some o→h.get? b=some o)∧h.get? a=some (seqObj "list" #[] e1)∧h.get? U=some (seqObj "list" G e)∧Paired (fun k u=>pA h k u) ((vs.take i).map kf) G.toList) vs 0 _
  ⟨h0,s.toks,#[],0,rfl,a6,g0,gk,.nil⟩ ?step ?done)
 case step =>
  rintro j x s' hx ⟨h,tk,G,e,rfl,kp,ga,gk,hP⟩;simp only[KH]at hP ⊢;have hj:j < vs.length:=(IZ.mp hx).1;have hz:G.size≤vs.length:=by
   have h1:=Paired.length hP;have h2:G.toList.length=G.size:=JI;rw[I0,JO]at h1
   lia
  refine IX (wpAny_attempt (Kf (turn x h tk (Jh hx) kp) (fun u s2 he =>?_) fun _ _ hF=>hF.elim));obtain⟨h2,a9,rfl,a0,ky⟩:=he;have a1:=a0 _ _ gk;obtain⟨c2,a7⟩:∃ c2,(h2.update U (Obj.mapSeq (·.push u))).get? U=some (seqObj "list" (G.push u) c2):=⟨_,get?_update_seq a1 (·.push u)⟩
  have ut:=D4 (f:=(·.push u)) a1;refine IX (listUpdate_at a1 rfl ?_ (by lia) (JA (Mj (Array.size_push ..)) (by lia)));refine Jp ⟨rfl,_,_,G.push u,c2,rfl,fun b o hb e=>(JK _ _ (Ne.symm (nk b o e))).trans (a0 _ _ (kp b o hb e)),(JK _ _ ka).trans (a0 _ _ ga),a7,?_⟩;rw[Array.toList_push,Jw,hx,Jn];exact Paired.snoc (Paired.mapP hP fun _ _ i=>CZ (CZ i fun b o _ e=>a0 b o e) ut) (CZ ky ut)
 case done =>
  rintro s' ⟨h,tk,G,e,rfl,kp,ga,gk,hP⟩;rw[KH,Kq]at hP;have hl:=Paired.length hP;have b0:G.toList.length=G.size:=JI;rw[I0]at hl;have zl:(G.zip vs.toArray).toList=G.toList.zip vs:=ksk_zip G vs;have zs:(G.zip vs.toArray).toList.map (·.2)=vs:=by rw[zl];exact List.map_snd_zip (by lia)
  refine IX (listItems_at gk rfl ?_);unfold ksk_end;simp only[Jb,if_false];have tail:∀ (st:SortSt),(arrOf st).Perm (G.zip vs.toArray)→failedOf st=none→((arrOf st).toList.map (·.2)).Pairwise (fun x y=>ltI (kf y) (kf x)=false)→wpAny (model prog w) A (ksk_tail a false e1 (.ref U) st) P E { s with heap:=h,toks:=tk }:=fun st hp hf hw=>by
   have hp':((arrOf st).toList.map (·.2)).Perm vs:=by
    have:=(KC.mp hp).map (·.2)
    rw[zs]at this;exact this
   have a5:(arrOf st).map (·.2)=((arrOf st).toList.map (·.2)).toArray:=by
    apply Ll.mp
    rw[Mi]
   unfold ksk_tail;dsimp only;have a2:(h.update U (Obj.mapSeq fun _=>(#[]:Array Value))).get? a=some (seqObj "list" #[] e1):=(JK _ _ ka).trans ga
   refine IX (listUpdate_at gk rfl (IX (wpAny_letGo (IX (seqEpoch_at a2 rfl ?_)))) (by lia) (Je _));rw[a5,hf];simp only[Jb,if_false];refine IX (listUpdate_at a2 rfl ?_ (Je _) (by rw[JC,hp'.length_eq];lia));simp only[bne_self_eq_false,Jb,if_false];refine Jp (fin _ tk _ _ (fun b o hb e=>(JK _ _ (Ne.symm hb)).trans ((JK _ _ (Ne.symm (nk b o e))).trans (kp b o hb e))) (get?_update_seq a2 fun _=>((arrOf st).toList.map (·.2)).toArray) hp' hw)
  by_cases h2:vs.toArray.size < 2
  ·rw[if_pos h2,if_pos h2];refine IX (Jp ?_);rw[StateT.run_pure];refine IX (Jp (tail _ (Array.Perm.refl _) rfl ?_));show ((G.zip vs.toArray).toList.map (·.2)).Pairwise _;rw[zs];rw[JC]at h2
   match vs,h2 with
   | [],_=>exact List.Pairwise.nil
   | [x],_=>exact K_ _ _
   | _::_::_,h2=>exact absurd h2 (by simp)
  ·rw[if_neg h2,if_neg h2];rw[JC]at h2;have ek:G=G.toList.toArray:=by rw[Array.toArray_toList]
   refine IX (?_:wpAny (model prog w) A (keyKind' G) _ E _);rw[ek];refine E1 (s:={ s with heap:=h,toks:=tk }) hP (by lia) ?_;rw[← ek];have LO:Tim.dQ prog w A E { s with heap:=h,toks:=tk } (G.zip vs.toArray) (tuples' true) (fun p=>rnk ltI (vs.map kf) (kf p.2)):=fun x y C hx hy hC=>by
    rw[zl]at hx hy;have pz:=qO (R:=fun v u=>pA h (kf v) u) (l:=vs) (m:=G.toList) (by
     have:∀ {l:LV9} {m:LV9},Paired (fun k u=>pA h k u) (l.map kf) m→Paired (fun v u=>pA h (kf v) u) l m:=fun {l}=>by
      induction l with
      | nil=>intro m r;cases r;exact .nil
      | cons v l ih=>intro m r;cases r with | cons r1 r2=>exact .cons r1 (ih r2)
     exact this hP)
    refine EZ (pz x hx) (pz y hy) ?_;rw[← uF CU (JX (Ls (a:=x.1) (b:=x.2) hx).2) (JX (Ls (a:=y.1) (b:=y.2) hy).2)];exact hC
   refine IX (Kf (Tim.yX LO (st:=SortSt.mk' (tuples' true) (G.zip vs.toArray) #[] 7 none) (Q:=fun _ J=>Tim.SB (G.zip vs.toArray) (tuples' true) J∧Tim.Seg (fun p=>rnk ltI (vs.map kf) (kf p.2)) (arrOf J) 0 (G.zip vs.toArray).size) ⟨Array.Perm.refl _,rfl,rfl⟩ rfl fun J B S'=>⟨B,S'⟩) ?_ fun _ _ e=>e);rintro⟨⟨⟩,J⟩ s' ⟨rfl,B,S'⟩;dsimp only at B S' ⊢;refine tail J B.perm B.ok ?_;have hp:((arrOf J).toList.map (·.2)).Perm vs:=by
    have:=(KC.mp B.perm).map (·.2)
    rw[zs]at this;exact this
   rw[JN,Km];intro i j hi hj a8;rw[JI]at hi hj;have q:=S' i j (Je _) (KP a8) (by rw[← B.size];exact hj);rw[Tim.aw (Jf hi),Tim.aw (Jf hj)]at q;have m1:(arrOf J)[i].2∈vs:=hp.mem_iff.mp (JX (by simp));have m2:(arrOf J)[j].2∈vs:=hp.mem_iff.mp (JX (by simp))
   have:=uF CU (ks:=vs.map kf) (JX m2) (JX m1)
   show ltI (kf (arrOf J)[j].2) (kf (arrOf J)[i].2)=false;rw[← this];exact JT (by lia)
end
theorem AF:∀ {l m:List β},l.Perm m→∀ {xs:List α},m=xs.map f→∃ ys:List α,ys.Perm xs∧l=ys.map f:=by
 intro l m h
 induction h with
 | nil=>intro xs e;exact⟨[],by rw[List.map_eq_nil_iff.mp e.symm],rfl⟩
 | cons x _ ih =>
  intro xs e;cases xs with
  | nil=>cases e
  | cons z xs =>
   rw[Jl]at e;injection e with e1 e2;obtain⟨ys,h1,h2⟩:=ih e2;exact⟨z::ys,h1.cons z,by rw[Jl,h2,e1]⟩
 | swap x y l =>
  intro xs e;cases xs with
  | nil=>cases e
  | cons z xs =>
   cases xs with
   | nil=>cases e
   | cons z' xs =>
    rw[Jl,Jl]at e;injection e with e1 e2;injection e2 with e2 e3;exact⟨z'::z::xs,List.Perm.swap _ _ _,by rw[Jl,Jl,e1,e2,e3]⟩
 | trans _ _ ih1 ih2 =>
  intro xs e;obtain⟨ys,h1,h2⟩:=ih2 e;obtain⟨zs,B,G⟩:=ih1 h2;exact⟨zs,B.trans h1,G⟩
section
variable {w:Wd9}{E:EV9}
theorem xD {d q:Addr}{es:Array DictEntry}{ep:Nat}{kf:Value→Int × Int}{Q:EV9}(hh:A.handled=none)(lo:(d == sysModules)=false)(r:rN s.heap d es ep)(sz:es.size≤sizeLine)
  (turn:∀ (v:Value) (h:Heap) (tk:Nat),(∃ e∈es.toList,v=e.key)→(∀ b o,s.heap.get? b=some o→h.get? b=some o)→wpAny (model prog w) A.in1.in1 (call (.ref q) [v]) (fun u s'=>∃ h' tk',s'={ s with heap:=h',toks:=tk' }∧(∀ b o,h.get? b=some o→h'.get? b=some o)∧pA h' (kf v) u) (fun _ _=>False) { s with heap:=h,toks:=tk })
  (fin:∀ (h1 h':Heap) (tk:Nat) (out:LV9) (c:Nat),(∀ b o,s.heap.get? b=some o→h1.get? b=some o)→(∀ b o,h1.get? b=some o→h'.get? b=some o)→h'.get? h1.objs.size=some (seqObj "list" out.toArray c)→out.Perm (es.toList.map (·.key))→out.Pairwise (fun x y=>ltI (kf y) (kf x)=false)→Q (.ref h1.objs.size) { s with heap:=h',toks:=tk }) :
  wpAny (model prog w) A (call (.builtin "sorted") [.ref d] [(Str.ofString "key",.ref q)]) Q E s:=by
 refine call_function_entry_kw kind_sorted plain_sorted entry_sorted (ksk_s1 _ _) ?_;unfold Builtin.«sorted»;refine IX (m:=checkCount "sorted" 1 1 _) (Jp (IX (kdu_collect (A:=A.in1) (B4 (es:=es) (ep:=ep) lo) hh r sz fun h1 J B G hi =>?_)))
 have ea:B.toList=es.toList.map (·.key):=by
  refine Ma fun j =>?_;rw[JL,Ko,Ko];by_cases hj:j < es.size
  ·have O:j < B.size:=by rw[hi.1];exact hj
   obtain⟨e,e1,e2⟩:=hi.2 j B[j] (Jf O);rw[e1,Jf O,e2];rfl
  ·rw[Lz (by rw[hi.1];lia),Lz (by lia)];rfl
 rw[ea];have U:(es.toList.map (·.key)).length≤sizeLine:=by simpa using sz
 refine IX (wpAny_newList ?_ U);have Y:(h1.push (seqObj "list" (es.toList.map (·.key)).toArray 0)).get? h1.objs.size=some (seqObj "list" (es.toList.map (·.key)).toArray 0):=Ju _ rfl
 have a0:∀ b o,s.heap.get? b=some o→(h1.push (seqObj "list" (es.toList.map (·.key)).toArray 0)).get? b=some o:=fun b o e=>IY _ (G b o e)
 have ne:∀ b o,s.heap.get? b=some o→b≠h1.objs.size:=fun b o e=>JJ (Jo (G b o e));show wpAny _ _ _ _ _ { s with heap:=h1.push (seqObj "list" (es.toList.map (·.key)).toArray 0),toks:=J }
 refine IX (wpAny_holding (wpAny_call_entry_kw slot_list_sort ⟨_,Y,rfl⟩ entry_list_sort (sw (kf:=kf) (s:={ s with heap:=h1.push (seqObj "list" (es.toList.map (·.key)).toArray 0),toks:=J }) Y U (fun v h tk hv kp =>?_) fun h' tk out c kp gS hp hw=>⟨_,rfl,Jp ⟨_,rfl,fin h1 h' tk out c G (fun b o e=>kp b o (JJ (Jo e)) (IY _ e)) gS hp hw⟩⟩) (ksk_l1 _ _)))
 obtain⟨e,he,rfl⟩:=I9.mp hv;exact turn e.key h tk ⟨e,he,rfl⟩ fun b o e=>kp b o (ne b o e) (a0 b o e)
end
abbrev rJ (x:Str)(p1 p2 p3 p4 p5 p6 p7 p8 p9 p10 p11:Pos)(j1 j2 j3 j4 x1:Nat):Expr:=.Tuple [.Subscript (.Subscript (.Name x p1) (.Constant (.int 0) j1 p2) p3) (.Constant (.int 1) j2 p4) p5,.Subscript (.Subscript (.Name x p6) (.Constant (.int 0) j3 p7) p8) (.Constant (.int 0) j4 p9) p10] x1 p11
section
variable {w:Wd9}{E:EV9}
theorem pT (G:-(2 ^ 63)≤k∧k < 2 ^ 63∧seqIndex? k 2=some i)(O : #[u,v][i]? = some r)(h:wpAny (model prog w) A (eval e env) (fun o B=>o=.ref a∧IsTup B.heap a #[u,v]∧Q r { B with toks:=B.toks + 1 }) E s)
  (U:∀ o z,subscripted (.Constant (.int k) j p) false o z=operate [o,z] (getItem o z)):wpAny (model prog w) A (eval (.Subscript e (.Constant (.int k) j p) p') env) Q E s:=by
 refine Subscript_ (Kf h (fun o B ⟨Y,J,q⟩ =>?_) fun _ _ x=>x);subst Y;refine wpAny_Constant_int ?_;exact subscriptTail_builtinR (x:=r) (s:={ B with toks:=B.toks + 1 }) (show Shared.TypeIs { B with toks:=B.toks + 1 } (.ref a) "tuple" from J.typeIs (s:=B)) slot_tuple_getitem.lookup (getItem_tuple (x:=r) (Q:=fun r' s'=>r'=r∧_) J G.1 G.2.1 G.2.2 O ⟨rfl,q⟩) (U _ _)
theorem Av (S:xt [x] [] scope)(hd:A.depth < recursionLimit)
  (ho:s.heap.get? fa=some (kla_obj name qual params (rJ x p1 p2 p3 p4 p5 p6 p7 p8 p9 p10 p11 j1 j2 j3 j4 x1) scope cl pm c' ctv)) (cr:s.heap.CodeRec (.ref c') qual) (O:s.heap.NoLimit)
  (hb:bindArgs (kla_fn name qual params (rJ x p1 p2 p3 p4 p5 p6 p7 p8 p9 p10 p11 j1 j2 j3 j4 x1) scope cl pm (.ref c') ctv) ⟨[.ref a],[]⟩=pure [(x,.ref a)]) (ha:IsTup s.heap a #[.ref b,z]) (hi:IsTup s.heap b #[.int i t,.int k t']) (hx:(x == ("__debug__" : Str))=false)
  (B:∀ (j:Nat) (p:Pos) o i,subscripted (.Constant (.int 0) j p) false o i=operate [o,i] (getItem o i)) (U:∀ (j:Nat) (p:Pos) o i,subscripted (.Constant (.int 1) j p) false o i=operate [o,i] (getItem o i))
  (Y:∀ env,starEach [Expr.Subscript (.Subscript (.Name x p1) (.Constant (.int 0) j1 p2) p3) (.Constant (.int 1) j2 p4) p5,.Subscript (.Subscript (.Name x p6) (.Constant (.int 0) j3 p7) p8) (.Constant (.int 0) j4 p9) p10] env=(false,eval (Expr.Subscript (.Subscript (.Name x p1) (.Constant (.int 0) j1 p2) p3) (.Constant (.int 1) j2 p4) p5) env)::starEach [.Subscript (.Subscript (.Name x p6) (.Constant (.int 0) j3 p7) p8) (.Constant (.int 0) j4 p9) p10] env)
  (a0:∀ env,starEach [Expr.Subscript (.Subscript (.Name x p6) (.Constant (.int 0) j3 p7) p8) (.Constant (.int 0) j4 p9) p10] env=(false,eval (Expr.Subscript (.Subscript (.Name x p6) (.Constant (.int 0) j3 p7) p8) (.Constant (.int 0) j4 p9) p10) env)::starEach [] env) :
  wpAny (model prog w) A (call (.ref fa) [.ref a]) (fun u s'=>∃ h' tk',s'={ s with heap:=h',toks:=tk' }∧(∀ b o,s.heap.get? b=some o→h'.get? b=some o)∧pA h' (k,i) u) E s:=by
 refine wpAny_call (kla_callFunE hd ho rfl S.co S.gen rfl cr ((BindsTo.of_eq hb) _ _ _ _ ?_));refine wpAny_newFunctionEnv S.nocell (fun y hy =>?_) (fun h' G J=>⟨O.fresh _ J,?_⟩) S.kind
 ·have e:y.1=x:=by rw[Jc.mp hy]
  rw[e];exact S.loc x Jg
 have hk:∀ b o,s.heap.get? b=some o→h'.get? b=some o:=fun b o e=>J.extBut b o (JJ (Jo e)) (IY _ e);have ha':IsTup h' a #[.ref b,z]:=let ⟨o,e,r⟩:=ha;⟨o,hk _ _ e,r⟩
 have hi':IsTup h' b #[.int i t,.int k t']:=let ⟨o,e,r⟩:=hi;⟨o,hk _ _ e,r⟩
 have lk:List.lookup x [(x,Value.ref a)]=some (.ref a):=by simp
 refine kla_codeExpr ?_;refine wpAny_Tuple (wpAny_items_cons ?_ (Y _));refine pT (a:=b) (r:=.int k t') (i:=1) ⟨by decide,by decide,rfl⟩ rfl (pT (a:=a) (r:=.ref b) (i:=0) ⟨by decide,by decide,rfl⟩ rfl (wpAny_Name (wpAny_loadName_local S.kind (S.loc x Jg) G (v:=.ref a) lk ⟨rfl,ha',rfl,hi',?_⟩) hx) (B _ _)) (U _ _);refine wpAny_items_cons ?_ (a0 _);refine pT (a:=b) (r:=.int i t) (i:=0) ⟨by decide,by decide,rfl⟩ rfl (pT (a:=a) (r:=.ref b) (i:=0) ⟨by decide,by decide,rfl⟩ rfl (wpAny_Name (wpAny_loadName_local S.kind (S.loc x Jg) G (v:=.ref a) lk ⟨rfl,ha',rfl,hi',?_⟩) hx) (B _ _)) (B _ _);refine wpAny_items_nil ⟨by show 2≤sizeLine;decide,_,_,rfl,fun b o e=>IY _ (hk b o e),?_⟩;exact⟨_,t',t,rfl,_,Ju _ rfl,rfl,_,rfl⟩
end
def kfH (H:Hp):Value→Int × Int
 | .ref a=>match H a with
  | some (.tup [.ref b,_])=>match H b with
   | some (.tup [.int x,.int y])=>(y,x)
   | _=>(0,0)
  | _=>(0,0)
 | _=>(0,0)
theorem FJ (i:iE H k a):kfH H (.ref a)=(k.1.2,k.1.1):=by
 obtain⟨b,h1,h2⟩:=i;unfold kfH;simp only[h1,h2]
abbrev FV (P:Pg9)(w:Wd9)(T:AS9)(t:TA):TE:=fun σ H Q=>t σ H fun vs H1=>∃ (d:Addr) (xs:List NE),vs=[.ref d]∧DN P w H1 d xs∧fT T H1 ∧
 ∀ (S:Addr) (ys:List NE) (H':Hp),cq T H1 H'→fT T H'→H1 S=none→H' S=some (.lst (ys.map fun e=>V.ref e.2.1))→ys.Perm xs→ys.Pairwise (fun e f=>ltI (f.1.1.2,f.1.1.1) (e.1.1.2,e.1.1.1)=false)→Q (.ref S) H'
section
theorem Cp (hr:dP (k + 3) X.A)(hM:X.mg "sorted" = none)(hB:nA X.mg X.base)(hC:CodeHd X.base c Pt)(Y:X.env.code=.ref c)(hT:(Pt,qual)∈T)(a4:(T.map (·.1)).Nodup)(hq:X.env.qual ++ "<lambda>" = qual)
  (S:xt [x] [] scope) (he:PA X [e] te) (hc:X.calm=true:=by rfl) (hx:(x == ("__debug__" : Str))=false:=by decide) (hg:Gl X "sorted" := by rfl) (a0:closureFor scope X.env=pure (clo X.env []):=by rfl) (a3:defaultsOf params X.env=([],[]):=by rfl)
  (hb:∀ (cl:List (Str × Addr)) (pm B:Value) (G a:Addr),bindArgs (kla_fn "<lambda>" qual params (rJ x p1 p2 p3 p4 p5 p6 p7 p8 p9 p10 p11 j1 j2 j3 j4 x1) scope cl pm (.ref G) B) ⟨[.ref a],[]⟩=pure [(x,.ref a)]:=by intros;rfl)
  (a5:∀ (j:Nat) (p:Pos) o i,subscripted (.Constant (.int 0) j p) false o i=operate [o,i] (getItem o i):=by intros;rfl) (a6:∀ (j:Nat) (p:Pos) o i,subscripted (.Constant (.int 1) j p) false o i=operate [o,i] (getItem o i):=by intros;rfl)
  (a7:∀ env,starEach [Expr.Subscript (.Subscript (.Name x p1) (.Constant (.int 0) j1 p2) p3) (.Constant (.int 1) j2 p4) p5,.Subscript (.Subscript (.Name x p6) (.Constant (.int 0) j3 p7) p8) (.Constant (.int 0) j4 p9) p10] env=(false,eval (Expr.Subscript (.Subscript (.Name x p1) (.Constant (.int 0) j1 p2) p3) (.Constant (.int 1) j2 p4) p5) env)::starEach [.Subscript (.Subscript (.Name x p6) (.Constant (.int 0) j3 p7) p8) (.Constant (.int 0) j4 p9) p10] env:=by intros;rfl)
  (a8:∀ env,starEach [Expr.Subscript (.Subscript (.Name x p6) (.Constant (.int 0) j3 p7) p8) (.Constant (.int 0) j4 p9) p10] env=(false,eval (Expr.Subscript (.Subscript (.Name x p6) (.Constant (.int 0) j3 p7) p8) (.Constant (.int 0) j4 p9) p10) env)::starEach [] env:=by intros;rfl)
  (a9:backTo pos (starEach [e] X.env)=(false,eval e X.env)::backTo pos (starEach [] X.env):=by rfl) (b0:(backTo pos (starEach [e] X.env)).any (·.1)=false:=by rfl) :
  PE X (.Call (.Name "sorted" p) [e] [⟨some "key",.Lambda params (rJ x p1 p2 p3 p4 p5 p6 p7 p8 p9 p10 p11 j1 j2 j3 j4 x1) scope lpos,kp⟩] pos) (FV X.prog X.w T te):=by
 intro pins s σ H Q I h;refine wpAny_Call_Name_kw (l_ I hg hM tQ ?_);refine callWith_kw (thn (he pos pins s σ H _ I h) fun us s1 ⟨vs,H1,I1,r,d,xs,e1,D,a1,q⟩ =>?_) a9 b0;subst e1;obtain⟨u,rfl,ru⟩:=jx r;cases ru;refine kws_cons (thn (Gd (pos:=lpos) [] hB hC Y hT a4 hq a0 a3 pins s1 σ H1 (fun v H2=>∃ J G B,v=.ref J∧H2 J=some (isE J (kla_obj "<lambda>" qual params (rJ x p1 p2 p3 p4 p5 p6 p7 p8 p9 p10 p11 j1 j2 j3 j4 x1) scope (clo X.env []) ((X.mg "__name__").getD .none) G B))∧H2 G=some (oJ G qual)∧fT T H2∧cq T H1 H2) I1 ⟨a1,fun J G B H' _ h1 h2 h3 h4=>⟨J,G,B,rfl,h1,h2,h3,h4⟩⟩) fun u2 s2 ⟨v2,H2,O,r2,J,G,B,e2,b1,b2,U,sT⟩=>kws_nil ?_)
 subst e2;cases r2;show wpAny _ _ (call (.builtin "sorted") [.ref d] [(Str.ofString "key",.ref J)]) _ _ _
 have tp:∀ b xs,H1 b=some (.tup xs)→H2 b=some (.tup xs):=fun b xs e=>sT.keep a1 e (by intro ps z;cases z);have D2:DN X.prog X.w H2 d xs:=D.keep (by rw[D.at_];exact sT.keep a1 D.at_ (by intro ps z;cases z)) tp;obtain⟨z,lo,o,es,ep,g1,g2,g3,g4,_,g5⟩:=D2.rd O.hok;have ek:es.toList.map (·.key)=xs.map fun e=>Value.ref e.2.1:=by
  rw[g4,JE,JE];rfl
 have a2:es.size≤sizeLine:=by
  have h1:=Jz List.length ek;rw[I0,I0,JI]at h1
  lia
 refine xD (kf:=kfH H2) (O.ok.hd hc) lo ⟨o,g1,g2,g3⟩ a2 (fun v h tk hv kp =>?_) fun h1 h' tk out cc b3 b4 gS hp hw =>?_
 ·obtain⟨en,b5,rfl⟩:=hv;obtain⟨ne,b6,e3⟩:∃ ne∈xs,en.key=Value.ref ne.2.1:=by
   have m1:en.key∈es.toList.map (·.key):=I9.mpr ⟨en,b5,rfl⟩;rw[ek]at m1;obtain⟨ne,h1,h2⟩:=I9.mp m1;exact⟨ne,h1,h2.symm⟩
  rw[e3];have nk:=(D2.keys ne b6).1;rw[FJ nk];obtain⟨b,k1,k2⟩:=nk;obtain⟨_,its,r1,i1⟩:=(show ci X.prog X.w H2 s2.heap _ (.tup _) from O.hok _ _ k1);obtain⟨_,b8,r2,i2⟩:=(show ci X.prog X.w H2 s2.heap _ (.tup _) from O.hok _ _ k2);obtain⟨u1,u2,rfl,q1,q2⟩:=qg r1;obtain⟨w1,w2,rfl,⟨t1,rfl⟩,⟨t2,rfl⟩⟩:=qg r2;cases q1;have I3:Inv X pins σ H2 { s2 with heap:=h,toks:=tk }:=O.kept (t':=tk) kp;have cr:h.CodeRec (.ref G) qual:=by
   obtain⟨c₂,o₂,b7,t₂,z₂,y₂,r₂⟩:=(O.hok G _ b2).1;cases z₂;exact⟨G,o₂,b7,t₂,rfl,kp _ _ y₂,r₂⟩
  have up:∀ {a:Addr} {xs:Array Value},IsTup s2.heap a xs→IsTup h a xs:=fun i=>let ⟨o,e,r⟩:=i;⟨o,kp _ _ e,r⟩
  exact Av (s:={ s2 with heap:=h,toks:=tk }) S (hr.in1.in1.depth) (kp _ _ (O.hok J _ b1).1) cr I3.nolimit (hb _ _ _ _ _) (up i1) (up i2) hx a5 a6 a7 a8
 ·rw[ek]at hp;obtain⟨ys,pm,rfl⟩:=AF hp rfl;have I3:Inv X pins σ H2 { s2 with heap:=h1,toks:=tk }:=O.kept (t':=tk) b3;have nS:H2 h1.objs.size=none:=I3.hok.fresh (I_ _);have hv:br (ys.map fun e=>V.ref e.2.1) (ys.map fun e=>Value.ref e.2.1):=by
   clear pm hw hp gS
   induction ys with
   | nil=>exact .nil
   | cons e ys ih=>exact .cons rfl ih
  have lz:(ys.map fun e=>V.ref e.2.1).length≤sizeLine:=by rw[I0,pm.length_eq];exact z
  have I4:Inv X pins σ (upd H2 h1.objs.size (.lst (ys.map fun e=>V.ref e.2.1))) { s2 with heap:=h',toks:=tk }:=I3.laid (t':=tk) b4 (I_ _) ⟨lz,_,cc,hv,gS⟩;have s4:=ak.new nS (.lst (ys.map fun e=>V.ref e.2.1));refine⟨.ref h1.objs.size,_,I4,rfl,q _ ys _ (sT.trans s4.toT) (s4.tabs U) ?_ ah pm ?_⟩
  ·cases e5:H1 h1.objs.size with
   | none=>rfl
   | some o5 =>
    by_cases hm:h1.objs.size∈T.map (·.1)
    ·obtain⟨p5,m5,e6⟩:=I9.mp hm;obtain⟨ps,h5,_⟩:=U p5 m5;rw[e6,nS]at h5;cases h5
    ·have:=sT _ _ e5 hm
     rw[nS]at this;cases this
  ·rw[JN]at hw;have al:∀ e∈ys,kfH H2 (.ref e.2.1)=(e.1.1.2,e.1.1.1):=fun e he=>FJ (D2.keys e (pm.mem_iff.mp he)).1;refine hw.imp_of_mem fun {a b} ha hb h =>?_;rw[al a ha,al b hb]at h;exact h
end
section
variable {σ0 cs:St}{k:Nat}{g:TG}{te:TE}{tt:TT}{H1:Hp}{Q:VK}
theorem vB {lo:Int}(Pv:Addr→Nat→List V→Hp→Prop)(hn:n≤sizeLine)(hl:∀ D i ys H,Pv D i ys H→H D=some (.lst ys)∧ys.length≤i)(h0:∀ D,H1 D=none→Pv D 0 [] (upd H1 D (.lst [])))
  (hs:∀ D i ys H,i < n→H1 D=none→Pv D i ys H→g (.int (lo + i)) σ0 H fun O H3=>O.drop k=cs∧tt O H3 fun b U=>if b=true then te O U fun y Y=>Y D=some (.lst ys)∧Pv D (i + 1) (ys++[y]) (upd Y D (.lst (ys++[y]))) else Pv D (i + 1) ys U)
  (hd:∀ D ys H,H1 D=none→Pv D n ys H→Q (.ref D) H) (mono:∀ x σ H (R B:SP9),(∀ σ' H',R σ' H'→B σ' H')→g x σ H R→g x σ H B)
  (G:∀ σ H (R B:VK),(∀ v H',R v H'→B v H')→te σ H R→te σ H B) (J:∀ σ H (R B:Bool→Hp→Prop),(∀ v H',R v H'→B v H')→tt σ H R→tt σ H B):ni σ0 k cs g tt te Q (Itr lo n) H1 :=
 tO n (fun i x=>x=.int (lo + i)) Pv hn (fun D i ys H hi p=>hi) (fun D ys H p=>I_ _) (fun D i ys H x H' hi p y=>y) hl h0 (fun D i x ys H hi hx hD p=>hx▸hs D i ys H hi hD p) hd mono G J
end
end L2
namespace L2
open PySem PySem.Spec PyProof.Rows
variable {H:Hp}{X:Cx}{s:Sh9}{pos:Pos}{prog:Pg9}{A:Around}{K:Frag}
section
theorem ao (S:aE X.N P sc)(B:PE X e te)(hi:X.N[i]? = some x:=by exact rfl)(G:Loc X.env.scope x:=by exact Or.inl rfl)(J:swapsWith e (some (.Name x pos')) pos.line X.env=pure false:=by rfl)(O:X.fn x=true∨X.env.scope.names.lookup x=some .local:=by first | exact .inl rfl | exact .inr rfl | assumption):
  PS X (.Assign [.Name x pos'] e pos) (BR te (rm i)):=xT S.nd hi G B J O
theorem aY (S:aE X.N P sc)(hi:X.N[i]? = some x:=by exact rfl)(B:Loc X.env.scope x:=by exact Or.inl rfl)(G:X.fn x=true∨X.env.scope.names.lookup x=some .local:=by first | exact .inl rfl | exact .inr rfl | assumption):PG X (.Name x pos) (rm i):=pQ S.nd hi B G
theorem hJ (B:X.N.Nodup:=by show List.Nodup (_::_);decide +kernel)(hi:X.N[i]? = some x:=by exact rfl)(G:Loc X.env.scope x:=by exact Or.inl rfl)(J:X.fn x=true∨X.env.scope.names.lookup x=some .local:=by exact Or.inr rfl):PG X (.Name x pos) (rm i):=pQ B hi G J
theorem bn (U:PE X o to)(Y:PA X (e::es) t)
  (G:attributeBase o "append" X.env (eval o X.env)=eval o X.env:=by rfl)
  (O:((backTo cpos (starEach (e::es) X.env)).all (fun x => !x.1) && (backToKw cpos (keywordEach [] X.env)).all (fun x=>x.1.isSome) && decide ((e::es).length + ([]:List Keyword).length + (if ([]:List Keyword).isEmpty then 0 else 1) < 30))=true:=by rfl)
  (J:(apos.endLine == cpos.line)=true:=by rfl) (hs:starEach (e::es) X.env=(false,eval e X.env)::starEach es X.env:=by rfl) (B:(backTo cpos (starEach es X.env)).any (·.1)=false:=by rfl) :
  PE X (.Call (.Attribute o "append" apos) (e::es) [] cpos) (tBM X.K "list" y_ to t):=tf PySem.F.plainAttrs_list PySem.F.slot_list_append PySem.F.type_list_append tz U Y G O J hs B
end
theorem nw (h:∀ p H',H p=none→ak H H'→H' p=some o→R p H'):Nw H o R:=fun p B=>h p _ B (ak.new B o) ah
theorem leZ (h:Nat.ble n sizeLine=true):n≤sizeLine:=Nat.le_of_ble_eq_true h
end L2
namespace Qs
open PySem L2
def top (i:Nat):Stmt:=PySem.Challenge.pw_quartersheet_k66_whole_rings_area_and_ri.main.body.getD i (.Pass ⟨0,0,0,0⟩)
structure Tx (K:Frag)(mg:Mg9):Prop where
 b_isinstance:mg "isinstance" = none
 b_int:mg "int" = none
 b_bool:mg "bool" = none
 c_MOST:∃ t,mg "MOST" = some (.int 40 t)
 b_all:mg "all" = none
 b_str:mg "str" = none
 b_len:mg "len" = none
 c_QUARTERS:∃ t,mg "QUARTERS" = some (.str "0123" t)
 b_range:mg "range" = none
 b_min:mg "min" = none
 b_max:mg "max" = none
 b_tuple:mg "tuple" = none
 b_sorted:mg "sorted" = none
 b_dict:mg "dict" = none
 b_enumerate:mg "enumerate" = none
 b_abs:mg "abs" = none
 b_sum:mg "sum" = none
def txt (ds:List Nat):Str:=⟨(ds.map (48 + ·)).toArray⟩
theorem fA (ds:List Nat):(txt ds).length=ds.length:=by
 rw[dt];simp[txt]
theorem ug (h:∀ d∈ds,d < 4):IsC (txt ds):=fun c B=>by
 have hc':∃ d∈ds,48 + d=c:=by simpa[txt] using B
 obtain⟨d,G,e⟩:=hc'
 have:=h d G
 lia
theorem gr (ds:List Nat):dig (txt ds)=ds:=by
 unfold dig txt;rw[JE];have e:((fun x=>x - 48) ∘ fun x=>48 + x)=(id:Nat→Nat):=by funext x;show 48 + x - 48=x;simp
 rw[e,My]
theorem kB {a b:Str}(h:a.cps.toList=b.cps.toList):a=b:=by
 obtain⟨a⟩:=a;obtain⟨b⟩:=b;have h':a.toList=b.toList:=h;have e:a=b:=Ll.mp h';rw[e]
theorem pC {z:Str}(h:IsC z):txt (dig z)=z:=by
 refine kB ?_;have e:(txt (dig z)).cps.toList=(z.cps.toList.map (· - 48)).map (48 + ·):=rfl;rw[e,JE];have B:∀ c∈z.cps.toList,((fun x=>48 + x) ∘ fun x=>x - 48) c=id c:=fun c G=>by
  have:=h c G
  show 48 + (c - 48)=c
  lia
 rw[Jk B,My]
theorem dO:("" : Str)=⟨#[]⟩:=by decide +kernel
theorem C5:∀ ds:List Nat,Txt.join ("" : Str) (ds.map one)=txt ds:=by
 intro ds;have key:∀ ds:List Nat,Str.join ⟨#[]⟩ (ds.map one)=txt ds:=by
  intro ds
  induction ds with
  | nil=>rfl
  | cons d r ih =>
   cases r with
   | nil=>rfl
   | cons e r =>
    refine kB ?_;show (one d++⟨#[]⟩++Str.join ⟨#[]⟩ ((e::r).map one)).cps.toList=_;rw[ih];show ((#[48 + d] ++ #[])++(txt (e::r)).cps).toList=_;simp[txt]
 rw[dO];show Builtin.Str.glued ⟨#[]⟩ (ds.map one)=_;rw[StrLaws.glued_eq_join];exact key ds
def pre (z:Str)(k:Nat):Str:=⟨(z.cps.toList.take k).toArray⟩
theorem d8 (z:Str)(k:Nat):Txt.slice z none (some (k:Int))=pre z k:=by
 by_cases h:k≤z.length
 ·have e:=PyProof.Rows.slice_closes_to (x:=z) (j:=(k:Int)) ⟨by simp,by rw[← dt];lia⟩;rw[beq_iff_eq]at e;rw[e];unfold pre;simp
 ·have e:Builtin.Str.strSliceIndices none (some (k:Int)) 1 z.length=(List.range z.length).map fun j:Nat=>(0 + 1 * (j:Int)).toNat:=by
   unfold Builtin.Str.strSliceIndices;dsimp only;unfold sliceRange;have h1:¬ (k:Int) < 0:=by simp
   have h2:max (0:Int) (min (k:Int) (z.length:Int))=(z.length:Int):=by lia
   simp only[show (1:Int) > 0 by decide,if_true,h1,if_false,h2];by_cases h0:(0:Int) < (z.length:Int)
   ·rw[if_pos h0];have B:(((z.length:Int) - 0 + 1 - 1) / 1).toNat=z.length:=by simp
    rw[B]
   ·rw[if_neg h0];have B:z.length=0:=by lia
    rw[B];rfl
  unfold Txt.slice;rw[e,I0,K4];rw[if_pos (by simp)];refine kB ?_;unfold pre;rw[Ji (by rw[← dt];lia)]
theorem pN (z:Str)(k:Nat):(pre z k).length=min k z.length:=by
 rw[dt,dt];simp[pre]
theorem pO (h:IsC z)(k:Nat):IsC (pre z k):=fun c B=>h c (by
 have hc':c∈z.cps.toList.take k:=by simpa[pre] using B
 exact KB hc')
theorem ii (a b:Str):(a++b).length=a.length + b.length:=by
 show (a.cps++b.cps).size=_;rw[Array.size_append];rfl
theorem GX {d:Nat}(h:d < 4):atI ("0123" : Str).cps.toList (d:Int)=some (48 + d) :=
 four (P:=fun d=>atI ("0123" : Str).cps.toList (d:Int)=some (48 + d)) (by decide +kernel) (by decide +kernel) (by decide +kernel) (by decide +kernel) h
theorem Cc:("0123" : Str).length≤sizeLine:=by decide +kernel
def CD (a b c d:Tr):Bool:=a.isCol && (decide (a=a) && (decide (b=a) && (decide (c=a) && (decide (d=a) && true))))
def e_ (a b c d:Tr):Tr:=if CD a b c d then a else .four a b c d
def q0:Tr→Tr | .col i=>.col i | .four a _ _ _=>a
def q1:Tr→Tr | .col i=>.col i | .four _ b _ _=>b
def q2:Tr→Tr | .col i=>.col i | .four _ _ c _=>c
def q3:Tr→Tr | .col i=>.col i | .four _ _ _ d=>d
theorem mK:CD a b c d=true↔a.isCol=true∧b=a∧c=a∧d=a:=by
 unfold CD;simp only[Kv,decide_eq_true_eq,and_true,true_and]
theorem rj (a b c d:Tr):q0 (e_ a b c d)=a∧q1 (e_ a b c d)=b∧q2 (e_ a b c d)=c∧q3 (e_ a b c d)=d:=by
 unfold e_;by_cases h:CD a b c d=true
 ·rw[if_pos h];obtain⟨h1,rfl,rfl,rfl⟩:=mK.mp h;cases d with
  | col i=>exact⟨rfl,rfl,rfl,rfl⟩
  | four=>cases h1
 ·rw[if_neg h];exact⟨rfl,rfl,rfl,rfl⟩
def DT (H:Hp)(v:V)(n:Int)(t:Tr):Prop:=∃ p x,v=.ref p∧H p=some (.tup [.int n,x])∧bS H x t
theorem n8 {K:Frag}:kitOne K (.type "int") (.type "tuple")=some false:=by kernel_rfl
def qk (t:Tr):Nat→Tr
 | 0=>q0 t
 | 1=>q1 t
 | 2=>q2 t
 | _=>q3 t
def sd (t:Tr)(d:Nat)(x:Tr):Tr:=e_ (if d=0 then x else q0 t) (if d=1 then x else q1 t) (if d=2 then x else q2 t) (if d=3 then x else q3 t)
def jC (t:Tr):List Nat→Tr→Tr
 | [],o=>o
 | d::ds,o=>sd t d (jC (qk t d) ds o)
theorem Er (U:d < 4)(Y:k < 4):qk (sd t d x) k=if k=d then x else qk t k:=by
 unfold sd;obtain⟨B,G,J,O⟩:=rj (if d=0 then x else q0 t) (if d=1 then x else q1 t) (if d=2 then x else q2 t) (if d=3 then x else q3 t);rcases k with _ | _ | _ | _ | k
 ·show q0 _=_;rw[B];by_cases h:d=0
  ·rw[if_pos h,if_pos h.symm]
  ·rw[if_neg h,if_neg (Ne.symm h)];rfl
 ·show q1 _=_;rw[G];by_cases h:d=1
  ·rw[if_pos h,if_pos h.symm]
  ·rw[if_neg h,if_neg (Ne.symm h)];rfl
 ·show q2 _=_;rw[J];by_cases h:d=2
  ·rw[if_pos h,if_pos h.symm]
  ·rw[if_neg h,if_neg (Ne.symm h)];rfl
 ·show q3 _=_;rw[O];by_cases h:d=3
  ·rw[if_pos h,if_pos h.symm]
  ·rw[if_neg h,if_neg (Ne.symm h)];rfl
 ·lia
def aQ:Nat→Tr→Prop
 | _,.col i=>0≤i∧i≤35
 | 0,.four ..=>False
 | n + 1,.four a b c d=>aQ n a∧aQ n b∧aQ n c∧aQ n d∧CD a b c d=false
theorem aQ.deep:∀ {n:Nat} {t:Tr},aQ n t→t.deep≤n
 | _,.col i,_=>Je _
 | 0,.four ..,h=>h.elim
 | n + 1,.four a b c d,⟨ha,hb,hc,hd,_⟩=>by
  have:=ha.deep
  have:=hb.deep
  have:=hc.deep
  have:=hd.deep
  show max a.deep (max b.deep (max c.deep d.deep)) + 1≤n + 1
  lia
theorem aQ.col (h:0≤i∧i≤35):aQ n (.col i):=by cases n<;>exact h
theorem aQ.q (h:aQ (n + 1) t)(k:Nat):aQ n (qk t k):=by
 cases t with
 | col i =>
  have z:aQ n (.col i):=aQ.col h;rcases k with _ | _ | _ | k<;>exact z
 | four a b c d =>
  obtain⟨B,G,J,O,_⟩:=h;rcases k with _|_|_|k
  ·exact B
  ·exact G
  ·exact J
  ·exact O
theorem aQ.up (h:aQ n t):aQ (n + 1) t:=by
 induction t generalizing n with
 | col i=>exact aQ.col (by cases n<;>exact h)
 | four a b c d ia ib ic id =>
  cases n with
  | zero=>exact h.elim
  | succ n =>
   obtain⟨B,G,J,O,U⟩:=h;exact⟨ia B,ib G,ic J,id O,U⟩
theorem tF (B:aQ n a)(G:aQ n b)(J:aQ n c)(O:aQ n d):aQ (n + 1) (e_ a b c d):=by
 unfold e_
 split
 ·exact B.up
 ·rename_i h
  exact⟨B,G,J,O,by simpa using h⟩
theorem Bg (h:aQ (n + 1) t)(B:aQ n x):aQ (n + 1) (sd t d x):=by
 unfold sd;have G:=h.q 0;have h1:=h.q 1;have h2:=h.q 2;have J:=h.q 3;refine tF ?_ ?_ ?_ ?_<;>split<;>assumption
theorem re:∀ {n:Nat} {ds:List Nat} {t o:Tr},ds.length≤n→aQ n t→aQ (n - ds.length) o→aQ n (jC t ds o)
 | n,[],t,o,_,_,h=>h
 | 0,d::ds,t,o,B,_,_=>by simp at B
 | n + 1,d::ds,t,o,B,ht,ho=>by
  have hl':ds.length≤n:=by simpa using B
  refine Bg ht (re hl' (ht.q d) ?_);have e:n + 1 - (d::ds).length=n - ds.length:=by simp
  rw[e]at ho;exact ho
section
variable {P:Pg9}{w:Wd9}{K:Frag}{mg:Mg9}{base:Heap}{CX:CXT}{f:Addr}{fd:Fd9}
theorem qo {z:Str}:(z=("" : Str))↔z.length=0:=by
 constructor
 ·rintro rfl;decide +kernel
 ·intro h;apply kB
  have e:z.cps.toList=[]:=JP (by rw[← dt];exact h);rw[e];decide +kernel
def rst (z:Str):Str:=⟨(z.cps.toList.drop 1).toArray⟩
theorem Aq (h:0 < z.length):Txt.slice z (some 1) none=rst z:=by
 have e:=PyProof.Rows.slice_closes_from (x:=z) (i:=1) ⟨by decide,by rw[← dt];lia⟩;rw[beq_iff_eq]at e;rw[e];unfold rst
 congr 2
 show (z.cps.toList.drop 1).take ((z.cps.toList.length:Int) - 1).toNat=_;rw[Ji];rw[KN,← dt];simp
theorem Ei (z:Str):(rst z).length=z.length - 1:=by rw[dt,dt];simp[rst]
theorem Ej (h:IsC z):IsC (rst z):=fun c B=>h c (by
 have hc':c∈z.cps.toList.drop 1:=by simpa[rst] using B
 exact LP hc')
theorem Fs {z:Str}(h:0 < z.length):atI z.cps.toList 0=some (z.cps.getD 0 0):=by
 have B:0 < z.cps.size:=h;refine bV (j:=0) ?_;simp[Kb,B]
theorem ak.none (s:ak H H')(h:H' l=none):H l=none:=by
 cases q:H l with
 | none=>rfl
 | some o=>rw[s _ _ q]at h;cases h
theorem iP:dig ("" : Str)=[]:=by decide +kernel
theorem Fe (h:0 < z.length):dig z=(z.cps.getD 0 0 - 48)::dig (rst z):=by
 have B:0 < z.cps.size:=h;have J:0 < z.cps.toList.length:=by simpa using B
 have e:z.cps.toList=z.cps.getD 0 0::z.cps.toList.drop 1:=by
  have G:=J0 (l:=z.cps.toList) (i:=0) J;rw[Mw]at G;have O:z.cps.getD 0 0=z.cps.toList[0]:=by simp[Kb,B]
  rw[O];exact G
 unfold dig rst
 conv=>lhs;rw[e]
 rfl
end
def cnt:Tr→Nat
 | .col _=>1
 | .four a b c d=>cnt a + cnt b + cnt c + cnt d
theorem zY:∀ t,1≤cnt t
 | .col _=>I_ 1
 | .four a b c d=>by
  have:=zY a
  show 1≤cnt a + cnt b + cnt c + cnt d
  lia
theorem xh (a b c d:Tr):cnt (e_ a b c d)≤cnt a + cnt b + cnt c + cnt d:=by
 unfold e_
 split
 ·lia
 ·exact I_ _
theorem Ia:cnt (q0 t) + cnt (q1 t) + cnt (q2 t) + cnt (q3 t)≤cnt t + 3:=by
 cases t with
 | col i=>show 1 + 1 + 1 + 1≤1 + 3;decide
 | four a b c d=>show cnt a + cnt b + cnt c + cnt d≤cnt a + cnt b + cnt c + cnt d + 3;simp
theorem DI (B:d < 4):cnt (sd t d x) + cnt (qk t d)≤cnt t + 3 + cnt x:=by
 unfold sd;have h:=xh (if d=0 then x else q0 t) (if d=1 then x else q1 t) (if d=2 then x else q2 t) (if d=3 then x else q3 t);have h2:=Ia (t:=t);generalize e_ (if d=0 then x else q0 t) (if d=1 then x else q1 t) (if d=2 then x else q2 t) (if d=3 then x else q3 t)=g at *;rcases d with _ | _ | _ | _ | d
 ·have h':cnt g≤cnt x + cnt (q1 t) + cnt (q2 t) + cnt (q3 t):=h;show cnt g + cnt (q0 t)≤_
  lia
 ·have h':cnt g≤cnt (q0 t) + cnt x + cnt (q2 t) + cnt (q3 t):=h;show cnt g + cnt (q1 t)≤_
  lia
 ·have h':cnt g≤cnt (q0 t) + cnt (q1 t) + cnt x + cnt (q3 t):=h;show cnt g + cnt (q2 t)≤_
  lia
 ·have h':cnt g≤cnt (q0 t) + cnt (q1 t) + cnt (q2 t) + cnt x:=h;show cnt g + cnt (q3 t)≤_
  lia
 ·lia
theorem tP:∀ (ds:List Nat) (t o:Tr),(∀ d∈ds,d < 4)→cnt (jC t ds o)≤cnt t + 3 * ds.length + cnt o
 | [],t,o,_=>by show cnt o≤_;simp
 | d::ds,t,o,h=>by
  have h1:=DI (t:=t) (x:=jC (qk t d) ds o) (h d Jg);have h2:=tP ds (qk t d) o fun x B=>h x (Ja _ B);show cnt (sd t d (jC (qk t d) ds o))≤_;rw[Jv]
  lia
theorem zH (m:Int):∃ d:Nat,d < 4∧m % 4=(d:Int):=⟨(m % 4).toNat,by lia,by lia⟩
theorem Dy (B:IsC z):∀ d∈dig z,d < 4:=fun d h=>by
 obtain⟨c,G,rfl⟩:=I9.mp h
 have:=B c G
 omega
def dgt (x y m:Nat):Nat:=x / 2 ^ m % 2 + 2 * (y / 2 ^ m % 2)
def low (n x y:Nat):List Nat:=(List.range n).map fun k=>dgt x y (n - 1 - k)
theorem yz (x y m:Nat):dgt x y m < 4:=by unfold dgt;lia
theorem uZ (n x y:Nat):(low n x y).length=n:=by simp[low]
theorem CT (i x y:Nat):low (i + 1) x y=dgt x y i::low i x y:=by
 unfold low;rw[Lx,Jl,JE];refine congr (Jz List.cons ?_) (Jk fun k B =>?_)
 ·rfl
 ·have:=Ke.mp B
  show dgt x y (i + 1 - 1 - (k + 1))=dgt x y (i - 1 - k)
  congr 1
  lia
def sqX:Nat→List Nat→Nat
 | _,[]=>0
 | n,d::ds=>d % 2 * 2 ^ (n - 1) + sqX (n - 1) ds
def sqY:Nat→List Nat→Nat
 | _,[]=>0
 | n,d::ds=>d / 2 * 2 ^ (n - 1) + sqY (n - 1) ds
def bo (t:Tr)(L:List (List Nat × Int)):Tr:=L.foldl (fun t p=>jC t p.1 (.col p.2)) t
theorem iA (t:Tr)(L:List (List Nat × Int))(p:List Nat × Int):bo t (L++[p])=jC (bo t L) p.1 (.col p.2):=by unfold bo;rw[K5];rfl
def POk (n:Nat)(p:List Nat × Int):Prop:=(∀ d∈p.1,d < 4)∧p.1.length≤n∧0≤p.2∧p.2≤35
theorem mT:∀ (L:List (List Nat × Int)) (t:Tr),(∀ p∈L,POk n p)→aQ n t→aQ n (bo t L)
 | [],_,_,g=>g
 | p::L,t,h,g=>by
  obtain⟨_,h2,B⟩:=h p Jg;exact mT L _ (fun q G=>h q (Ja _ G)) (re h2 g (aQ.col B))
def eZ (d:Nat):List (List Nat × Int)→List (List Nat × Int)
 | []=>[]
 | ([],_)::M=>eZ d M
 | (e::ds,c)::M=>if e=d then (ds,c)::eZ d M else eZ d M
theorem jL (d:Nat):∀ A B:List (List Nat × Int),eZ d (A++B)=eZ d A++eZ d B
 | [],_=>rfl
 | ([],_)::A,B=>jL d A B
 | (e::ds,c)::A,B=>by
  show (if e=d then (ds,c)::eZ d (A++B) else eZ d (A++B))=(if e=d then (ds,c)::eZ d A else eZ d A)++eZ d B;by_cases h:e=d
  ·rw[if_pos h,if_pos h,jL d A B];rfl
  ·rw[if_neg h,if_neg h,jL d A B]
theorem E7 (a b c d:Tr):e_ (qk (e_ a b c d) 0) (qk (e_ a b c d) 1) (qk (e_ a b c d) 2) (qk (e_ a b c d) 3)=e_ a b c d:=by
 obtain⟨B,h1,h2,G⟩:=rj a b c d;show e_ (q0 _) (q1 _) (q2 _) (q3 _)=_;rw[B,h1,h2,G]
theorem lh:∀ (M:List (List Nat × Int)) (t:Tr),(∀ p∈M,p.1≠[]∧∀ d∈p.1,d < 4)→e_ (qk t 0) (qk t 1) (qk t 2) (qk t 3)=t →
  bo t M=e_ (bo (qk t 0) (eZ 0 M)) (bo (qk t 1) (eZ 1 M)) (bo (qk t 2) (eZ 2 M)) (bo (qk t 3) (eZ 3 M))
 | [],t,_,h=>h.symm
 | ([],c)::M,t,h,_=>absurd rfl (h _ Jg).1
 | (e::ds,c)::M,t,h,_=>by
  have B:e < 4:=(h _ Jg).2 e Jg;have G:=lh M (sd t e (jC (qk t e) ds (.col c))) (fun p J=>h p (Ja _ J)) (E7 _ _ _ _);have key:∀ d,d < 4→bo (qk (sd t e (jC (qk t e) ds (.col c))) d) (eZ d M)=bo (qk t d) (eZ d ((e::ds,c)::M)):=fun d O=>by
   rw[Er B O];show _=bo (qk t d) (if e=d then (ds,c)::eZ d M else eZ d M);by_cases k:d=e
   ·rw[if_pos k,if_pos k.symm,k];rfl
   ·rw[if_neg k,if_neg (Ne.symm k)]
  show bo (jC t (e::ds) (.col c)) M=_;rw[← key 0 (by decide),← key 1 (by decide),← key 2 (by decide),← key 3 (by decide),← G];rfl
theorem POk.le (h:POk n p)(B:n≤m):POk m p:=⟨h.1,JA h.2.1 B,h.2.2⟩
theorem uo (d:Nat):∀ M:List (List Nat × Int),(∀ p∈M,POk n p)→∀ p∈eZ d M,POk (n - 1) p
 | [],_,p,h=>by cases h
 | ([],_)::M,h,p,G=>uo d M (fun q J=>h q (Ja _ J)) p G
 | (e::ds,c)::M,h,p,G=>by
  have O:=uo d M (fun q J=>h q (Ja _ J));obtain⟨h1,h2,U⟩:=h _ Jg;have B:p∈(if e=d then (ds,c)::eZ d M else eZ d M):=G;by_cases k:e=d
  ·rw[if_pos k]at B;rcases Jr.mp B with rfl | B
   ·have h2':ds.length + 1≤n:=h2;exact⟨fun x Y=>h1 x (Ja _ Y),by show ds.length≤n - 1;lia,U⟩
   ·exact O p B
  ·rw[if_neg k]at B;exact O p B
theorem EN (h:one d=one e):d=e:=by
 have h':=Jz (fun s:Str=>s.cps.toList) h;have h2:[48 + d]=[48 + e]:=h';simpa using h2
def cell (ns:List Int)(k:Nat):Int:=(ns[k]?).getD 0
def lvs:List Nat→Tr→List (List Nat × Int)
 | z,.col i=>[(z,i)]
 | z,.four a b c d=>lvs (z++[0]) a++(lvs (z++[1]) b++(lvs (z++[2]) c++lvs (z++[3]) d))
theorem d_:∀ (t:Tr) (z:List Nat),(lvs z t).length=cnt t
 | .col _,_=>rfl
 | .four a b c d,z=>by
  show (lvs (z++[0]) a++(lvs (z++[1]) b++(lvs (z++[2]) c++lvs (z++[3]) d))).length=cnt a + cnt b + cnt c + cnt d;rw[I8,I8,I8,d_ a,d_ b,d_ c,d_ d];lia
def jK:Tr→List Nat→Option Tr
 | t,[]=>some t
 | .col _,_::_=>none
 | .four a b c d,k::w=>jK (qk (.four a b c d) k) w
theorem qU:∀ (w:List Nat) (t:Tr) (v:List Nat),jK t (w++v)=(jK t w).bind fun u=>jK u v
 | [],t,v=>rfl
 | k::w,.col i,v=>rfl
 | k::w,.four a b c d,v=>qU w (qk (.four a b c d) k) v
theorem ng (a b:Str):dig (a++b)=dig a++dig b:=by
 unfold dig;show (a.cps++b.cps).toList.map _=_;simp
theorem vq (d:Nat):dig (one d)=[d]:=by
 show [48 + d - 48]=[d];rw[show 48 + d - 48=d by simp]
theorem rE (z:Str)(k:Nat):dig (pre z k)=(dig z).take k:=by
 unfold dig pre;simp
theorem big (h:n≤1000000):n≤sizeLine:=JA h (by decide)
theorem yR (h:d < 4):Str.ofString (toString ((d:Nat):Int))=one d :=
 four (P:=fun d=>Str.ofString (toString ((d:Nat):Int))=one d) (by decide +kernel) (by decide +kernel) (by decide +kernel) (by decide +kernel) h
def sV (ds:List Nat):V:=.str (txt ds)
theorem F2 (h:IsC z):sV (dig z)=.str z:=by unfold sV;rw[pC h]
theorem D5 (h:IsC z)(k:Nat):txt ((dig z).take k)=pre z k:=by rw[← rE,pC (pO h k)]
def bP (near:List Nat):List Nat→Tr→LN9
 | z,.col _=>[z]
 | z,.four a b c d=>near.flatMap fun e=>match e with
  | 0=>bP near (z++[e]) a
  | 1=>bP near (z++[e]) b
  | 2=>bP near (z++[e]) c
  | _=>bP near (z++[e]) d
theorem js (B z:List Nat)(a b c d:Tr):bP B z (.four a b c d)=B.flatMap fun e=>bP B (z++[e]) (qk (.four a b c d) e):=by
 show B.flatMap _=B.flatMap _
 congr 1
 funext e
 rcases e with _|_|_|e<;>rfl
def yI (near:List Nat):Prop:=near=[2,3]∨near=[0,2]∨near=[0,1]∨near=[1,3]
theorem gC (h:yI near):∀ (t:Tr) (z:List Nat),(bP near z t).length≤cnt t
 | .col _,_=>I_ 1
 | .four a b c d,z=>by
  rw[js];have B:=gC h a;have G:=gC h b;have J:=gC h c;have O:=gC h d;show _≤cnt a + cnt b + cnt c + cnt d;rcases h with h | h | h | h
  ·have e:(near.flatMap fun e=>bP near (z++[e]) (qk (.four a b c d) e))=bP near (z++[2]) c++bP near (z++[3]) d:=by
    rw[show (near.flatMap fun e=>bP near (z++[e]) (qk (.four a b c d) e))=([2,3].flatMap fun e=>bP near (z++[e]) (qk (.four a b c d) e)) by rw[← h]];simp[qk,q2,q3]
   rw[e,I8];have h1:=J (z++[2]);have h2:=O (z++[3])
   lia
  ·have e:(near.flatMap fun e=>bP near (z++[e]) (qk (.four a b c d) e))=bP near (z++[0]) a++bP near (z++[2]) c:=by
    rw[show (near.flatMap fun e=>bP near (z++[e]) (qk (.four a b c d) e))=([0,2].flatMap fun e=>bP near (z++[e]) (qk (.four a b c d) e)) by rw[← h]];simp[qk,q0,q2]
   rw[e,I8];have h1:=B (z++[0]);have h2:=J (z++[2])
   lia
  ·have e:(near.flatMap fun e=>bP near (z++[e]) (qk (.four a b c d) e))=bP near (z++[0]) a++bP near (z++[1]) b:=by
    rw[show (near.flatMap fun e=>bP near (z++[e]) (qk (.four a b c d) e))=([0,1].flatMap fun e=>bP near (z++[e]) (qk (.four a b c d) e)) by rw[← h]];simp[qk,q0,q1]
   rw[e,I8];have h1:=B (z++[0]);have h2:=G (z++[1])
   lia
  ·have e:(near.flatMap fun e=>bP near (z++[e]) (qk (.four a b c d) e))=bP near (z++[1]) b++bP near (z++[3]) d:=by
    rw[show (near.flatMap fun e=>bP near (z++[e]) (qk (.four a b c d) e))=([1,3].flatMap fun e=>bP near (z++[e]) (qk (.four a b c d) e)) by rw[← h]];simp[qk,q1,q3]
   rw[e,I8];have h1:=G (z++[1]);have h2:=O (z++[3])
   lia
def rD (near:List Nat):List Nat→List Nat→Tr→LN9
 | p,[],t=>bP near p t
 | p,_::_,.col _=>[p]
 | p,e::r,.four a b c d=>rD near (p++[e]) r (qk (.four a b c d) e)
theorem oh (B:List Nat):∀ (a b p:List Nat) (t u:Tr),jK t a=some u→rD B p (a++b) t=rD B (p++a) b u
 | [],b,p,t,u,h=>by rw[← Option.some.inj h];simp
 | e::a,b,p,.col _,u,h=>by cases h
 | e::a,b,p,.four x y z w,u,h=>by
  show rD B (p++[e]) (a++b) (qk (.four x y z w) e)=_;rw[oh B a b _ _ u h];simp
theorem tE:∀ (a:List Nat) (n:Nat) (t u:Tr),aQ n t→jK t a=some u→a.length≤n∧aQ (n - a.length) u
 | [],n,t,u,g,h=>by rw[← Option.some.inj h];exact⟨Je _,g⟩
 | e::a,n,.col _,u,g,h=>by cases h
 | e::a,0,.four ..,u,g,h=>g.elim
 | e::a,n + 1,.four x y z w,u,g,h=>by
  obtain⟨h1,h2⟩:=tE a n _ u (g.q e) h;refine⟨by simpa using h1,?_⟩;rw[show n + 1 - (e::a).length=n - a.length by simp];exact h2
theorem yA (t:Tr)(k:Nat):cnt (qk t k)≤cnt t:=by
 cases t with
 | col i=>rcases k with _ | _ | _ | k<;>exact I_ _
 | four a b c d =>
  show _≤cnt a + cnt b + cnt c + cnt d;rcases k with _ | _ | _ | k
  ·show cnt a≤_;lia
  ·show cnt b≤_;lia
  ·show cnt c≤_;lia
  ·show cnt d≤_;simp
theorem xg:∀ (a:List Nat) (t u:Tr),jK t a=some u→cnt u≤cnt t
 | [],t,u,h=>by rw[← Option.some.inj h];exact I_ _
 | e::a,.col _,u,h=>by cases h
 | e::a,.four x y z w,u,h=>JA (xg a _ u h) (yA _ e)
theorem AT {t:Tr}{w:List Nat}{i d:Nat}{x y z v:Tr}(h:jK t (w.take i)=some (.four x y z v))(B:w[i]? = some d):jK t (w.take (i + 1))=some (qk (.four x y z v) d):=by
 rw[Jw,B,qU,h];rfl
set_option genInjectivity false in
structure Yx (K:Frag)(mg:Mg9) where
 c_NoSide:Addr
 c_SheetError:Addr
 m_NoSide:mg "NoSide" = some (.ref c_NoSide)
 m_SheetError:mg "SheetError" = some (.ref c_SheetError)
 x_NoSide:Ii K mg "NoSide" c_NoSide
 k_NoSide:IW K c_NoSide
 s_NoSide:PySem.W.exmOne K (.ref c_NoSide) (.ref c_SheetError)=some true
 v_NoSide:kitOne K (.ref c_NoSide) (.type "ValueError")=some true
section
variable {P:Pg9}{w:Wd9}{K:Frag}{mg:Mg9}{base:Heap}{CX:CXT}{f:Addr}{fd:Fd9}
structure Ty (P:Pg9)(w:Wd9)(K:Frag)(mg:Mg9):Prop where
 sides:∃ a,mg "SIDES" = some (.ref a)∧KTu K a [.str "up",.str "right",.str "down",.str "left"]
 cross:∃ a p0 p1 p2 p3,mg "CROSSINGS" = some (.ref a)∧KD P w K a [(.inr "up",.ref p0),(.inr "right",.ref p1),(.inr "down",.ref p2),(.inr "left",.ref p3)] ∧
  KTu K p0 [.str "2301",.str "23"]∧KTu K p1 [.str "1032",.str "02"]∧KTu K p2 [.str "2301",.str "01"]∧KTu K p3 [.str "1032",.str "13"]
def Dir (side s1 s2:Str)(dx dy:Int):Prop:=(side = "up" ∧ s1 = "2301" ∧ s2 = "23" ∧ dx=0∧dy=-1)∨(side = "right" ∧ s1 = "1032" ∧ s2 = "02" ∧ dx=1∧dy=0)∨(side = "down" ∧ s1 = "2301" ∧ s2 = "01" ∧ dx=0∧dy=1)∨(side = "left" ∧ s1 = "1032" ∧ s2 = "13" ∧ dx=-1∧dy=0)
def occ (s z:Str):Bool := !(Builtin.Str.occurrences s z 0 s.length 1).isEmpty
def St1 (s1 s2:Str)(dx dy:Int)(d:Nat):Prop:=∃ e,e < 4∧atI s1.cps.toList (d:Int)=some (48 + e) ∧
 ((occ s2 (one d)=true∧((e % 2:Nat):Int)=((d % 2:Nat):Int) + dx∧((e / 2:Nat):Int)=((d / 2:Nat):Int) + dy)∨(occ s2 (one d)=false∧((e % 2:Nat):Int)=((d % 2:Nat):Int) - dx∧((e / 2:Nat):Int)=((d / 2:Nat):Int) - dy))
theorem GO (h:Dir side s1 s2 dx dy):s1.length≤sizeLine∧∀ d,d < 4→St1 s1 s2 dx dy d:=by
 rcases h with⟨rfl,rfl,rfl,rfl,rfl⟩|⟨rfl,rfl,rfl,rfl,rfl⟩|⟨rfl,rfl,rfl,rfl,rfl⟩|⟨rfl,rfl,rfl,rfl,rfl⟩
 ·exact⟨by decide +kernel,fun d B=>four (P:=fun d=>St1 _ _ _ _ d) ⟨2,by decide,by decide +kernel,.inr (by decide +kernel)⟩ ⟨3,by decide,by decide +kernel,.inr (by decide +kernel)⟩ ⟨0,by decide,by decide +kernel,.inl (by decide +kernel)⟩ ⟨1,by decide,by decide +kernel,.inl (by decide +kernel)⟩ B⟩
 ·exact⟨by decide +kernel,fun d B=>four (P:=fun d=>St1 _ _ _ _ d) ⟨1,by decide,by decide +kernel,.inl (by decide +kernel)⟩ ⟨0,by decide,by decide +kernel,.inr (by decide +kernel)⟩ ⟨3,by decide,by decide +kernel,.inl (by decide +kernel)⟩ ⟨2,by decide,by decide +kernel,.inr (by decide +kernel)⟩ B⟩
 ·exact⟨by decide +kernel,fun d B=>four (P:=fun d=>St1 _ _ _ _ d) ⟨2,by decide,by decide +kernel,.inl (by decide +kernel)⟩ ⟨3,by decide,by decide +kernel,.inl (by decide +kernel)⟩ ⟨0,by decide,by decide +kernel,.inr (by decide +kernel)⟩ ⟨1,by decide,by decide +kernel,.inr (by decide +kernel)⟩ B⟩
 ·exact⟨by decide +kernel,fun d B=>four (P:=fun d=>St1 _ _ _ _ d) ⟨1,by decide,by decide +kernel,.inr (by decide +kernel)⟩ ⟨0,by decide,by decide +kernel,.inl (by decide +kernel)⟩ ⟨3,by decide,by decide +kernel,.inr (by decide +kernel)⟩ ⟨2,by decide,by decide +kernel,.inl (by decide +kernel)⟩ B⟩
abbrev nM:Stmt:=top 12
theorem xI:aE ["thing"] ["thing"] (aq nM):={}
def yW (z:Str):Prop:=inV (.str z) [.str "up",.str "right",.str "down",.str "left"]=true
theorem Dw (h:Dir side s1 s2 dx dy):yW side:=by
 rcases h with⟨rfl,_⟩|⟨rfl,_⟩|⟨rfl,_⟩|⟨rfl,_⟩<;>(unfold yW;decide +kernel)
theorem Dx (h:Dir side s1 s2 dx dy):IsC s2∧yI (dig s2):=by
 rcases h with⟨_,_,rfl,_⟩|⟨_,_,rfl,_⟩|⟨_,_,rfl,_⟩|⟨_,_,rfl,_⟩
 ·exact⟨by unfold IsC;decide +kernel,.inl (by decide +kernel)⟩
 ·exact⟨by unfold IsC;decide +kernel,.inr (.inl (by decide +kernel))⟩
 ·exact⟨by unfold IsC;decide +kernel,.inr (.inr (.inl (by decide +kernel)))⟩
 ·exact⟨by unfold IsC;decide +kernel,.inr (.inr (.inr (by decide +kernel)))⟩
def jv (H:Hp)(x:V):Prop:=(j8 x=true∧inV x [.str "up",.str "right",.str "down",.str "left"]=false)∨(∃ a ys,x=.ref a∧(H a=some (.lst ys)∨H a=some (.tup ys)))
theorem jv.up (h:jv H x)(s:ak H H'):jv H' x:=by
 rcases h with h|⟨a,ys,e,h|h⟩
 ·exact .inl h
 ·exact .inr ⟨a,ys,e,.inl (s _ _ h)⟩
 ·exact .inr ⟨a,ys,e,.inr (s _ _ h)⟩
def qv:Sp:=fun vs H Q _=>∃ x,vs=[x]∧((∃ z,x=.str z∧yW z∧Q (.bl true) H)∨(jv H x∧Q (.bl false) H))
theorem yb (T:Tx K mg)(U:Ty P w K mg)(F:bE K "is_side" "is_side" nM f fd .none):bF P w K mg base CX 1 f fd ["thing"] qv:=by
 refine F.ok xI (fun vs H Q E h =>?_) (fun a0 A outer s H vs Q E hr h =>?_)
 ·obtain⟨_,rfl,_⟩:=h;rfl
 obtain⟨x,rfl,h⟩:=h;obtain⟨O,B,Y⟩:=U.sides;refine⟨_,(ag (aB (eJ (Gg hr) (pv 0) (kJ (v:=.ref _) rfl B rfl) (by with_unfolding_all rfl)))),?_⟩;rcases h with⟨z,rfl,hz,J⟩|⟨⟨fx,bx⟩|⟨a,ys,rfl,G⟩,J⟩
 ·refine⟨O,_,rfl,.inr Y.sq,.inl ⟨rfl,rfl,?_⟩⟩;show Q (.bl (inV (.str z) _)) H;rw[hz];exact J
 ·refine⟨O,_,rfl,.inr Y.sq,.inl ⟨fx,rfl,?_⟩⟩;show Q (.bl (inV x _)) H;rw[bx];exact J
 ·refine⟨O,_,rfl,.inr Y.sq,.inr ⟨a,ys,rfl,?_,rfl,J⟩⟩;rcases G with G | G
  ·exact .inl (SqL.of G)
  ·exact .inr (SqT.of G)
abbrev nN:Stmt:=top 13
theorem xJ:aE ["thing"] ["thing"] (aq nN):={}
def sB (c:Nat):Bool:=decide (c∈("0123" : Str).cps.toList)
theorem FF (c:Nat):c∈("0123" : Str).cps.toList↔48≤c∧c≤51:=by
 have e:("0123" : Str).cps.toList=[48,49,50,51]:=by decide +kernel
 rw[e];simp only[Jr,Lk,or_false]
 lia
def cB (z:Str):Bool:=decide (z.length≤40) && (List.range z.length).all fun i=>sB (z.cps.getD i 0)
theorem GT (z:Str):cB z=true↔z.length≤40∧IsC z:=by
 unfold cB;rw[Kv,decide_eq_true_eq,Mf];refine and_congr_right fun _=>⟨fun h c G =>?_,fun h i hi =>?_⟩
 ·obtain⟨i,hi,e⟩:=List.mem_iff_getElem.mp G;have hi':i < z.length:=by rw[dt];exact hi
  have:=h i (Ke.mpr hi')
  unfold sB at this;rw[decide_eq_true_eq,FF]at this;have J:z.cps.getD i 0=c:=by
   have B:i < z.cps.size:=hi';rw[← e];simp[Kb,B]
  rw[J]at this;exact this
 ·unfold sB;rw[decide_eq_true_eq,FF];exact uA h (Ke.mp hi)
def oF (K:Frag):Sp:=fun vs H Q _=>∃ x,vs=[x]∧((∃ z,x=.str z∧z.length≤1000∧∀ H',ak H H'→Q (.bl (cB z)) H')∨((∃ t,kW K H x t∧kitOne K t (.type "str")=some false)∧Q (.bl false) H))
theorem wI (T:Tx K mg)(F:bE K "is_code" "is_code" nN f fd .none):bF P w K mg base CX 1 f fd ["thing"] (oF K):=by
 refine F.ok xJ (fun vs H Q E h =>?_) (fun J A outer s H vs Q E hr h =>?_)
 ·obtain⟨x,rfl,_⟩:=h;rfl
 obtain⟨x,rfl,h⟩:=h;refine⟨_,(ac (bG (PW.pt (sZ (eI (eG (az (cV "str") rfl T.b_isinstance bv (aa (pv 0) (aa (gR T.b_str yE) af))))) (qH (aH qQ (az bC rfl T.b_len cW (aa (pv 0) af)) (zh T.c_MOST))))) (ag (aB k_)) aO) (ag (aB (az (DK rfl) rfl T.b_all GW (aa (iM (N':=["sign"]) [] [] [] 1 {} (nU (pv 0)) (fun _ _ _ _ _=>(hJ (i:=0))) (fun _ _ _ _ _=>(eJ kK (pv 0) (EF T.c_QUARTERS) (by with_unfolding_all rfl)))) af))))),?_⟩
 rcases h with⟨z,rfl,O,q⟩|⟨⟨t,ty,U⟩,q⟩
 ·have B:z.length≤sizeLine:=small O;refine⟨_,_,_,rfl,.str z,Gw,aA (fS ?_)⟩;refine⟨_,_,rfl,⟨B,rfl⟩,cP (aA (cz (fun c =>?_) (fun c =>?_)))⟩
  ·have c':(40:Int) < (z.length:Int):=JB c;have e:cB z=false:=by unfold cB;rw[JT (by lia)];rfl
   have:=q H (ak.refl H)
   rw[e]at this;exact this
  ·have c':¬ (40:Int) < (z.length:Int):=fun w=>c (Jd w);refine⟨[],rfl,_,rfl,Bn (fun D i ys H'=>H'=upd H D (.lst ys)∧ys=(List.range i).map fun i=>V.bl (!(Builtin.Str.occurrences ("0123" : Str) (sgn z i) 0 ("0123" : Str).length 1).isEmpty)) B (fun D i ys H' p=>⟨by rw[p.1,ah],by rw[p.2];simp⟩) (fun D _=>⟨rfl,rfl⟩) (fun D i ys H' hi G p=>⟨rfl,_,_,rfl,rfl,by rw[p.1,ah],by rw[p.1,yL],by rw[p.2,Kt,Jn];rfl⟩) (fun D ys H' G p =>?_) (fun _ _ _ _ _ h=>h _ _) fun σ H' R R' h1 h2 =>?_⟩
   rotate_left
   ·obtain⟨v,e,x,y,Y,h4,h5⟩:=aM h2;exact aZ e ⟨x,y,Y,h4,h1 _ _ h5⟩
   obtain⟨rfl,rfl⟩:=p;have e:(List.range z.length).map (fun i=>V.bl (!(Builtin.Str.occurrences ("0123" : Str) (sgn z i) 0 ("0123" : Str).length 1).isEmpty))=((List.range z.length).map fun i=>sB (z.cps.getD i 0)).map V.bl:=by
    rw[JE];refine Jk fun i _ =>?_;show V.bl (!(Builtin.Str.occurrences ("0123" : Str) (⟨#[z.cps.getD i 0]⟩:Str) 0 ("0123" : Str).length 1).isEmpty)=_
    rw[PySem.StrLaws.found_one];rfl
   refine⟨D,(List.range z.length).map fun i=>sB (z.cps.getD i 0),rfl,SqL.of (by rw[ah,e]),?_⟩;have e2:(((List.range z.length).map fun i=>sB (z.cps.getD i 0)).all id)=cB z:=by
    unfold cB;rw[Jd (by lia),List.all_map];rfl
   rw[e2];exact q _ (ak.new G _)
 ·exact⟨_,_,_,rfl,ty,U,aA (mR q)⟩
abbrev jQ:Stmt:=top 15
theorem uC:aE ["code"] ["code"] (aq jQ):={}
def fW:Sp:=fun vs H Q _=>∃ z,vs=[.str z]∧IsC z∧z.length≤40∧∀ H',ak H H'→Q .non H'
theorem uT (T:Tx K mg)(q:bW CX)(F:bE K "need_code" "need_code" jQ f fd .none)(B:Fok P w K mg base CX 1 "is_code" ["thing"] [] (oF K)):bF P w K mg base CX 2 f fd ["code"] fW:=by
 refine F.ok uC (fun vs H Q E h =>?_) (fun G A outer s H vs Q E J h =>?_)
 ·obtain⟨x,rfl,_⟩:=h;rfl
 obtain⟨z,rfl,O,U,Y⟩:=h;refine⟨_,(ag (bG (eI (eG (aj B q J (aa (pv 0) af)))) (ag qK) aO)),?_⟩;refine⟨_,rfl,.inl ⟨z,rfl,by lia,fun H' sm =>?_⟩⟩;rw[(GT z).mpr ⟨U,O⟩];exact (aA (fS (Y H' sm)))
abbrev jP:Stmt:=top 16
theorem uB:aE ["side"] ["side"] (aq jP):={}
def mB (Y:Yx K mg):Sp:=fun vs H Q E=>∃ x,vs=[x]∧((∃ z,x=.str z∧yW z∧Q .non H)∨(jv H x∧E (.ref Y.c_NoSide) none H))
theorem uR (T:Tx K mg)(Y:Yx K mg)(q:bW (CXe P w))(F:bE K "need_side" "need_side" jP f fd .none)(B:Fok P w K mg base (CXe P w) 1 "is_side" ["thing"] [] qv):bF P w K mg base (CXe P w) 2 f fd ["side"] (mB Y):=by
 refine F.okX uB (fun vs H Q E h =>?_) (fun J A outer s H vs Q E O h =>?_)
 ·obtain⟨x,rfl,_⟩:=h;rfl
 obtain⟨x,rfl,h⟩:=h;refine⟨_,(ag (bG (eI (eG (aj B q O (aa (pv 0) af)))) (ag (Ce Y.x_NoSide Eo cG)) aO)),?_⟩;rcases h with⟨z,rfl,U,G⟩|⟨bx,G⟩
 ·exact⟨_,rfl,.inl ⟨z,rfl,U,aA (fS G)⟩⟩
 ·exact⟨_,rfl,.inr ⟨bx,aA (mR G)⟩⟩
theorem GR (b:List Nat):∀ a:Nat,b.foldl (fun a d=>a * 2 + d % 2) a=a * 2 ^ b.length + cxs b:=by
 unfold cxs
 induction b with
 | nil=>intro a;simp
 | cons d r ih =>
  intro a;simp only[LV,Jv];rw[ih (a * 2 + d % 2),ih (0 * 2 + d % 2),Kg,Kk,Kk];rw[show a * 2 * 2 ^ r.length=a * (2 ^ r.length * 2) by rw[Kx,LF 2]]
  lia
theorem GP (b:List Nat):∀ a:Nat,b.foldl (fun a d=>a * 2 + d / 2) a=a * 2 ^ b.length + cys b:=by
 unfold cys
 induction b with
 | nil=>intro a;simp
 | cons d r ih =>
  intro a;simp only[LV,Jv];rw[ih (a * 2 + d / 2),ih (0 * 2 + d / 2),Kg,Kk,Kk];rw[show a * 2 * 2 ^ r.length=a * (2 ^ r.length * 2) by rw[Kx,LF 2]]
  lia
theorem qb (a b:List Nat):cxs (a++b)=cxs a * 2 ^ b.length + cxs b:=by
 rw[← GR b (cxs a)];unfold cxs;rw[K5]
theorem qa (a b:List Nat):cys (a++b)=cys a * 2 ^ b.length + cys b:=by
 rw[← GP b (cys a)];unfold cys;rw[K5]
theorem fJ (d:Nat)(b:List Nat):cxs (d::b)=d % 2 * 2 ^ b.length + cxs b:=by
 have:=qb [d] b
 rw[show cxs [d]=d % 2 by simp[cxs]]at this;exact this
theorem fI (d:Nat)(b:List Nat):cys (d::b)=d / 2 * 2 ^ b.length + cys b:=by
 have:=qa [d] b
 rw[show cys [d]=d / 2 by simp[cys]]at this;exact this
theorem vA (b:List Nat):cxs b < 2 ^ b.length:=by
 induction b with
 | nil=>decide
 | cons d r ih =>
  rw[fJ,Jv,Kg];have h:d % 2 * 2 ^ r.length≤1 * 2 ^ r.length:=LN _ (by lia)
  lia
theorem vz (b:List Nat)(B:∀ d∈b,d < 4):cys b < 2 ^ b.length:=by
 induction b with
 | nil=>decide
 | cons d r G =>
  have ih':=G fun e J=>B e (Ja _ J);have O:=B d Jg;rw[fI,Jv,Kg];have h:d / 2 * 2 ^ r.length≤1 * 2 ^ r.length:=LN _ (by lia)
  lia
theorem yS {b c B m k:Int}{u v:Int}(h:B=b - c)(g:v=u - c * (m - 1)):B * m + v=b * m + u - c * (m * 2 - 1):=by
 subst h g;rw[Int.sub_mul,Int.mul_sub,Int.mul_sub]
 have:c * (m * 2)=c * m + c * m:=by rw[← Int.mul_assoc,Int.mul_comm (c * m) 2];lia
 lia
theorem vU {b c B m:Int}{u v:Int}(h:B=b + c)(g:v=u - c * (m - 1)):B * m + v=b * m + u + c:=by
 subst h g;rw[LX,Int.mul_sub]
 lia
theorem zk (d:Nat)(ds:List Nat):one d++txt ds=txt (d::ds):=by
 apply kB
 show (#[48 + d]++(ds.map (48 + ·)).toArray).toList=_;simp[txt]
theorem Ek {n:Nat}(h:n≤40):Builtin.Range.small ((n:Int) - 1) (-1) (-1)=true∧Builtin.Range.rangeSize ((n:Int) - 1) (-1) (-1)=(n:Int):=by
 have e:∀ m:Nat,m < 41→Builtin.Range.small ((m:Int) - 1) (-1) (-1)=true∧Builtin.Range.rangeSize ((m:Int) - 1) (-1) (-1)=(m:Int):=by decide +kernel
 exact e n (by lia)
abbrev qD:Stmt:=top 23
theorem gy:aE ["code","side","crossing","behind","at","sign"] ["code","side"] (aq qD):={}
inductive rW  (vs:List V)(H:Hp)(Q:VK):Prop
 | mk (z side s1 s2:Str) (dx dy:Int) (h_0:vs=[.str z,.str side]) (h_1:Dir side s1 s2 dx dy) (h_2:IsC z) (h_3:z.length≤40) (h_4:∀ H',ak H H' →   (∀ y,IsC y→y.length=z.length→((cxs (dig y):Nat):Int)=((cxs (dig z):Nat):Int) + dx→((cys (dig y):Nat):Int)=((cys (dig z):Nat):Int) + dy→Q (.str y) H') ∧   (∀ x' y':Nat,x' < 2 ^ z.length→y' < 2 ^ z.length→(x':Int)=((cxs (dig z):Nat):Int) - dx * (((2 ^ z.length:Nat):Int) - 1)→(y':Int)=((cys (dig z):Nat):Int) - dy * (((2 ^ z.length:Nat):Int) - 1)→Q .non H')):rW  vs H Q
def Ao:Sp:=fun vs H Q _=>rW  vs H Q
theorem wY (U:Ty P w K mg)(h:Dir side s1 s2 dx dy):∃ a kvs p,mg "CROSSINGS" = some (.ref a)∧KD P w K a kvs∧cF kvs (.inr side)=some (.ref p)∧KTu K p [.str s1,.str s2]:=by
 obtain⟨a,G,J,p2,O,g,B,k0,k1,k2,k3⟩:=U.cross;rcases h with⟨rfl,rfl,rfl,_⟩|⟨rfl,rfl,rfl,_⟩|⟨rfl,rfl,rfl,_⟩|⟨rfl,rfl,rfl,_⟩
 ·exact⟨a,_,G,g,B,by with_unfolding_all rfl,k0⟩
 ·exact⟨a,_,J,g,B,by with_unfolding_all rfl,k1⟩
 ·exact⟨a,_,p2,g,B,by with_unfolding_all rfl,k2⟩
 ·exact⟨a,_,O,g,B,by with_unfolding_all rfl,k3⟩
def qx (Y:Yx K mg):Sp:=fun vs H Q E=>Ao vs H Q E∨(∃ z x,vs=[.str z,x]∧IsC z∧z.length≤40∧jv H x∧∀ H',ak H H'→E (.ref Y.c_NoSide) none H')
theorem AQ (T:Tx K mg)(Y:Yx K mg)(U:Ty P w K mg)(q:bW (CXe P w))(F:bE K "beside" "beside" qD f fd .none)(G:Fok P w K mg base (CXe P w) 2 "need_code" ["code"] [] fW)(J:Fok P w K mg base (CXe P w) 2 "need_side" ["side"] [] (mB Y)):
  bF P w K mg base (CXe P w) 3 f fd ["code","side"] (qx Y):=by
 refine F.okX gy (fun vs H Q E h =>?_) (fun b7 A outer s H vs Q E hr h =>?_)
 ·rcases h with⟨_,_,_,_,_,_,rfl,_⟩|⟨_,_,rfl,_⟩<;>rfl
 obtain⟨aC,_,_,_,_,B,_⟩:=U.cross;refine⟨_,(ac (ba (aj G q hr (aa (pv 0) af))) (ac (ba (qN J hr FG (aa (pv 1) af))) (ac (ao (i:=2) gy (zg (kJ (v:=.ref _) rfl B rfl) (pv 1) (fun _ _=>rfl))) (ac (ao (i:=3) gy cG) (ac (aR PassesOwn.leaving rfl (kI rfl T.b_range (aa (ai fq (az bC rfl T.b_len cW (aa (pv 0) af)) ae) (aa (Co xv ae) (aa (Co xv ae) af)))) (aY (i:=4) gy) (ac (ao (i:=5) gy (ay j7 (pv 0) (pv 4))) (ac (ao (i:=3) gy (ai cO (ay j7 (ay aD (pv 2) ae) (bL eQ rfl T.b_int eU (aa (pv 5) af))) (pv 3))) (ag (bG (aH kK (pv 5) (ay aD (pv 2) ae) (by with_unfolding_all rfl)) (ag (aB (ai cO (c9 i8 (pv 0) fB (di (pv 4))) (pv 3)))) aO))))) (ag (aB xX))))))),?_⟩;rcases h with h|⟨z,x,rfl,hz,hl,bx,q'⟩
 rotate_left
 ·exact⟨z,rfl,hz,hl,fun H1 O=>⟨_,rfl,.inr ⟨bx.up O,q' H1 O⟩⟩⟩
 obtain⟨z,a0,s1,s2,dx,dy,e0,hd,hz,hl,q'⟩:=h;subst e0;obtain⟨b3,kvs,p,g2,kd,kv,kp⟩:=wY U hd;have eC:aC=b3:=by
  rw[B]at g2;injection g2 with g2;injection g2 with g2
 subst eC;obtain⟨l1,st⟩:=GO hd;have hs:z.length≤sizeLine:=small (by lia);refine⟨z,rfl,hz,by omega,fun H1 O =>?_⟩;refine⟨_,rfl,.inl ⟨a0,rfl,Dw hd,?_⟩⟩;refine⟨aC,kvs,.inr a0,.ref p,rfl,rfl,kd,kv,?_⟩;obtain⟨r1,r2⟩:=Ek hl;refine⟨_,_,rfl,⟨hs,rfl⟩,_,rfl,_,rfl,_,_,_,z.length,rfl,by decide,⟨by decide,by decide⟩,r1,r2,gn (fun i σ H2=>i≤z.length∧H2=H1∧∃ (S:List Nat) (b:Str) (v4 v5:OW9),S.length=i∧(∀ d∈S,d < 4) ∧
  ((cxs S:Nat):Int)=((cxs ((dig z).drop (z.length - i)):Nat):Int) - dx * (((2 ^ i:Nat):Int) - 1)∧((cys S:Nat):Int)=((cys ((dig z).drop (z.length - i)):Nat):Int) - dy * (((2 ^ i:Nat):Int) - 1)∧b=txt S ∧
  σ=[some (.str z),some (.str a0),some (.ref p),some (.str b),v4,v5]) ⟨Je _,rfl,[],_,none,none,rfl,(fun _ h=>by cases h),?_,?_,dO,rfl⟩ ?_ ?_⟩
 ·rw[Lo,KR (by rw[cN];exact I_ _)];simp[cxs]
 ·rw[Lo,KR (by rw[cN];exact I_ _)];simp[cys]
 ·rintro i σ H2 hi ⟨_,rfl,S,b,v4,v5,hS,a3,hx,hy,rfl,rfl⟩;obtain⟨k,hk⟩:∃ k,z.length - i=k + 1:=⟨z.length - 1 - i,by lia⟩;have a1:k < z.length:=by lia
  have ek:(z.length:Int) - 1 + (i:Int) * -1=(k:Int):=by lia
  have a7:z.length - (i + 1)=k:=by lia
  obtain⟨d,a8,e1,e2⟩:=kG hz a1;have b8:=uA hz a1;have b4:z.cps.toList[k]? = some (48 + d):=by
   have b5:k < z.cps.size:=a1;have e3:z.cps.getD k 0=48 + d:=by lia
   rw[← e3];simp[Kb,b5]
  have a4:(dig z).drop k=d::(dig z).drop (k + 1):=by
   have a9:k < (dig z).length:=by rw[cN];exact a1
   have e4:=vw a1;rw[e2]at e4;rw[J0 a9]
   congr 1
   rw[Jy a9]at e4;exact Option.some.inj e4
  have a2:((dig z).drop (k + 1)).length=i:=by rw[KN,cN];lia
  obtain⟨e,b6,b0,b1⟩:=st d a8;have b2:∀ c∈e::S,c < 4:=fun c hc=>by
   rcases Jr.mp hc with rfl|hc
   ·exact b6
   ·exact a3 c hc
  rw[hk]at hx hy;dsimp only;rw[ek];refine⟨z,_,48 + d,rfl,rfl,hs,bV b4,?_⟩;refine⟨p,_,0,_,rfl,rfl,kp.sq,rfl,_,(d:Int),rfl,mS a8,(by show 1≤640;decide),s1,_,48 + e,rfl,rfl,l1,b0,_,_,rfl,rfl,small (by rw[fA];show 1 + S.length≤1000;lia),?_⟩;have eo:(⟨#[48 + e]⟩:Str)++txt S=txt (e::S):=zk e S;rw[eo];refine⟨p,_,1,_,rfl,rfl,kp.sq,rfl,_,_,rfl,rfl,aA (cz (fun c =>?_) (fun c =>?_))⟩
  ·have c':occ s2 (one d)=true:=c;rcases b1 with⟨_,a5,a6⟩ | ⟨hf,_⟩
   ·refine⟨_,rfl,z,rfl,hs,_,_,rfl,rfl,?_,?_⟩
    ·rw[d8];refine small ?_;rw[pN,fA,Jv];lia
    ·rw[d8];have dz:dig z=(dig z).take k++(d::(dig z).drop (k + 1)):=by rw[← a4,JZ]
     refine (q' H2 O).1 _ (IsC.app (pO hz k) (ug b2)) ?_ ?_ ?_
     ·rw[ii,pN,fA,Jv];lia
     ·rw[ng,rE,gr,qb,fJ,Jv,hS]
      conv=>rhs;rw[dz]
      rw[qb,fJ,Jv,a2]
      have:=vU (m:=((2 ^ i:Nat):Int)) a5 hx
      simp only[K6,KA]at this ⊢
      lia
     ·rw[ng,rE,gr,qa,fI,Jv,hS]
      conv=>rhs;rw[dz]
      rw[qa,fI,Jv,a2]
      have:=vU (m:=((2 ^ i:Nat):Int)) a6 hy
      simp only[K6,KA]at this ⊢
      lia
   ·rw[c']at hf;cases hf
  ·have c':¬ occ s2 (one d)=true:=c;rcases b1 with⟨ht,_⟩ | ⟨_,a5,a6⟩
   ·exact absurd ht c'
   ·refine⟨by assumption,rfl,e::S,_,_,_,by rw[Jv,hS],b2,?_,?_,rfl,rfl⟩
    ·rw[a7,a4,fJ,fJ,hS,a2,Kg]
     have:=yS (k:=0) (m:=((2 ^ i:Nat):Int)) a5 hx
     simp only[K6,KA]at this ⊢;exact this
    ·rw[a7,a4,fI,fI,hS,a2,Kg]
     have:=yS (k:=0) (m:=((2 ^ i:Nat):Int)) a6 hy
     simp only[K6,KA]at this ⊢;exact this
 ·rintro σ H2 ⟨_,rfl,S,b,v4,v5,hS,a3,hx,hy,rfl,rfl⟩;rw[Nat.sub_self,Mw]at hx hy;exact (q' H2 O).2 (cxs S) (cys S) (by rw[← hS];exact vA S) (by rw[← hS];exact vz S a3) hx hy
abbrev gM:Stmt:=top 31
theorem dU:aE ["tree","code","near","row","sign"] ["tree","code","near"] (aq gM):={}
inductive iY  (m:Nat)(vs:List V)(H:Hp)(Q:VK):Prop
 | mk (v:V) (t:Tr) (z y:Str) (k:Nat) (h_0:vs=[v,.str z,.str y]) (h_1:bS H v t) (h_2:aQ k t) (h_3:IsC z) (h_4:z.length + k≤100) (h_5:IsC y) (h_6:yI (dig y)) (h_7:k < m) (h_8:m≤41) (h_9:cnt t≤4000) (h_10:∀ l H',ak H H'→H l=none→H' l=some (.lst ((bP (dig y) (dig z) t).map sV))→Q (.ref l) H'):iY m vs H Q
def fO  (m:Nat):Sp:=fun vs H Q _=>iY m vs H Q
theorem jF (T:Tx K mg)(q:bW CX)(F:bE K "leaves_along" "leaves_along" gM f fd .none)(b:fg K fd ["tree","code","near"] [])(m:mg "leaves_along" = some (.ref f)):
  ∀ n,bF P w K mg base CX (1 + n) f fd ["tree","code","near"] (fO n)
 | 0=>by
  refine F.ok dU (fun vs H Q E h =>?_) (fun a0 A outer s H vs Q E hr h =>?_)
  ·obtain⟨_,_,_,_,_,rfl,_⟩:=h;rfl
  obtain⟨_,_,_,_,_,_,_,_,_,_,_,_,h,_⟩:=h;exact absurd h (Lr _)
 | m' + 1=>by
  have B:Fok P w K mg base CX (1 + m') "leaves_along" ["tree","code","near"] [] (fO m'):=fok F (jF T q F b m m') b m
  refine F.ok dU (fun vs H Q E h =>?_) (fun a0 A outer s H vs Q E hr h =>?_)
  ·obtain⟨_,_,_,_,_,rfl,_⟩:=h;rfl
  obtain⟨v,t,z,y,k,rfl,ht,gt,hz,hl,hy,Y,hk,hm,hc,q'⟩:=h;refine⟨_,(ac (bG (eI (eG (az (cV "tuple") rfl T.b_isinstance bv (aa (pv 0) (aa (gR T.b_tuple iR) af))))) (ag (aB (aP (av (pv 1) au)))) aO) (ac (ao (i:=3) dU (aP au)) (ac (aR Jm rfl (nU (pv 2)) (aY (i:=4) dU) (ag (ba (tf PySem.F.plainAttrs_list PySem.F.slot_list_extend PySem.F.type_list_extend nX (pv 3) (aa (aj B q hr (aa (ay aD (pv 0) (bL eQ rfl T.b_int eU (aa (pv 4) af))) (aa (ai cO (pv 1) (pv 4)) (aa (pv 2) af))) (hj:=by first | decide | simp | (simp only[Ms];lia))) af))))) (ag (aB (pv 3)))))),?_⟩
  have ly:y.length=2:=by
   rw[← cN];rcases Y with h | h | h | h<;>rw[h]<;>rfl
  cases ht with
  | col i =>
   refine⟨_,_,_,rfl,.int _,n8,aA (mR ?_)⟩;refine⟨(leZ rfl),fun l G =>?_⟩;refine q' l _ (ak.new G _) G ?_;rw[ah];show some (HO.lst [V.str z])=some (HO.lst [sV (dig z)]);rw[F2 hz]
  | @four p xa xb xc xd ta tb tc td e ja jb jc jd =>
   rcases k with _|k
   ·exact gt.elim
   refine⟨_,_,_,rfl,.tup e,n6,aA (fS ?_)⟩;refine⟨(leZ rfl),nw fun l H1 J s1 u1 =>?_⟩;have a1:((dig y).flatMap fun e=>bP (dig y) (dig z++[e]) (qk (.four ta tb tc td) e)).length≤4000:=by
    rw[← js];exact JA (gC Y _ _) hc
   refine⟨y,rfl,gn (fun (j:Nat) σ H2=>ak H H2∧j≤y.length∧∃ (o:OW9),H2 l=some (.lst ((((dig y).take j).flatMap fun e=>bP (dig y) (dig z++[e]) (qk (.four ta tb tc td) e)).map sV))∧σ=[some (.ref p),some (.str z),some (.str y),some (.ref l),o]) ⟨s1,Je _,none,u1,rfl⟩ ?_ ?_⟩
   ·rintro j σ H2 hj ⟨O,_,o,U,rfl⟩;have hj':j < y.length:=hj;obtain⟨d,hd,e1,e2⟩:=kG hy hj';have ed:(dig y)[j]? = some d:=by rw[← e2];exact vw hj'
    have key:∃ x,atI [xa,xb,xc,xd] (d:Int)=some x∧bS H x (qk (.four ta tb tc td) d):=by
     rcases d with _|_|_|_|d
     ·exact⟨xa,rfl,ja⟩
     ·exact⟨xb,rfl,jb⟩
     ·exact⟨xc,rfl,jc⟩
     ·exact⟨xd,rfl,jd⟩
     ·lia
    obtain⟨x,k1,k2⟩:=key;have l1:(one d).length=1:=rfl;rw[e1];refine⟨.inl ⟨rfl,_,SqL.of U⟩,_,(d:Int),rfl,mS hd,(by show 1≤640;decide),p,_,_,x,rfl,rfl,SqT.of (O _ _ e),k1,_,_,rfl,rfl,(by rw[l1];exact small (by lia)),x,_,z++one d,y,k,rfl,k2.up O.tups,gt.q d,IsC.app hz (IsC.one hd),by rw[ii,l1];lia,hy,Y,by lia,by lia,JA (yA _ d) hc,fun l2 H3 s3 a2 u3 =>?_⟩;rw[ng,vq]at u3;have et:((dig y).take (j + 1)).flatMap (fun e=>bP (dig y) (dig z++[e]) (qk (.four ta tb tc td) e))=((dig y).take j).flatMap (fun e=>bP (dig y) (dig z++[e]) (qk (.four ta tb tc td) e))++bP (dig y) (dig z++[d]) (qk (.four ta tb tc td) d):=by
     rw[Jw,ed,KQ];simp
    have n1:(((dig y).take j).flatMap fun e=>bP (dig y) (dig z++[e]) (qk (.four ta tb tc td) e)).length≤4000:=by
     refine JA ?_ a1;have fl:∀ g:Nat→LN9,(((dig y).take j).flatMap g).length≤((dig y).flatMap g).length:=fun g=>by
      conv=>rhs;rw[← JZ j (dig y),KQ,I8]
      simp
     exact fl _
    have n2:=gC Y (qk (.four ta tb tc td) d) (dig z++[d]);have n3:=yA (.four ta tb tc td) d;refine⟨l,l2,_,_,rfl,rfl,s3 _ _ U,u3,big (by rw[I0,I0];lia),ak.set (O.trans s3) J _,by assumption,_,?_,rfl⟩;rw[ah,et,Jn]
   ·rintro σ H2 ⟨O,_,o,U,rfl⟩;rw[Ji (by rw[cN];exact I_ _),← js]at U;exact (q' l H2 O J U)
def Il (Y:Yx K mg)(H:Hp)(Q:VK)(E:XK)(z:Str)(t:Tr)(x:V):Prop :=
 (∃ (side s1 s2:Str) (dx dy:Int),x=.str side∧Dir side s1 s2 dx dy ∧
  (∀ y,IsC y→y.length=z.length→((cxs (dig y):Nat):Int)=((cxs (dig z):Nat):Int) + dx→((cys (dig y):Nat):Int)=((cys (dig z):Nat):Int) + dy→∀ l H',ak H H'→H l=none→H' l=some (.lst ((rD (dig s2) [] (dig y) t).map sV))→Q (.ref l) H') ∧
  (∀ x' y':Nat,x' < 2 ^ z.length→y' < 2 ^ z.length→(x':Int)=((cxs (dig z):Nat):Int) - dx * (((2 ^ z.length:Nat):Int) - 1)→(y':Int)=((cys (dig z):Nat):Int) - dy * (((2 ^ z.length:Nat):Int) - 1)→∀ l H',ak H H'→H l=none→H' l=some (.lst [])→Q (.ref l) H'))
 ∨ (jv H x∧∀ H',ak H H'→E (.ref Y.c_NoSide) none H')
abbrev iw:Stmt:=top 32
theorem dq:aE ["sheet","code","side","other","tree","signs"] ["sheet","code","side"] (aq iw):={}
def gF (Y:Yx K mg):Sp:=fun vs H Q E=>∃ (ps:Addr) (n:Nat) (v x:V) (t:Tr) (z:Str),vs=[.ref ps,.str z,x]∧H ps=some (.tup [.int (n:Int),v])∧bS H v t∧aQ n t∧n≤40∧cnt t≤4000∧IsC z∧z.length≤40∧Il Y H Q E z t x
theorem qT (T:Tx K mg)(Y:Yx K mg)(U:Ty P w K mg)(q:bW (CXe P w))(F:bE K "beyond_leaf" "beyond_leaf" iw f fd .none)(a0:Fok P w K mg base (CXe P w) 3 "beside" ["code","side"] [] (qx Y))(G:Fok P w K mg base (CXe P w) 42 "leaves_along" ["tree","code","near"] [] (fO 41)):
  bF P w K mg base (CXe P w) 43 f fd ["sheet","code","side"] (gF Y):=by
 refine F.okX dq (fun vs H Q E h =>?_) (fun b3 A outer s H vs Q E hr h =>?_)
 ·obtain⟨_,_,_,_,_,_,rfl,_⟩:=h;rfl
 obtain⟨ps,n,v,x,t,z,rfl,a4,ht,gt,hn,hc,hz,hl,h⟩:=h;obtain⟨aC,_,_,_,_,B,_⟩:=U.cross;refine⟨_,(ac (ao (i:=3) dq (qN a0 hr FG (aa (pv 1) (aa (pv 2) af)))) (ac (bG (aH Gf (pv 3) xX) (ag (aB (aP au))) aO) (ac (ao (i:=4) dq (ay aD (pv 0) ae)) (ac (aR PassesOwn.leaving rfl (bR rfl T.b_range (aa (az bC rfl T.b_len cW (aa (pv 3) af)) af)) (aY (i:=5) dq) (ac (bG (eI (eG (az (cV "tuple") rfl T.b_isinstance bv (aa (pv 4) (aa (gR T.b_tuple iR) af))))) (ag (aB (aP (av (c9 i8 (pv 3) fB (di (pv 5))) au)))) aO) (ag (ao (i:=4) dq (ay aD (pv 4) (bL eQ rfl T.b_int eU (aa (ay j7 (pv 3) (pv 5)) af))))))) (ag (aB (aj G q hr (aa (pv 4) (aa (pv 3) (aa (ay aD (zg (kJ (v:=.ref _) rfl B rfl) (pv 2) (fun _ _=>rfl)) ae) af)))))))))),?_⟩
 rcases h with⟨a1,s1,s2,dx,dy,rfl,hd,h1,h2⟩|⟨bx,q'⟩
 rotate_left
 ·exact (.inr ⟨z,x,rfl,hz,hl,bx,q'⟩)
 obtain⟨a5,kvs,pc,g2,kd,kv,kp⟩:=wY U hd;have eC:aC=a5:=by
  rw[B]at g2;injection g2 with g2;injection g2 with g2
 subst eC;obtain⟨a6,a7⟩:=Dx hd;refine (.inl ⟨z,a1,s1,s2,dx,dy,rfl,hd,hz,hl,fun H1 J=>⟨fun y hy ly ex ey =>?_,fun x' y' a8 a2 ex ey =>?_⟩⟩)
 ·refine⟨rfl,aA (fS ?_)⟩;have a2:y.length≤sizeLine:=small (by lia);refine⟨ps,_,1,_,rfl,rfl,SqT.of (J _ _ a4),rfl,?_⟩;refine⟨_,_,rfl,⟨a2,rfl⟩,_,rfl,by simp,by lia,bY (fun (i:Nat) σ H2=>H2=H1∧i≤y.length∧∃ (v':V) (u:Tr) (o:OW9),jK t ((dig y).take i)=some u∧bS H1 v' u∧σ=[some (.ref ps),some (.str z),some (.str a1),some (.str y),some v',o]) ⟨rfl,Je _,v,t,none,rfl,ht.up J.tups,rfl⟩ ?_ ?_⟩
  ·rintro i σ H2 hi ⟨rfl,_,v',u,o,O,hu,rfl⟩;have hi':i < y.length:=by assumption
   rw[show (0:Int) + (i:Int)=(i:Int) by simp];cases hu with
   | col c =>
    refine⟨_,_,_,rfl,.int _,n8,aA (mR ?_)⟩;refine⟨_,rfl,y,rfl,a2,(leZ rfl),fun l a3 =>?_⟩;rw[d8];refine h1 y hy ly ex ey l _ (J.trans (ak.new a3 _)) (ak.free J a3) ?_;rw[ah];have e1:rD (dig s2) [] (dig y) t=[(dig y).take i]:=by
     have e2:=oh (dig s2) ((dig y).take i) ((dig y).drop i) [] t _ O;rw[JZ,Ku,J0 (by rw[cN];exact hi')]at e2;exact e2
    rw[e1];show some (HO.lst [V.str (pre y i)])=some (HO.lst [V.str (txt ((dig y).take i))]);rw[D5 hy]
   | @four p xa xb xc xd ta tb tc td e ja jb jc jd =>
    refine⟨_,_,_,rfl,.tup e,n6,aA (fS ?_)⟩;obtain⟨d,a9,e1,e2⟩:=kG hy hi';have key:∃ x,atI [xa,xb,xc,xd] (d:Int)=some x∧bS H2 x (qk (.four ta tb tc td) d):=by
     rcases d with _|_|_|_|d
     ·exact⟨xa,rfl,ja⟩
     ·exact⟨xb,rfl,jb⟩
     ·exact⟨xc,rfl,jc⟩
     ·exact⟨xd,rfl,jd⟩
     ·lia
    obtain⟨x,k1,k2⟩:=key;have ed:(dig y)[i]? = some d:=by rw[← e2];exact vw hi'
    have b4:=uA hy hi';have b0:y.cps.toList[i]? = some (48 + d):=by
     have b1:i < y.cps.size:=hi';have e3:y.cps.getD i 0=48 + d:=by lia
     rw[← e3];simp[Kb,b1]
    refine⟨y,_,48 + d,rfl,rfl,a2,bV b0,_,(d:Int),rfl,mS a9,(by show 1≤640;decide),p,_,_,x,rfl,rfl,SqT.of e,k1,rfl,by assumption,x,_,_,AT O ed,k2,rfl⟩
  ·rintro σ H2 ⟨rfl,_,v',u,o,O,hu,rfl⟩;rw[JU,Ji (by rw[cN];exact I_ _)]at O;obtain⟨gl,gu⟩:=tE _ _ _ _ gt O;rw[cN]at gl gu;refine⟨aC,kvs,.inr a1,.ref pc,rfl,rfl,kd,kv,pc,_,1,_,rfl,rfl,kp.sq,rfl,v',u,y,s2,n - y.length,rfl,hu,gu,hy,by lia,a6,a7,by lia,by simp,JA (xg _ _ _ O) hc,fun l H3 s3 b2 u3 =>?_⟩;refine h1 y hy ly ex ey l H3 (J.trans s3) (ak.free J b2) ?_;have e2:=oh (dig s2) (dig y) [] [] t u O;rw[J_,Ku]at e2;rw[e2];exact u3
 ·refine⟨rfl,aA (mR ?_)⟩;exact⟨(leZ rfl),fun l a3=>h2 x' y' a8 a2 ex ey l _ (J.trans (ak.new a3 _)) (ak.free J a3) ah⟩
end
def nd (ax:Bool)(d:Nat):Nat:=if ax then d / 2 else d % 2
def td (ax:Bool)(d:Nat):Nat:=if ax then d % 2 else d / 2
def cn (ax:Bool)(r:List Nat):Nat:=if ax then cys r else cxs r
def ct (ax:Bool)(r:List Nat):Nat:=if ax then cxs r else cys r
def nC (ax:Bool)(x y:Nat):Nat:=if ax then y else x
def tC' (ax:Bool)(x y:Nat):Nat:=if ax then x else y
def fV (ax s:Bool)(N1 T1 W x y w:Nat):Prop:=(if s then nC ax x y + w=N1 else nC ax x y=N1 + W)∧T1 < tC' ax x y + w∧tC' ax x y < T1 + W
instance (ax s:Bool) (N1 T1 W x y w:Nat):Decidable (fV ax s N1 T1 W x y w):=by unfold fV;infer_instance
def fl (P:Nat→Nat→Nat→Bool):List Nat→Tr→Nat→Nat→Nat→LN9
 | p,.col _,x,y,k=>if P x y (2 ^ k) then [p] else []
 | p,.four a b c d,x,y,k=>fl P (p++[0]) a x y (k - 1)++(fl P (p++[1]) b (x + 2 ^ (k - 1)) y (k - 1)++(fl P (p++[2]) c x (y + 2 ^ (k - 1)) (k - 1)++fl P (p++[3]) d (x + 2 ^ (k - 1)) (y + 2 ^ (k - 1)) (k - 1)))
def eK (ax s:Bool):List Nat:=match ax,s with
 | true,true=>[2,3]
 | true,false=>[0,1]
 | false,true=>[1,3]
 | false,false=>[0,2]
def gw (ax s:Bool)(N1 T1 W x y K:Nat):Prop:=tC' ax x y + K≤T1∨T1 + W≤tC' ax x y∨(if s then (N1≤nC ax x y∨nC ax x y + K < N1) else (N1 + W < nC ax x y∨nC ax x y + K≤N1 + W))
theorem E_ {N1 T1 W x y K:Nat}(B:0 < K)(h:gw ax s N1 T1 W x y K):¬ fV ax s N1 T1 W x y K:=by
 unfold gw at h;unfold fV;cases ax<;>cases s<;>simp only[nC,tC',if_true,if_false,Jb]at h ⊢<;>lia
theorem kP (f:gw ax s N1 T1 W x y (2 * h))(dx B:Nat)(G:dx=0∨dx=h)(J:B=0∨B=h):gw ax s N1 T1 W (x + dx) (y + B) h:=by
 unfold gw at f ⊢;cases ax<;>cases s<;>simp only[nC,tC',if_true,if_false,Jb]at f ⊢<;>lia
theorem dZ:∀ (u:Tr) (p:List Nat) (x y k:Nat),aQ k u→gw ax s N1 T1 W x y (2 ^ k)→fl (fun x y w=>decide (fV ax s N1 T1 W x y w)) p u x y k=[]
 | .col _,p,x,y,k,_,f=>by
  show (if decide (fV ax s N1 T1 W x y (2 ^ k))=true then [p] else [])=[];rw[if_neg (by rw[decide_eq_true_eq];exact E_ (Kw k) f)]
 | .four a b c d,p,x,y,0,g,_=>g.elim
 | .four a b c d,p,x,y,k + 1,⟨ga,gb,gc,gd,_⟩,f=>by
  rw[Kg,LF]at f;have B:=kP f 0 0 (.inl rfl) (.inl rfl);have G:=kP f (2 ^ k) 0 (.inr rfl) (.inl rfl);have J:=kP f 0 (2 ^ k) (.inl rfl) (.inr rfl);have O:=kP f (2 ^ k) (2 ^ k) (.inr rfl) (.inr rfl);rw[Ml]at G J;rw[Ml,Ml]at B;show fl _ (p++[0]) a x y k++(fl _ (p++[1]) b (x + 2 ^ k) y k++(fl _ (p++[2]) c x (y + 2 ^ k) k++fl _ (p++[3]) d (x + 2 ^ k) (y + 2 ^ k) k))=[];rw[dZ a _ _ _ k ga B,dZ b _ _ _ k gb G,dZ c _ _ _ k gc J,dZ d _ _ _ k gd O];rfl
def cX (ax s:Bool)(N1 T1 W x y K:Nat):Prop:=T1≤tC' ax x y∧tC' ax x y + K≤T1 + W∧(if s then nC ax x y + K=N1 else nC ax x y=N1 + W)
theorem gp:∀ (u:Tr) (p:List Nat) (x y k:Nat),aQ k u→cX ax s N1 T1 W x y (2 ^ k)→fl (fun x y w=>decide (fV ax s N1 T1 W x y w)) p u x y k=bP (eK ax s) p u
 | .col _,p,x,y,k,_,f=>by
  show (if decide (fV ax s N1 T1 W x y (2 ^ k))=true then [p] else [])=[p];have pk:=Kw k;generalize 2 ^ k=K at *;rw[if_pos];rw[decide_eq_true_eq];unfold cX at f;unfold fV;cases ax<;>cases s<;>simp only[nC,tC',if_true,if_false,Jb]at f ⊢<;>lia
 | .four a b c d,p,x,y,0,g,_=>g.elim
 | .four a b c d,p,x,y,k + 1,⟨ga,gb,gc,gd,_⟩,f=>by
  rw[Kg,LF]at f;have pk:=Kw k;rw[js];show fl _ (p++[0]) a x y k++(fl _ (p++[1]) b (x + 2 ^ k) y k++(fl _ (p++[2]) c x (y + 2 ^ k) k++fl _ (p++[3]) d (x + 2 ^ k) (y + 2 ^ k) k))=_;cases ax<;>cases s
  ·have B:cX false false N1 T1 W x y (2 ^ k):=by unfold cX at f ⊢;simp only[nC,tC',if_false,Jb]at f ⊢;lia
   have G:cX false false N1 T1 W x (y + 2 ^ k) (2 ^ k):=by unfold cX at f ⊢;simp only[nC,tC',if_false,Jb]at f ⊢;lia
   have J:gw false false N1 T1 W (x + 2 ^ k) y (2 ^ k):=by unfold cX at f;unfold gw;simp only[nC,tC',if_false,Jb]at f ⊢;lia
   have O:gw false false N1 T1 W (x + 2 ^ k) (y + 2 ^ k) (2 ^ k):=by unfold cX at f;unfold gw;simp only[nC,tC',if_false,Jb]at f ⊢;lia
   rw[gp a _ _ _ k ga B,dZ b _ _ _ k gb J,gp c _ _ _ k gc G,dZ d _ _ _ k gd O];simp[eK,qk,q0,q2]
  ·have U:cX false true N1 T1 W (x + 2 ^ k) y (2 ^ k):=by unfold cX at f ⊢;simp only[nC,tC',if_true,if_false,Jb]at f ⊢;lia
   have Y:cX false true N1 T1 W (x + 2 ^ k) (y + 2 ^ k) (2 ^ k):=by unfold cX at f ⊢;simp only[nC,tC',if_true,if_false,Jb]at f ⊢;lia
   have f0:gw false true N1 T1 W x y (2 ^ k):=by unfold cX at f;unfold gw;simp only[nC,tC',if_true,if_false,Jb]at f ⊢;lia
   have f2:gw false true N1 T1 W x (y + 2 ^ k) (2 ^ k):=by unfold cX at f;unfold gw;simp only[nC,tC',if_true,if_false,Jb]at f ⊢;lia
   rw[dZ a _ _ _ k ga f0,gp b _ _ _ k gb U,dZ c _ _ _ k gc f2,gp d _ _ _ k gd Y];simp[eK,qk,q1,q3]
  ·have B:cX true false N1 T1 W x y (2 ^ k):=by unfold cX at f ⊢;simp only[nC,tC',if_true,if_false,Jb]at f ⊢;lia
   have U:cX true false N1 T1 W (x + 2 ^ k) y (2 ^ k):=by unfold cX at f ⊢;simp only[nC,tC',if_true,if_false,Jb]at f ⊢;lia
   have f2:gw true false N1 T1 W x (y + 2 ^ k) (2 ^ k):=by unfold cX at f;unfold gw;simp only[nC,tC',if_true,if_false,Jb]at f ⊢;lia
   have O:gw true false N1 T1 W (x + 2 ^ k) (y + 2 ^ k) (2 ^ k):=by unfold cX at f;unfold gw;simp only[nC,tC',if_true,if_false,Jb]at f ⊢;lia
   rw[gp a _ _ _ k ga B,gp b _ _ _ k gb U,dZ c _ _ _ k gc f2,dZ d _ _ _ k gd O];simp[eK,qk,q0,q1]
  ·have G:cX true true N1 T1 W x (y + 2 ^ k) (2 ^ k):=by unfold cX at f ⊢;simp only[nC,tC',if_true,if_false,Jb]at f ⊢;lia
   have Y:cX true true N1 T1 W (x + 2 ^ k) (y + 2 ^ k) (2 ^ k):=by unfold cX at f ⊢;simp only[nC,tC',if_true,if_false,Jb]at f ⊢;lia
   have f0:gw true true N1 T1 W x y (2 ^ k):=by unfold cX at f;unfold gw;simp only[nC,tC',if_true,if_false,Jb]at f ⊢;lia
   have J:gw true true N1 T1 W (x + 2 ^ k) y (2 ^ k):=by unfold cX at f;unfold gw;simp only[nC,tC',if_true,if_false,Jb]at f ⊢;lia
   rw[dZ a _ _ _ k ga f0,dZ b _ _ _ k gb J,gp c _ _ _ k gc G,gp d _ _ _ k gd Y];simp[eK,qk,q2,q3]
theorem Dh (J:e < 4)
  (B:∀ d',d' < 4→d'≠e→fl P (p++[d']) (qk (.four a b c d) d') (x + d' % 2 * 2 ^ k) (y + d' / 2 * 2 ^ k) k=[])
  (h1:fl P (p++[e]) (qk (.four a b c d) e) (x + e % 2 * 2 ^ k) (y + e / 2 * 2 ^ k) k=R):fl P p (.four a b c d) x y (k + 1)=R:=by
 have G:fl P p (.four a b c d) x y (k + 1)=fl P (p++[0]) (qk (.four a b c d) 0) (x + 0 % 2 * 2 ^ k) (y + 0 / 2 * 2 ^ k) k++(fl P (p++[1]) (qk (.four a b c d) 1) (x + 1 % 2 * 2 ^ k) (y + 1 / 2 * 2 ^ k) k ++
   (fl P (p++[2]) (qk (.four a b c d) 2) (x + 2 % 2 * 2 ^ k) (y + 2 / 2 * 2 ^ k) k++fl P (p++[3]) (qk (.four a b c d) 3) (x + 3 % 2 * 2 ^ k) (y + 3 / 2 * 2 ^ k) k)):=by
  simp[fl,qk,q0,q1,q2,q3]
 rw[G];rcases e with _ | _ | _ | _ | e
 ·rw[h1,B 1 (by decide) (by decide),B 2 (by decide) (by decide),B 3 (by decide) (by decide)];simp
 ·rw[h1,B 0 (by decide) (by decide),B 2 (by decide) (by decide),B 3 (by decide) (by decide)];simp
 ·rw[h1,B 0 (by decide) (by decide),B 1 (by decide) (by decide),B 3 (by decide) (by decide)];simp
 ·rw[h1,B 0 (by decide) (by decide),B 1 (by decide) (by decide),B 2 (by decide) (by decide)];simp
 ·lia
theorem wT (B:d < 4):nC ax (x + d % 2 * h) (y + d / 2 * h)=nC ax x y + nd ax d * h∧tC' ax (x + d % 2 * h) (y + d / 2 * h)=tC' ax x y + td ax d * h∧nd ax d < 2∧td ax d < 2:=by
 cases ax<;>refine⟨rfl,rfl,?_,?_⟩<;>simp only[nd,td,if_true,if_false,Jb]<;>lia
theorem FN (B:d < 4)(G:e < 4)(h:d≠e):nd ax d≠nd ax e∨td ax d≠td ax e:=by
 cases ax<;>simp only[nd,td,if_true,if_false,Jb]<;>lia
theorem HZ (B:d < 4)(G:e < 4)(h1:nd ax d=nd ax e)(h2:td ax d=td ax e):d=e:=by
 cases ax<;>simp only[nd,td,if_true,if_false,Jb]at h1 h2<;>lia
theorem yD (ax:Bool)(e:Nat)(r:List Nat):cn ax (e::r)=nd ax e * 2 ^ r.length + cn ax r∧ct ax (e::r)=td ax e * 2 ^ r.length + ct ax r:=by
 cases ax<;>simp only[cn,ct,nd,td,if_true,if_false,Jb]<;>exact⟨by first | exact fJ e r | exact fI e r,by first | exact fJ e r | exact fI e r⟩
theorem Fn (ax:Bool)(B:∀ d∈r,d < 4):cn ax r < 2 ^ r.length∧ct ax r < 2 ^ r.length:=by
 cases ax<;>simp only[cn,ct,if_true,if_false,Jb]<;>exact⟨by first | exact vA r | exact vz r B,by first | exact vA r | exact vz r B⟩
theorem jk {c m W:Nat}(h:c < m):c * W + W≤m * W:=by
 have:=LN W (show c + 1≤m from h)
 rw[Kk,Mx]at this;exact this
def AlP (ax s:Bool)(N1 W x y K:Nat):Prop:=if s then nC ax x y + K=N1 else nC ax x y=N1 + W
theorem zI {ax s:Bool}{N1 T1:Nat}{j:Nat}:∀ (r:List Nat) (u:Tr) (p:List Nat) (x y:Nat),(∀ d∈r,d < 4)→aQ (r.length + j) u→T1=tC' ax x y + ct ax r * 2 ^ j →
  (if s then nC ax x y + cn ax r * 2 ^ j + 2 ^ j=N1 else nC ax x y + cn ax r * 2 ^ j=N1 + 2 ^ j)→AlP ax s N1 (2 ^ j) x y (2 ^ (r.length + j)) →
  fl (fun x y w=>decide (fV ax s N1 T1 (2 ^ j) x y w)) p u x y (r.length + j)=rD (eK ax s) p r u
 | [],u,p,x,y,_,g,hT,hN,hA=>by
  have e0:ct ax []=0∧cn ax []=0:=by cases ax<;>exact⟨rfl,rfl⟩
  rw[Mn,KH]at g hA ⊢;show _=bP (eK ax s) p u;refine gp u p x y j g ?_;rw[e0.1,Nat.zero_mul,Ml]at hT;exact⟨by lia,by lia,hA⟩
 | e::r,.col c,p,x,y,_,g,hT,hN,hA=>by
  show (if decide (fV ax s N1 T1 (2 ^ j) x y (2 ^ ((e::r).length + j)))=true then [p] else [])=[p];rw[if_pos];rw[decide_eq_true_eq];have Y:∀ d∈e::r,d < 4:=by assumption
  have lt:=(Fn ax Y).2;have pj:=Kw j;have le:=jk (W:=2 ^ j) lt;rw[← KM]at le;refine⟨?_,?_,?_⟩
  ·unfold AlP at hA;cases s
   ·exact hA
   ·exact hA
  ·lia
  ·lia
 | e::r,.four a b c d,p,x,y,Y,g,hT,hN,hA=>by
  have he:=Y e Jg;have h4':∀ d∈r,d < 4:=fun d hd=>Y d (Ja _ hd);have lt:=Fn ax h4';have pj:=Kw j;have l1:=jk (W:=2 ^ j) lt.1;have l2:=jk (W:=2 ^ j) lt.2;rw[← KM]at l1 l2;have ec:=yD ax e r;have ek:(e::r).length + j=(r.length + j) + 1:=by rw[Jv];lia
  rw[ek]at g hA ⊢;rw[ec.2,Kk,Kx,← KM]at hT;rw[ec.1,Kk,Kx,← KM]at hN;rw[Kg]at hA;obtain⟨en,et,ln,a5⟩:=wT (ax:=ax) (x:=x) (y:=y) (h:=2 ^ (r.length + j)) he;generalize hh:2 ^ (r.length + j)=h at *;generalize hw:2 ^ j=W at *;generalize a0:ct ax r * W=A1 at *;generalize a1:cn ax r * W=B1 at *;have ph:0 < h:=by lia
  have key:nd ax e=(if s then 1 else 0)∧AlP ax s N1 W (x + e % 2 * h) (y + e / 2 * h) h:=by
   unfold AlP at hA ⊢;rw[en];have cs:nd ax e=0∨nd ax e=1:=by lia
   cases s
   ·simp only[if_false,Jb]at hA hN ⊢;rcases cs with cs | cs<;>rw[cs]at hN ⊢<;>lia
   ·simp only[if_true]at hA hN ⊢;rcases cs with cs | cs<;>rw[cs]at hN ⊢<;>lia
  obtain⟨k1,k2⟩:=key;show fl _ p (.four a b c d) x y (r.length + j + 1)=rD (eK ax s) (p++[e]) r (qk (.four a b c d) e);refine Dh he (fun d' U a2 =>?_) ?_
  ·rw[hh];obtain⟨a3,a4,a6,lt'⟩:=wT (ax:=ax) (x:=x) (y:=y) (h:=h) U;refine dZ _ _ _ _ _ (g.q d') ?_;rw[hh];unfold gw;rw[a3,a4];unfold AlP at hA;have B:td ax e=0∨td ax e=1:=by lia
   have G:td ax d'=0∨td ax d'=1:=by lia
   have J:nd ax d'=0∨nd ax d'=1:=by lia
   have O:=FN (ax:=ax) U he a2;cases s
   ·simp only[if_false,Jb]at hA hN k1 ⊢;rcases B with B | B<;>rcases G with G | G<;>rcases J with J | J<;>rw[B]at hT O<;>rw[G]at O ⊢<;>rw[J]at O ⊢<;>rw[k1]at O hN<;>lia
   ·simp only[if_true]at hA hN k1 ⊢;rcases B with B | B<;>rcases G with G | G<;>rcases J with J | J<;>rw[B]at hT O<;>rw[G]at O ⊢<;>rw[J]at O ⊢<;>rw[k1]at O hN<;>lia
  ·rw[hh]
   have:=zI (ax:=ax) (s:=s) (N1:=N1) (T1:=T1) (j:=j) r (qk (.four a b c d) e) (p++[e]) (x + e % 2 * h) (y + e / 2 * h) h4' (g.q e) (by rw[hw,a0,et];lia) (by rw[hw,a1,en];cases s<;>simp only[if_true,if_false,Jb]at hN ⊢<;>lia) (by rw[hw,hh];exact k2)
   rw[hw]at this;exact this
theorem HW (G:T=t + (a * h + A))(J:A + W≤h)(O:a < 2)(U:b < 2)(B:¬ b=a):t + b * h + h≤T∨T + W≤t + b * h:=by
 rcases (show (a=0∧b=1)∨(a=1∧b=0) by lia) with⟨rfl,rfl⟩|⟨rfl,rfl⟩<;>lia
theorem GJ (J:c + (a * h + B)=N + W)(O:B + W≤h)(U:0 < W)(Y:a < 2)(hb:b < 2)(G:¬ b=a):N + W < c + b * h∨c + b * h + h≤N + W:=by
 rcases (show (a=0∧b=1)∨(a=1∧b=0) by lia) with⟨rfl,rfl⟩|⟨rfl,rfl⟩<;>lia
theorem GI (J:c + (a * h + B) + W=N)(O:B + W≤h)(U:0 < W)(Y:a < 2)(hb:b < 2)(G:¬ b=a):N≤c + b * h∨c + b * h + h < N:=by
 rcases (show (a=0∧b=1)∨(a=1∧b=0) by lia) with⟨rfl,rfl⟩|⟨rfl,rfl⟩<;>lia
theorem Hu (h1:T=t + (a * h + A))(h2:T=t + (b * h + A'))(G:A + W≤h)(B:A' + W≤h)(J:0 < W)(O:a < 2)(U:b < 2):b=a:=by
 rcases (show (a=0∨a=1)∧(b=0∨b=1) by lia) with⟨rfl|rfl,rfl|rfl⟩<;>lia
theorem Ig (O:c + (a * h + B)=N + W)(U:N=c + (b * h + B'))(Y:B + W≤h)(G:B' + W≤h)(hW:0 < W)(ha:a < 2)(hb:b < 2)(J:¬ a=b):c + a * h=N + W:=by
 rcases (show (a=0∧b=1)∨(a=1∧b=0) by lia) with⟨rfl,rfl⟩|⟨rfl,rfl⟩<;>lia
theorem Ie (O:c + (a * h + B) + W=N)(U:N=c + (b * h + B'))(Y:B + W≤h)(G:B' + W≤h)(hW:0 < W)(ha:a < 2)(hb:b < 2)(J:¬ a=b):c + a * h + h=N:=by
 rcases (show (a=0∧b=1)∨(a=1∧b=0) by lia) with⟨rfl,rfl⟩|⟨rfl,rfl⟩<;>lia
theorem uk {t T X A:Nat}(h:T=t + (X + A)):T=t + X + A:=by lia
theorem yP {c N X B W:Nat}(h:c + (X + B)=N + W):c + X + B=N + W:=by lia
theorem yO {c N X B W:Nat}(h:c + (X + B) + W=N):c + X + B + W=N:=by lia
theorem zJ {ax s:Bool}{j:Nat}:∀ (zr yr:List Nat) (u:Tr) (p:List Nat) (x y N1 T1:Nat) (c:Int),zr.length=yr.length→(∀ d∈zr,d < 4)→(∀ d∈yr,d < 4)→aQ (zr.length + j) u→jK u zr=some (.col c) →
  T1=tC' ax x y + ct ax zr * 2 ^ j→T1=tC' ax x y + ct ax yr * 2 ^ j→N1=nC ax x y + cn ax zr * 2 ^ j→(if s then nC ax x y + cn ax yr * 2 ^ j + 2 ^ j=N1 else nC ax x y + cn ax yr * 2 ^ j=N1 + 2 ^ j) →
  fl (fun x y w=>decide (fV ax s N1 T1 (2 ^ j) x y w)) p u x y (zr.length + j)=rD (eK ax s) p yr u
 | [],yr,u,p,x,y,N1,T1,c,U,_,_,_,_,_,_,hN,hS=>by
  have e:yr=[]:=JP U.symm;subst e;have J:=Kw j;cases s<;>simp only[if_true,if_false,Jb]at hS<;>lia
 | _::_,[],_,_,_,_,_,_,_,U,_,_,_,_,_,_,_,_=>by simp at U
 | e'::zr,e::yr,.col _,_,_,_,_,_,_,_,_,_,_,G,_,_,_,_=>by cases G
 | e'::zr,e::yr,.four a b c d,p,x,y,N1,T1,cc,U,z4,y4,g,G,hT,hT',hN,hS=>by
  have he':=z4 e' Jg;have he:=y4 e Jg;have z4':∀ d∈zr,d < 4:=fun d hd=>z4 d (Ja _ hd);have y4':∀ d∈yr,d < 4:=fun d hd=>y4 d (Ja _ hd);have hl':zr.length=yr.length:=by simpa using U
  have lz:=Fn ax z4';have ly:=Fn ax y4';have J:=Kw j;have z1:=jk (W:=2 ^ j) lz.1;have z2:=jk (W:=2 ^ j) lz.2;have O:=jk (W:=2 ^ j) ly.1;have y2:=jk (W:=2 ^ j) ly.2;rw[← KM]at z1 z2 O y2;have ez:=yD ax e' zr;have ey:=yD ax e yr;have ek:(e'::zr).length + j=(zr.length + j) + 1:=by rw[Jv];lia
  rw[ek]at g ⊢;rw[ez.2,Kk,Kx,← KM]at hT;rw[ez.1,Kk,Kx,← KM]at hN;rw[ey.2,Kk,Kx,← KM]at hT';rw[ey.1,Kk,Kx,← KM]at hS;rw[← hl']at O y2 hT' hS;obtain⟨en,et,ln,lt⟩:=wT (ax:=ax) (x:=x) (y:=y) (h:=2 ^ (zr.length + j)) he;obtain⟨b1,b2,Y,lt'⟩:=wT (ax:=ax) (x:=x) (y:=y) (h:=2 ^ (zr.length + j)) he';have hnd':jK (qk (.four a b c d) e') zr=some (.col cc):=G;generalize hh:2 ^ (zr.length + j)=h at *;generalize B:2 ^ j=W at *;generalize a4:ct ax zr * W=A1 at *;generalize a5:cn ax zr * W=B1 at *;generalize a0:ct ax yr * W=A2 at *;generalize a1:cn ax yr * W=B2 at *;have a6:td ax e=td ax e':=Hu hT hT' z2 y2 J lt' lt;show fl _ p (.four a b c d) x y (zr.length + j + 1)=rD (eK ax s) (p++[e]) yr (qk (.four a b c d) e);refine Dh he (fun d' a2 a7 =>?_) ?_
  ·rw[hh];obtain⟨a8,a9,a3,b0⟩:=wT (ax:=ax) (x:=x) (y:=y) (h:=h) a2;refine dZ _ _ _ _ _ (g.q d') ?_;rw[hh];unfold gw;rw[a8,a9];by_cases c:td ax d'=td ax e
   ·have c8:¬ nd ax d'=nd ax e:=fun k=>(FN (ax:=ax) a2 he a7).elim (fun n=>n k) (fun n=>n c);refine .inr (.inr ?_);cases s
    ·simp only[if_false,Jb]at hS ⊢;exact GJ hS O J ln a3 c8
    ·simp only[if_true]at hS ⊢;exact GI hS O J ln a3 c8
   ·rcases HW hT' y2 lt b0 c with k|k
    ·exact .inl k
    ·exact .inr (.inl k)
  ·rw[hh];by_cases hne:nd ax e=nd ax e'
   ·have ee:e=e':=HZ he he' hne a6;subst ee
    have:=zJ (ax:=ax) (s:=s) (j:=j) zr yr (qk (.four a b c d) e) (p++[e]) (x + e % 2 * h) (y + e / 2 * h) N1 T1 cc hl' z4' y4' (g.q e) hnd' (by rw[B,a4,et];exact uk hT) (by rw[B,a0,et];exact uk hT') (by rw[B,a5,en];exact uk hN)
     (by rw[B,a1,en];cases s<;>simp only[if_true,if_false,Jb]at hS ⊢<;>first | exact yP hS | exact yO hS)
    rw[B]at this;exact this
   ·have al:AlP ax s N1 W (x + e % 2 * h) (y + e / 2 * h) h:=by
     unfold AlP;rw[en];cases s
     ·simp only[if_false,Jb]at hS ⊢;exact Ig hS hN O z1 J ln Y hne
     ·simp only[if_true]at hS ⊢;exact Ie hS hN O z1 J ln Y hne
    have gq:=g.q e;rw[hl']at gq hh ⊢
    have:=zI (ax:=ax) (s:=s) (N1:=N1) (T1:=T1) (j:=j) yr (qk (.four a b c d) e) (p++[e]) (x + e % 2 * h) (y + e / 2 * h) y4' gq (by rw[B,a0,et];exact uk hT') (by rw[B,a1,en];cases s<;>simp only[if_true,if_false,Jb]at hS ⊢<;>first | exact yP hS | exact yO hS) (by rw[B,hh];exact al)
    rw[B]at this;exact this
structure Sq where
 z:List Nat
 c:Int
 x:Nat
 y:Nat
 w:Nat
def sqs:List Nat→Tr→Nat→Nat→Nat→List Sq
 | p,.col c,x,y,k=>[⟨p,c,x,y,2 ^ k⟩]
 | p,.four a b c d,x,y,k=>sqs (p++[0]) a x y (k - 1)++(sqs (p++[1]) b (x + 2 ^ (k - 1)) y (k - 1)++(sqs (p++[2]) c x (y + 2 ^ (k - 1)) (k - 1)++sqs (p++[3]) d (x + 2 ^ (k - 1)) (y + 2 ^ (k - 1)) (k - 1)))
theorem eu:∀ (t:Tr) (p:List Nat) (x y k:Nat),(sqs p t x y k).length=cnt t
 | .col _,_,_,_,_=>rfl
 | .four a b c d,p,x,y,k=>by
  show (sqs _ a _ _ _++(sqs _ b _ _ _++(sqs _ c _ _ _++sqs _ d _ _ _))).length=cnt a + cnt b + cnt c + cnt d;simp only[I8,eu a,eu b,eu c,eu d]
  lia
theorem og (P:Nat→Nat→Nat→Bool):∀ (t:Tr) (p:List Nat) (x y k:Nat),fl P p t x y k=((sqs p t x y k).filter fun q=>P q.x q.y q.w).map Sq.z
 | .col c,p,x,y,k=>by
  show (if P x y (2 ^ k) then [p] else [])=(([⟨p,c,x,y,2 ^ k⟩]:List Sq).filter fun q=>P q.x q.y q.w).map Sq.z;cases h:P x y (2 ^ k)<;>simp[List.filter,h]
 | .four a b c d,p,x,y,k=>by
  show fl P (p++[0]) a x y (k - 1)++(fl P (p++[1]) b (x + 2 ^ (k - 1)) y (k - 1)++(fl P (p++[2]) c x (y + 2 ^ (k - 1)) (k - 1)++fl P (p++[3]) d (x + 2 ^ (k - 1)) (y + 2 ^ (k - 1)) (k - 1))) =
   ((sqs (p++[0]) a x y (k - 1)++(sqs (p++[1]) b (x + 2 ^ (k - 1)) y (k - 1)++(sqs (p++[2]) c x (y + 2 ^ (k - 1)) (k - 1)++sqs (p++[3]) d (x + 2 ^ (k - 1)) (y + 2 ^ (k - 1)) (k - 1)))).filter fun q=>P q.x q.y q.w).map Sq.z
  simp only[KJ,Jn,og P a,og P b,og P c,og P d]
def pf (q:Sq)(p:List Nat)(t:Tr)(x y k:Nat):Prop:=∃ w:List Nat,q.z=p++w∧(∀ d∈w,d < 4)∧jK t w=some (.col q.c)∧w.length≤k∧q.x=x + cxs w * 2 ^ (k - w.length)∧q.y=y + cys w * 2 ^ (k - w.length)∧q.w=2 ^ (k - w.length)
theorem pE (J:e < 4)(O:x'=x + e % 2 * 2 ^ k)(U:y'=y + e / 2 * 2 ^ k)(h:pf q (p++[e]) (qk (.four a b c d) e) x' y' k):pf q p (.four a b c d) x y (k + 1):=by
 obtain⟨w,Y,h4,hn,hl,ex,ey,ew⟩:=h;have B:k + 1 - (e::w).length=k - w.length:=by rw[Jv];simp
 have ep:2 ^ w.length * 2 ^ (k - w.length)=2 ^ k:=by rw[← KM];congr 1;lia
 refine⟨e::w,by rw[Y];simp,?_,hn,by rw[Jv];lia,?_,?_,by rw[B];exact ew⟩
 ·intro d G;rcases Jr.mp G with rfl | G
  ·exact J
  ·exact h4 d G
 ·rw[B,ex,O,fJ,Kk,Kx,ep];lia
 ·rw[B,ey,U,fI,Kk,Kx,ep];lia
theorem fL:∀ (t:Tr) (p:List Nat) (x y k:Nat),aQ k t→∀ q∈sqs p t x y k,pf q p t x y k
 | .col c,p,x,y,k,_,q,B=>by
  have e:q=⟨p,c,x,y,2 ^ k⟩:=Jc.mp B;subst e;exact⟨[],by simp,fun d G=>absurd G (by simp),rfl,Je _,by simp[cxs],by simp[cys],by simp⟩
 | .four a b c d,p,x,y,0,g,_,_=>g.elim
 | .four a b c d,p,x,y,k + 1,⟨ga,gb,gc,gd,_⟩,q,B=>by
  have hq':q∈sqs (p++[0]) a x y k++(sqs (p++[1]) b (x + 2 ^ k) y k++(sqs (p++[2]) c x (y + 2 ^ k) k++sqs (p++[3]) d (x + 2 ^ k) (y + 2 ^ k) k)):=B;simp only[Jj]at hq';rcases hq' with h | h | h | h
  ·exact pE (e:=0) (by decide) (by simp) (by simp) (fL a _ _ _ k ga q h)
  ·exact pE (e:=1) (by decide) (by simp) (by simp) (fL b _ _ _ k gb q h)
  ·exact pE (e:=2) (by decide) (by simp) (by simp) (fL c _ _ _ k gc q h)
  ·exact pE (e:=3) (by decide) (by simp) (by simp) (fL d _ _ _ k gd q h)
def mn (i j:Int):Int:=if j < i then j else i
def mx (i j:Int):Int:=if j > i then j else i
def dF (a wa b wb:Nat):Int:=mn ((a:Int) + wa) ((b:Int) + wb) - mx (a:Int) b
theorem wn {a B b G:Nat}(h1:0 < B)(h2:0 < G):0 < dF a B b G↔a < b + G∧b < a + B:=by
 unfold dF mn mx
 split<;>split<;>lia
def dM (ax s:Bool)(q:Sq):Nat→Nat→Nat→Bool:=fun x y w=>decide (fV ax s (nC ax q.x q.y) (tC' ax q.x q.y) q.w x y w)
theorem Bs (gt:aQ n t)(ok:pf q [] t 0 0 n)(J:yr.length=q.z.length)(y4:∀ d∈yr,d < 4)(O:ct ax yr=ct ax q.z)(B:if s then cn ax yr + 1=cn ax q.z else cn ax yr=cn ax q.z + 1):
  fl (dM ax s q) [] t 0 0 n=rD (eK ax s) [] yr t:=by
 obtain⟨w,U,h4,hn,hl,ex,G,Y⟩:=ok;rw[Ku]at U;rw[U]at J O B;obtain⟨j,rfl⟩:∃ j,n=w.length + j:=⟨n - w.length,by lia⟩;rw[Nat.add_sub_cancel_left]at ex G Y;have hN:nC ax q.x q.y=nC ax 0 0 + cn ax w * 2 ^ j:=by cases ax<;>simp only[nC,cn,ex,G,if_true,if_false,Jb]
 have hT:tC' ax q.x q.y=tC' ax 0 0 + ct ax w * 2 ^ j:=by cases ax<;>simp only[tC',ct,ex,G,if_true,if_false,Jb]
 unfold dM;rw[Y];refine zJ w yr t [] 0 0 _ _ q.c J.symm h4 y4 gt hn hT (by rw[O];exact hT) hN ?_;rw[hN];cases s
 ·simp only[if_false,Jb]at B ⊢;rw[B,Kk,Mx];lia
 ·simp only[if_true]at B ⊢;rw[← B,Kk,Mx];lia
theorem yF (gt:aQ n t)(ok:pf q [] t 0 0 n)(B:if s then cn ax q.z=0 else cn ax q.z + 1=2 ^ q.z.length):
  fl (dM ax s q) [] t 0 0 n=[]:=by
 obtain⟨w,G,h4,hn,hl,ex,J,O⟩:=ok;rw[Ku]at G;rw[G]at B;obtain⟨j,rfl⟩:∃ j,n=w.length + j:=⟨n - w.length,by lia⟩;rw[Nat.add_sub_cancel_left]at ex J O;have U:nC ax q.x q.y=cn ax w * 2 ^ j:=by cases ax<;>simp only[nC,cn,ex,J,if_true,if_false,Jb,KH]
 have Y:nC ax 0 0=0:=by cases ax<;>rfl
 unfold dM;rw[O];refine dZ t [] 0 0 _ gt (.inr (.inr ?_));rw[U,Y];cases s
 ·simp only[if_false,Jb]at B ⊢
  right
  rw[KM,← B,Kk,Mx];simp
 ·simp only[if_true]at B ⊢
  left
  rw[B,Nat.zero_mul];exact Je _
def Hg:List V:=[.str "up",.str "right",.str "down",.str "left"]
theorem DL {K:Frag}(gt:aQ n t)(ok:pf q [] t 0 0 n)(hd:Dir side s1 s2 dx dy)(e2:dig s2=eK ax s)
  (ex:dx=(if ax then 0 else if s then -1 else 1)) (O:dy=(if ax then (if s then -1 else 1) else 0)) (k:∀ l H',ak H H'→H l=none→H' l=some (.lst ((fl (dM ax s q) [] t 0 0 n).map sV))→Q (.ref l) H'):Il Y H Q E (txt q.z) t (.str side):=by
 obtain⟨w,e1,h4,_⟩:=id ok;rw[Ku]at e1;refine .inl ⟨side,s1,s2,dx,dy,rfl,hd,fun y J ly G B l H' U hl u=>k l H' U hl ?_,fun x' y' a0 B G J l H' U hl u=>k l H' U hl ?_⟩
 ·rw[gr]at G B;rw[fA]at ly;rw[u,e2,Bs (yr:=dig y) gt ok (by rw[cN];exact ly) (Dy J)]
  ·subst ex O;cases ax<;>cases s<;>simp only[ct,if_true,if_false,Jb]at G B ⊢<;>lia
  ·subst ex O;cases ax<;>cases s<;>simp only[cn,if_true,if_false,Jb]at G B ⊢<;>lia
 ·rw[gr,fA]at G J;rw[fA]at a0 B;have c1:=vA q.z;have c2:=vz q.z (by rw[e1];exact h4);rw[u,yF gt ok]
  ·rfl
  ·subst ex O;generalize 2 ^ q.z.length=W at *;cases ax<;>cases s<;>simp only[cn,if_true,if_false,Jb]at G J ⊢<;>lia
def gQ (q r:Sq):Bool:=dM false false q r.x r.y r.w
def j9 (q r:Sq):Bool:=dM true false q r.x r.y r.w
def aV (q r:Sq):Bool:=decide (mn (dF q.x q.w r.x r.w) (dF q.y q.w r.y r.w)=0) && decide (mx (dF q.x q.w r.x r.w) (dF q.y q.w r.y r.w) > 0)
def Sep (q r:Sq):Prop:=q.x + q.w≤r.x∨q.y + q.w≤r.y
theorem fR (i j:Int):mn i j=min i j:=by unfold mn;split<;>lia
theorem fQ (i j:Int):mx i j=max i j:=by unfold mx;split<;>lia
theorem fo:gQ q r=true↔r.x=q.x + q.w∧q.y < r.y + r.w∧r.y < q.y + q.w:=by
 unfold gQ dM fV;simp only[nC,tC',if_false,Jb,decide_eq_true_eq]
theorem gA:j9 q r=true↔r.y=q.y + q.w∧q.x < r.x + r.w∧r.x < q.x + q.w:=by
 unfold j9 dM fV;simp only[nC,tC',if_true,if_false,Jb,decide_eq_true_eq]
theorem dk:aV q r=true↔min (dF q.x q.w r.x r.w) (dF q.y q.w r.y r.w)=0∧max (dF q.x q.w r.x r.w) (dF q.y q.w r.y r.w) > 0:=by
 unfold aV;rw[fR,fQ];simp only[Kv,decide_eq_true_eq]
theorem sK {X Y:Int}{A B C D:Prop}(U:X≤0)(G:X=0↔A)(J:0 < Y↔B)(O:¬ (C∧D)):(min X Y=0∧max X Y > 0)↔(A∧B)∨(C∧D):=by
 rw[← G,← J];constructor
 ·intro h;exact .inl (by lia)
 ·intro h;rcases h with h | h
  ·lia
  ·exact absurd h O
theorem xy {X Y:Int}{A B C D:Prop}(G:Y≤0)(J:Y=0↔C)(O:0 < X↔D)(U:¬ (A∧B)):(min X Y=0∧max X Y > 0)↔(A∧B)∨(C∧D):=by
 rw[Lp,Lq,sK G J O U];exact Or.comm
theorem wm (B:0 < wb)(h:a + wa≤b):dF a wa b wb=(a:Int) + wa - b:=by
 unfold dF mn mx;rw[if_neg (by lia)]
 split<;>lia
theorem sR {q r:Sq}(G:0 < q.w)(B:0 < r.w)(h:Sep q r):aV q r=(gQ q r || j9 q r):=by
 rw[Ki,Bool.or_eq_true,dk,fo,gA];rcases h with h | h
 ·have e:=wm B h;refine sK (by lia) (by rw[e];lia) (wn G B) (by lia)
 ·have e:=wm B h;refine xy (by lia) (by rw[e];lia) (wn G B) (by lia)
theorem vY (O:0 < q.w)(U:0 < r.w)(h:Sep q r):gQ r q=false∧j9 r q=false:=by
 refine⟨Li.mpr fun c =>?_,Li.mpr fun c =>?_⟩
 ·obtain⟨B,G,J⟩:=fo.mp c;rcases h with h|h<;>lia
 ·obtain⟨B,G,J⟩:=gA.mp c;rcases h with h|h<;>lia
theorem CG (O:0 < q.w):gQ q q=false∧j9 q q=false:=by
 refine⟨Li.mpr fun c =>?_,Li.mpr fun c =>?_⟩
 ·obtain⟨B,G,J⟩:=fo.mp c
  lia
 ·obtain⟨B,G,J⟩:=gA.mp c
  lia
theorem EL (B:0 < q.w)(h:gQ q r=true):j9 q r=false:=by
 refine Li.mpr fun c =>?_;obtain⟨G,J,O⟩:=fo.mp h;obtain⟨U,Y,d3⟩:=gA.mp c
 lia
theorem fh:∀ (t:Tr) (p:List Nat) (x y k:Nat),aQ k t→∀ q∈sqs p t x y k,x≤q.x∧q.x + q.w≤x + 2 ^ k∧y≤q.y∧q.y + q.w≤y + 2 ^ k∧0 < q.w
 | .col c,p,x,y,k,_,q,G=>by
  have e:q=⟨p,c,x,y,2 ^ k⟩:=Jc.mp G;subst e;exact⟨I_ _,I_ _,I_ _,I_ _,Kw k⟩
 | .four a b c d,p,x,y,0,g,_,_=>g.elim
 | .four a b c d,p,x,y,k + 1,⟨ga,gb,gc,gd,_⟩,q,G=>by
  have hq':q∈sqs (p++[0]) a x y k++(sqs (p++[1]) b (x + 2 ^ k) y k++(sqs (p++[2]) c x (y + 2 ^ k) k++sqs (p++[3]) d (x + 2 ^ k) (y + 2 ^ k) k)):=G;have U:2 ^ (k + 1)=2 ^ k + 2 ^ k:=by rw[Kg];lia
  simp only[Jj]at hq';rw[U];rcases hq' with h | h | h | h
  ·obtain⟨h1,h2,J,O,B⟩:=fh a _ _ _ k ga q h;refine⟨?_,?_,?_,?_,B⟩<;>lia
  ·obtain⟨h1,h2,J,O,B⟩:=fh b _ _ _ k gb q h;refine⟨?_,?_,?_,?_,B⟩<;>lia
  ·obtain⟨h1,h2,J,O,B⟩:=fh c _ _ _ k gc q h;refine⟨?_,?_,?_,?_,B⟩<;>lia
  ·obtain⟨h1,h2,J,O,B⟩:=fh d _ _ _ k gd q h;refine⟨?_,?_,?_,?_,B⟩<;>lia
theorem Gp (p:List Nat)(h:a < b)(v w:List Nat):p++a::v < p++b::w:=by
 induction p with
 | nil=>exact List.cons_lt_cons_iff.mpr (.inl h)
 | cons x p ih=>exact List.cons_lt_cons_iff.mpr (.inr ⟨rfl,ih⟩)
def ff (q r:Sq):Prop:=Sep q r∧q.z < r.z
theorem yT (g:aQ k t)(B:q∈sqs p t x y k):∃ w,q.z=p++w:=by
 obtain⟨w,e,_⟩:=fL t p x y k g q B;exact⟨w,e⟩
theorem kR (B:aQ k a)(G:aQ k b)(U:d < e)(Y:∀ q r:Sq,(x≤q.x∧q.x + q.w≤x + 2 ^ k∧y≤q.y∧q.y + q.w≤y + 2 ^ k∧0 < q.w)→(x'≤r.x∧r.x + r.w≤x' + 2 ^ k∧y'≤r.y∧r.y + r.w≤y' + 2 ^ k∧0 < r.w)→Sep q r):
  ∀ q∈sqs (p++[d]) a x y k,∀ r∈sqs (p++[e]) b x' y' k,ff q r:=fun q J r O=>by
 refine⟨Y q r (fh a _ _ _ k B q J) (fh b _ _ _ k G r O),?_⟩;obtain⟨v,ev⟩:=yT B J;obtain⟨w,ew⟩:=yT G O;rw[ev,ew]
 have:=Gp p U v w
 simpa using this
theorem dv:∀ (t:Tr) (p:List Nat) (x y k:Nat),aQ k t→(sqs p t x y k).Pairwise ff
 | .col c,p,x,y,k,_=>K_ _ _
 | .four a b c d,p,x,y,0,g=>g.elim
 | .four a b c d,p,x,y,k + 1,⟨ga,gb,gc,gd,_⟩=>by
  show (sqs (p++[0]) a x y k++(sqs (p++[1]) b (x + 2 ^ k) y k++(sqs (p++[2]) c x (y + 2 ^ k) k++sqs (p++[3]) d (x + 2 ^ k) (y + 2 ^ k) k))).Pairwise ff;refine JR.mpr ⟨dv a _ _ _ k ga,JR.mpr ⟨dv b _ _ _ k gb,JR.mpr ⟨dv c _ _ _ k gc,dv d _ _ _ k gd,?_⟩,?_⟩,?_⟩
  ·refine kR gc gd (by decide) fun q r G B =>?_;unfold Sep;omega
  ·intro q G r B;rcases Jj.mp B with B | B
   ·refine kR gb gc (by decide) (fun q r G B =>?_) q G r B;unfold Sep
    lia
   ·refine kR gb gd (by decide) (fun q r G B =>?_) q G r B;unfold Sep
    lia
  ·intro q G r B;rcases Jj.mp B with B | B
   ·refine kR ga gb (by decide) (fun q r G B =>?_) q G r B;unfold Sep;omega
   rcases Jj.mp B with B|B
   ·refine kR ga gc (by decide) (fun q r G B =>?_) q G r B;unfold Sep
    lia
   ·refine kR ga gd (by decide) (fun q r G B =>?_) q G r B;unfold Sep;omega
abbrev Pr:Type:=List Nat × List Nat
def gW:List Sq→List Pr
 | []=>[]
 | q::L=>((L.filter fun r=>aV q r).map fun r=>(q.z,r.z))++gW L
def ij (A:List Sq)(q:Sq):List Pr:=((A.filter fun r=>gQ q r).map fun r=>(q.z,r.z))++((A.filter fun r=>j9 q r).map fun r=>(q.z,r.z))
theorem tK:∀ {L:List α},(∀ x∈L,a x=true→b x=false)→(L.filter a++L.filter b).Perm (L.filter fun x=>a x || b x)
 | [],_=>List.Perm.refl _
 | x::L,h=>by
  have G:=tK (L:=L) fun y J=>h y (Ja _ J);cases ea:a x with
  | true =>
   have B:=h x Jg ea;rw[La ea,Kz (by rw[B];exact Jq),La (by rw[ea];rfl)];exact G.cons x
  | false =>
   rw[Kz (by rw[ea];exact Jq)];cases B:b x with
   | true =>
    rw[La B,La (by rw[ea,B];rfl)];exact List.perm_middle.trans (G.cons x)
   | false =>
    rw[Kz (by rw[B];exact Jq),Kz (by rw[ea,B];exact Jq)];exact G
theorem oG {α:Type}{a:α→Bool}{L:List α}(h:∀ x∈L,a x=false):L.filter a=[]:=by
 rw[List.filter_eq_nil_iff];intro x B;rw[h x B];exact Jq
theorem BH {B L:List Sq}{q:Sq}(O:∀ b∈B,ff b q∧0 < b.w)(Y:∀ r∈L,ff q r∧0 < r.w)(G:0 < q.w):(ij (B++q::L) q).Perm ((L.filter fun r=>aV q r).map fun r=>(q.z,r.z)):=by
 have ns:=CG G;have e1:(B++q::L).filter (fun r=>gQ q r)=L.filter (fun r=>gQ q r):=by
  rw[KJ,oG fun b J=>(vY (O b J).2 G (O b J).1.1).1,Ku,Kz (by rw[ns.1];exact Jq)]
 have e2:(B++q::L).filter (fun r=>j9 q r)=L.filter (fun r=>j9 q r):=by
  rw[KJ,oG fun b J=>(vY (O b J).2 G (O b J).1.1).2,Ku,Kz (by rw[ns.2];exact Jq)]
 unfold ij;rw[e1,e2,← Jn];have e3:L.filter (fun r=>aV q r)=L.filter (fun r=>gQ q r || j9 q r):=List.filter_congr fun r U=>sR G (Y r U).2 (Y r U).1.1;rw[e3];exact (tK fun r U h=>EL G h).map _
theorem sL:∀ (L B:List Sq),(B++L).Pairwise ff→(∀ q∈B++L,0 < q.w)→(L.flatMap fun q=>ij (B++L) q).Perm (gW L)
 | [],B,_,_=>List.Perm.refl _
 | q::L,B,h,hw=>by
  have G:=sL L (B++[q]) (by simpa using h) (by simpa using hw);rw[Jx,LH]at G;obtain⟨Y,p2,U⟩:=JR.mp h;rw[L_];refine List.Perm.append (BH (fun b J=>⟨U b J q Jg,hw b (by simp[J])⟩) (fun r O=>⟨(Ky.mp p2).1 r O,hw r (by simp[O])⟩) (hw q (by simp))) G
def DV (a b:Pr):Prop:=a.1 < b.1∨(a.1=b.1∧a.2 < b.2)
theorem wP:∀ {L:List Sq} {d:Pr},d∈gW L→∃ q∈L,d.1=q.z
 | [],d,h=>by cases h
 | q::L,d,h=>by
  rcases Jj.mp h with h|h
  ·obtain⟨r,_,rfl⟩:=I9.mp h;exact⟨q,Jg,rfl⟩
  ·obtain⟨r,B,e⟩:=wP h;exact⟨r,Ja _ B,e⟩
theorem rC:∀ {L:List Sq},L.Pairwise ff→(gW L).Pairwise DV
 | [],_=>List.Pairwise.nil
 | q::L,h=>by
  obtain⟨h1,h2⟩:=Ky.mp h;refine JR.mpr ⟨?_,rC h2,fun a B b G =>?_⟩
  ·rw[JN];exact (h2.filter _).imp fun h=>.inr ⟨rfl,h.2⟩
  ·obtain⟨r,_,rfl⟩:=I9.mp B;obtain⟨s,J,e⟩:=wP G
   left
   rw[e];exact (h1 s J).2
theorem wQ:∀ (L:List Sq),(gW L).length≤L.length * L.length
 | []=>I_ _
 | q::L=>by
  have B:=wQ L;have h1:=Kj (fun r=>aV q r) L;show (((L.filter fun r=>aV q r).map fun r=>(q.z,r.z))++gW L).length≤_;rw[I8,I0,Jv,Kk,Nat.mul_add]
  lia
def PrV (H:Hp)(u:V)(d:Pr):Prop:=∃ p,u=.ref p∧H p=some (.tup [sV d.1,sV d.2])
theorem PrV.up (h:PrV H u d)(s:bQ H H'):PrV H' u d:=by
 obtain⟨p,e,B⟩:=h;exact⟨p,e,s _ _ B⟩
abbrev eV (H:Hp):List V→List Pr→Prop:=Paired (PrV H)
theorem eV.up (h:eV H us L)(s:bQ H H'):eV H' us L:=by
 induction h with
 | nil=>exact .nil
 | cons p _ ih=>exact .cons (p.up s) ih
theorem eV.app (h:eV H us L)(k:eV H vs M):eV H (us++vs) (L++M):=by
 induction h with
 | nil=>exact k
 | cons p _ ih=>exact .cons p ih
theorem eV.len (h:eV H us L):us.length=L.length:=Paired.length h
theorem eV.get (h:eV H us L):∀ {i:Nat} {u:V},us[i]? = some u→∃ d,L[i]? = some d∧PrV H u d:=by
 induction h with
 | nil=>intro i u e;simp at e
 | cons p _ ih =>
  intro i u e;rcases i with _ | i
  ·exact⟨_,rfl,by rw[← Option.some.inj e];exact p⟩
  ·exact ih (by simpa using e)
def kp (d:Pr):Pky:=pkV (txt d.1) (.str (txt d.2))
theorem uh (h:(txt a).cps.toList=(txt b).cps.toList):a=b:=by
 have:=Jz dig (zW h)
 rwa [gr,gr]at this
theorem Gv (h:kp d=kp e):d=e:=by
 have h1:(txt d.1).cps.toList=(txt e.1).cps.toList:=Jz Prod.fst h;have h2:(txt d.2).cps.toList=(txt e.2).cps.toList:=Jz (fun x:Pky=>x.2.2) h;exact Prod.ext (uh h1) (uh h2)
theorem BF (h:a < b):(txt a).cps.toList < (txt b).cps.toList:=by
 show (a.map (48 + ·)).toArray.toList < (b.map (48 + ·)).toArray.toList;exact List.map_lt (fun x y h=>Nat.add_lt_add_left h 48) h
theorem HH (h:DV d e):ltP (kp d) (kp e)=true:=by
 have B:ltP (kp d) (kp e)=if (txt d.1).cps.toList=(txt e.1).cps.toList then decide ((txt d.2).cps.toList < (txt e.2).cps.toList) else decide ((txt d.1).cps.toList < (txt e.1).cps.toList):=rfl
 rw[B];rcases h with h | ⟨h1,h2⟩
 ·rw[if_neg fun c=>absurd (uh c▸h) (KG _)];exact Jd (BF h)
 ·rw[if_pos (by rw[h1])];exact Jd (BF h2)
theorem wg:∀ {us:List V} {D:List Pr},eV H us D→∃ as:List Addr,us=as.map V.ref∧as.map (pkH H)=D.map kp∧∀ a∈as,∃ d:Pr,H a=some (.tup [sV d.1,sV d.2])
 | _,_,.nil=>⟨[],rfl,rfl,fun _ h=>nomatch h⟩
 | _,_,.cons (a:=u) (b:=d) ⟨p,e,hp⟩ t=>by
  obtain⟨as,h1,h2,G⟩:=wg t;refine⟨p::as,by rw[h1,e];rfl,?_,fun a B =>?_⟩
  ·rw[Jl,Jl,h2]
   congr 1
   unfold pkH;rw[hp];rfl
  ·rcases Jr.mp B with rfl|B
   ·exact⟨d,hp⟩
   ·exact G a B
theorem Ch:∀ {as:List Addr} {E:List Pr},as.map (pkH H)=E.map kp→(∀ a∈as,∃ d:Pr,H a=some (.tup [sV d.1,sV d.2]))→eV H (as.map V.ref) E
 | [],[],_,_=>.nil
 | [],_::_,h,_=>by cases h
 | _::_,[],h,_=>by cases h
 | a::as,e::E,h,h3=>by
  obtain⟨h1,h2⟩:=List.cons.inj h;obtain⟨d,B⟩:=h3 a Jg
  have:pkH H a=kp d:=by
   unfold pkH;rw[B];rfl
  have G:=Gv (this.symm.trans h1);subst G;exact .cons ⟨a,rfl,B⟩ (Ch h2 fun b J=>h3 b (Ja _ J))
theorem xE {H:Hp}{as B:List Addr}{D E:List Pr}(h2:as.map (pkH H)=D.map kp)(J:∀ a∈as,∃ d:Pr,H a=some (.tup [sV d.1,sV d.2]))(G:B.Perm as)(O:B.Pairwise fun x y=>ltP (pkH H y) (pkH H x)=false)(U:D.Perm E)(Y:E.Pairwise DV):eV H (B.map V.ref) E:=by
 refine Ch ?_ fun a ha=>J a (G.mem_iff.mp ha);have p1:(B.map (pkH H)).Perm (E.map kp):=((G.map _).trans (h2▸List.Perm.refl _)).trans (U.map kp);refine List.Perm.eq_of_pairwise (le:=fun a b=>ltP b a=false) (fun a b _ _ h1 h2=>zt.tot _ _ h2 h1) (JN.mpr O) ?_ p1;rw[JN];refine Y.imp fun h =>?_;cases c:ltP (kp _) (kp _) with
 | false=>rfl
 | true =>
  have:=zt.tr _ _ _ c (HH h)
  rw[zt.irr]at this;cases this
def PaV (H:Hp)(n:Nat)(u:V)(q:List Nat × Int):Prop:=∃ p z,u=.ref p∧H p=some (.tup [.str z,.int q.2])∧IsC z∧dig z=q.1∧z.length≤n∧(0≤q.2∧q.2≤35)
theorem PaV.up (h:PaV H n u q)(s:bQ H H'):PaV H' n u q:=by
 obtain⟨p,z,e,B,h1,h2,G,J⟩:=h;exact⟨p,z,e,s _ _ B,h1,h2,G,J⟩
inductive bA (H:Hp)(n:Nat):List V→List (List Nat × Int)→Prop
 | nil:bA H n [] []
 | cons {u:V} {q:List Nat × Int} {us:List V} {L:List (List Nat × Int)}:PaV H n u q→bA H n us L→bA H n (u::us) (q::L)
theorem bA.up (h:bA H n us L)(s:bQ H H'):bA H' n us L:=by
 induction h with
 | nil=>exact .nil
 | cons p _ ih=>exact .cons (p.up s) ih
theorem bA.len (h:bA H n us L):us.length=L.length:=by
 induction h with
 | nil=>rfl
 | cons p _ ih=>simp[ih]
theorem bA.app (h:bA H n us L)(k:bA H n vs M):bA H n (us++vs) (L++M):=by
 induction h with
 | nil=>exact k
 | cons p _ ih=>exact .cons p ih
theorem bA.get (h:bA H n us L):∀ {i:Nat} {u:V},us[i]? = some u→∃ q,L[i]? = some q∧PaV H n u q:=by
 induction h with
 | nil=>intro i u e;simp at e
 | cons p _ ih =>
  intro i u e;rcases i with _ | i
  ·exact⟨_,rfl,by rw[← Option.some.inj e];exact p⟩
  ·exact ih (by simpa using e)
theorem IM (h:n≤10000000):n≤sizeLine:=JA h (by decide)
theorem hZ:∀ (t:Tr) (p:List Nat) (x y k:Nat),lvs p t=(sqs p t x y k).map fun q=>(q.z,q.c)
 | .col c,p,x,y,k=>rfl
 | .four a b c d,p,x,y,k=>by
  show lvs (p++[0]) a++(lvs (p++[1]) b++(lvs (p++[2]) c++lvs (p++[3]) d))=(sqs (p++[0]) a x y (k - 1)++(sqs (p++[1]) b (x + 2 ^ (k - 1)) y (k - 1)++(sqs (p++[2]) c x (y + 2 ^ (k - 1)) (k - 1)++sqs (p++[3]) d (x + 2 ^ (k - 1)) (y + 2 ^ (k - 1)) (k - 1)))).map _;rw[Jn,Jn,Jn,hZ a (p++[0]) x y (k - 1),hZ b (p++[1]) (x + 2 ^ (k - 1)) y (k - 1),hZ c (p++[2]) x (y + 2 ^ (k - 1)) (k - 1),hZ d (p++[3]) (x + 2 ^ (k - 1)) (y + 2 ^ (k - 1)) (k - 1)]
def oV (A:List Sq)(q:Sq)(j:Nat):List Pr:=(A.filter fun r=>dM (decide (j=1)) false q r.x r.y r.w).map fun r=>(q.z,r.z)
theorem wl (A:List Sq)(q:Sq)(j:Nat):(oV A q j).length≤A.length:=by
 unfold oV;rw[I0];exact Kj _ _
theorem Cu (A:List Sq)(q:Sq):(List.range 2).flatMap (oV A q)=ij A q:=by
 rw[show List.range 2=[0,1] from rfl];show oV A q 0++(oV A q 1++[])=_;rw[J_];rfl
theorem AH (A:List Sq)(q:Sq)(j:Nat):(List.range (j + 1)).flatMap (oV A q)=(List.range j).flatMap (oV A q)++oV A q j:=by
 rw[Kt,KQ];simp
theorem Ec (h:[V.str "right",V.str "down"][j]? = some x):j < 2∧∃ (side s1 s2:Str) (dx dy:Int),x=.str side∧Dir side s1 s2 dx dy∧dig s2=eK (decide (j=1)) false∧dx=(if decide (j=1) then 0 else if false then -1 else 1)∧dy=(if decide (j=1) then (if false then -1 else 1) else 0):=by
 rcases j with _|_|j
 ·exact⟨by decide,"right",_,_,_,_,(Option.some.inj h).symm,.inr (.inl ⟨rfl,rfl,rfl,rfl,rfl⟩),by decide +kernel,rfl,rfl⟩
 ·exact⟨by decide,"down",_,_,_,_,(Option.some.inj h).symm,.inr (.inr (.inl ⟨rfl,rfl,rfl,rfl,rfl⟩)),by decide +kernel,rfl,rfl⟩
 ·exact absurd h (by simp)
theorem yf:∀ n:Nat,n < 4→((n:Int)).natAbs.log2 < 1920:=by decide +kernel
section
variable {P:Pg9}{w:Wd9}{K:Frag}{mg:Mg9}{base:Heap}{CX:CXT}{f:Addr}{fd:Fd9}
abbrev gL:Stmt:=top 27
theorem dS:aE ["tree","code","row","quarter"] ["tree","code"] (aq gL):={}
inductive iX  (m:Nat)(vs:List V)(H:Hp)(Q:VK):Prop
 | mk (v:V) (t:Tr) (z:Str) (k n:Nat) (h_0:vs=[v,.str z]) (h_1:bS H v t) (h_2:aQ k t) (h_3:IsC z) (h_4:z.length + k≤n) (h_5:n≤40) (h_6:k < m) (h_7:m≤41) (h_8:cnt t≤4000) (h_9:∀ l us H',ak H H'→H l=none→H' l=some (.lst us)→bA H' n us (lvs (dig z) t)→Q (.ref l) H'):iX m vs H Q
def fN  (m:Nat):Sp:=fun vs H Q _=>iX m vs H Q
theorem jE (T:Tx K mg)(q:bW CX)(F:bE K "leaves_below" "leaves_below" gL f fd .none)(b:fg K fd ["tree","code"] [])(m:mg "leaves_below" = some (.ref f)):
  ∀ n,bF P w K mg base CX (1 + n) f fd ["tree","code"] (fN n)
 | 0=>by
  refine F.ok dS (fun vs H Q E h =>?_) (fun a1 A outer s H vs Q E hr h =>?_)
  ·obtain⟨_,_,_,_,_,rfl,_⟩:=h;rfl
  obtain⟨_,_,_,_,_,_,_,_,_,_,_,h,_⟩:=h;exact absurd h (Lr _)
 | m' + 1=>by
  have B:Fok P w K mg base CX (1 + m') "leaves_below" ["tree","code"] [] (fN m'):=fok F (jE T q F b m m') b m
  refine F.ok dS (fun vs H Q E h =>?_) (fun a1 A outer s H vs Q E hr h =>?_)
  ·obtain⟨_,_,_,_,_,rfl,_⟩:=h;rfl
  obtain⟨v,t,z,k,n,rfl,ht,gt,hz,hl,hn,hk,hm,hc,q'⟩:=h;refine⟨_,(ac (bG (eI (eG (az (cV "tuple") rfl T.b_isinstance bv (aa (pv 0) (aa (gR T.b_tuple iR) af))))) (ag (aB (aP (av (aF (av (pv 1) (av (pv 0) au))) au)))) aO) (ac (ao (i:=2) dS (aP au)) (ac (aR Jm rfl (bR rfl T.b_range (aa ae af)) (aY (i:=3) dS) (ag (ba (tf PySem.F.plainAttrs_list PySem.F.slot_list_extend PySem.F.type_list_extend nX (pv 2) (aa (aj B q hr (aa (ay aD (pv 0) (pv 3)) (aa (ai cO (pv 1) (bL nj rfl T.b_str yE (aa (pv 3) af))) af)) (hj:=by first | decide | simp | (simp only[Ms];lia))) af))))) (ag (aB (pv 2)))))),?_⟩
  cases ht with
  | col i =>
   have g':0≤i∧i≤35:=by cases k<;>exact gt
   refine⟨_,_,_,rfl,.int _,n8,aA (mR ?_)⟩;refine⟨(leZ rfl),nw fun p H1 hp s1 u1 =>?_⟩;refine⟨(leZ rfl),fun l J =>?_⟩;have s2:=ak.new J (.lst [.ref p]);exact q' l _ _ (s1.trans s2) (ak.free s1 J) ah (.cons ⟨p,z,rfl,s2 _ _ u1,hz,rfl,by lia,g'⟩ .nil)
  | @four p xa xb xc xd ta tb tc td e ja jb jc jd =>
   rcases k with _|k
   ·exact gt.elim
   obtain⟨ga,gb,gc,gd,ho⟩:=gt;have hc':cnt ta + cnt tb + cnt tc + cnt td≤4000:=hc;refine⟨_,_,_,rfl,.tup e,n6,aA (fS ?_)⟩;refine⟨(leZ rfl),nw fun l H1 J s1 u1 =>?_⟩;obtain⟨ps,U⟩:∃ ps:List (List (List Nat × Int)),ps=[lvs (dig z++[0]) ta,lvs (dig z++[1]) tb,lvs (dig z++[2]) tc,lvs (dig z++[3]) td]:=⟨_,rfl⟩;have a2:ps.length=4:=by rw[U];rfl
   have a3:ps.flatten.length≤4000:=by
    rw[U];simp only[List.flatten_cons,List.flatten_nil,J_,I8,d_]
    lia
   refine⟨4,rfl,by decide,by decide,bY (fun j σ H2=>ak H H2∧∃ (us:List V) (o3:OW9),H2 l=some (.lst us)∧j≤4∧bA H2 n us (ps.take j).flatten∧σ=[some (.ref p),some (.str z),some (.ref l),o3]) ⟨s1,[],none,u1,by decide,.nil,rfl⟩ ?_ ?_⟩
   ·rintro j σ H2 hj ⟨s2,us,o3,u2,G,Y,rfl⟩;have G:j < 4:=hj;rw[show (0:Int) + (j:Int)=(j:Int) from K9 _];have key:∃ x t',atI [xa,xb,xc,xd] (j:Int)=some x∧bS H x t'∧aQ k t'∧cnt t'≤4000∧ps[j]? = some (lvs (dig z++[j]) t'):=by
     rw[U];rcases j with _ | _ | _ | _ | j
     ·exact⟨xa,ta,rfl,ja,ga,by lia,rfl⟩
     ·exact⟨xb,tb,rfl,jb,gb,by lia,rfl⟩
     ·exact⟨xc,tc,rfl,jc,gc,by lia,rfl⟩
     ·exact⟨xd,td,rfl,jd,gd,by lia,rfl⟩
     ·lia
    obtain⟨x,t',k1,k2,k3,k4,k5⟩:=key;have l1:(one j).length=1:=rfl;refine⟨.inl ⟨rfl,_,SqL.of u2⟩,p,_,_,x,rfl,rfl,SqT.of (s2 _ _ e),k1,(j:Int),rfl,yf j G,?_⟩;rw[yR G];refine⟨_,_,rfl,rfl,(by rw[l1];exact small (by lia)),x,t',z++one j,k,n,rfl,k2.up s2.tups,k3,IsC.app hz (IsC.one G),by rw[ii,l1];lia,hn,by lia,by lia,k4,fun l2 a0 H3 s3 a4 u3 O =>?_⟩;rw[ng,vq]at O;have u2':=s3 _ _ u2;have et:(ps.take (j + 1)).flatten=(ps.take j).flatten++lvs (dig z++[j]) t':=by rw[Jw,k5,Lm];simp
    have n1:=Y.len;have n2:=O.len;have n3:(ps.take j).flatten.length≤ps.flatten.length:=by
     conv=>rhs;rw[← JZ j ps,Lm,I8]
     simp
    have n4:=d_ t' (dig z++[j]);have tl:=bQ.lst (ys:=us++a0) u2';refine⟨l,l2,us,a0,rfl,rfl,u2',u3,big (by lia),ak.set (s2.trans s3) J _,us++a0,_,ah,G,?_,rfl⟩;rw[et];exact (Y.up (s3.tups.trans tl)).app (O.up tl)
   ·rintro σ H2 ⟨s2,us,o3,u2,G,Y,rfl⟩;have e4:(ps.take 4).flatten=lvs (dig z) (.four ta tb tc td):=by
     rw[Ji (by lia),U];simp[lvs]
    have hus':bA H2 n us (ps.take 4).flatten:=Y;rw[e4]at hus';exact (q' l us H2 s2 J u2 hus')
abbrev qz:Stmt:=top 28
theorem At:aE ["sheet"] ["sheet"] (aq qz):={}
inductive rR  (vs:List V)(H:Hp)(Q:VK):Prop
 | mk (v:V) (t:Tr) (n:Nat) (h_0:vs=[v]) (h_1:DT H v n t) (h_2:aQ n t) (h_3:n≤40) (h_4:cnt t≤4000) (h_5:∀ l us H',ak H H'→H l=none→H' l=some (.lst us)→bA H' n us (lvs [] t)→Q (.ref l) H'):rR  vs H Q
def kD:Sp:=fun vs H Q _=>rR  vs H Q
theorem AL (T:Tx K mg)(q:bW CX)(F:bE K "leaves" "leaves" qz f fd .none)(B:Fok P w K mg base CX 42 "leaves_below" ["tree","code"] [] (fN 41)):bF P w K mg base CX 43 f fd ["sheet"] kD:=by
 refine F.ok At (fun vs H Q E h =>?_) (fun J A outer s H vs Q E O h =>?_)
 ·obtain⟨_,_,_,rfl,_⟩:=h;rfl
 obtain⟨v,t,n,rfl,⟨p,x,rfl,U,Y⟩,gt,hn,hc,q'⟩:=h;refine⟨_,(ag (aB (aj B q O (aa (ay aD (pv 0) ae) (aa cG af))))),?_⟩;refine⟨p,_,_,_,rfl,rfl,SqT.of U,rfl,x,t,("" : Str),n,n,rfl,Y,gt,dO▸IsC.nil,by rw[show ("" : Str).length=0 by decide +kernel];simp,hn,by lia,by decide,hc,fun l us H' s' hl u' G =>?_⟩
 rw[(show dig ("" : Str)=[] by decide +kernel)]at G
 exact q' l us H' s' hl u' G
abbrev nG:Stmt:=top 33
theorem gH:aE ["sheet","told","code","colour","side"] ["sheet"] (aq nG):={}
inductive oM  (vs:List V)(H:Hp)(Q:VK):Prop
 | mk (ps:Addr) (n:Nat) (v:V) (t:Tr) (h_0:vs=[.ref ps]) (h_1:H ps=some (.tup [.int (n:Int),v])) (h_2:bS H v t) (h_3:aQ n t) (h_4:n≤40) (h_5:cnt t≤1500) (h_6:∀ l us H',ak H H'→H l=none→H' l=some (.lst us)→eV H' us (gW (sqs [] t 0 0 n))→Q (.ref l) H'):oM  vs H Q
def qr:Sp:=fun vs H Q _=>oM  vs H Q
theorem x5 (T:Tx K mg)(Y:Yx K mg)(q:bW (CXe P w))(F:bE K "touches" "touches" nG f fd .none)(J:Fok P w K mg base (CXe P w) 43 "leaves" ["sheet"] [] kD)(B:Fok P w K mg base (CXe P w) 43 "beyond_leaf" ["sheet","code","side"] [] (gF Y)):
  bF P w K mg base (CXe P w) 44 f fd ["sheet"] qr:=by
 refine F.ok gH (fun vs H Q E h =>?_) (fun d2 A outer s H vs Q E hr h =>?_)
 ·obtain⟨_,_,_,_,rfl,_⟩:=h;rfl
 obtain⟨ps,n,v,t,rfl,a5,ht,gt,hn,hc,q'⟩:=h;refine⟨_,(ac (ao (i:=1) gH (aP au)) (ac (aR Jm rfl (bO (aj J q hr (aa (pv 0) af))) (iz rfl (aW (pQ (i:=2) gH.nd rfl (Or.inr rfl)) (aW (aY (i:=3) gH) dC))) (ag (aR Jm rfl (xV (aF (av cG (av cG au)))) (aY (i:=4) gH) (ag (ba (tf PySem.F.plainAttrs_list PySem.F.slot_list_extend PySem.F.type_list_extend nX (pv 1) (aa (iM (N':=["other","code"]) ["code"] ["code"] [2] 1 {} (bO (aj B q hr (aa (pv 0) (aa (pv 2) (aa (pv 4) af))))) (fun _ _ _ _ _=>(hJ (i:=0))) (fun _ _ _ _ _=>(aF (av (pv 1) (av (pv 0) au))))) af))))))) (ag (aB (az (yC rfl) rfl T.b_sorted tQ (aa (pv 1) af)))))),?_⟩
 refine⟨(leZ rfl),nw fun lt H1 b7 s1 u1 =>?_⟩;refine⟨.ref ps,t,n,rfl,⟨ps,v,rfl,s1 _ _ a5,ht.up s1.tups⟩,gt,hn,by lia,fun l us H2 s2 hl u2 a2 =>?_⟩;have ll:=a2.len;have b8:l≠lt:=fun z=>by rw[z,u1]at hl;cases hl
 obtain⟨L,eL⟩:∃ L,L=sqs [] t 0 0 n:=⟨_,rfl⟩;have lc:L.length=cnt t:=by rw[eL];exact eu t [] 0 0 n
 have eS:lvs [] t=L.map fun q=>(q.z,q.c):=by rw[eL];exact hZ t [] 0 0 n
 rw[← eL]at q';rw[eS]at a2 ll;rw[I0]at ll;refine⟨l,rfl,⟨_,SqL.of u2⟩,cM (xs:=us) (fun i σ U=>ak H U∧(∀ b o,b≠lt→H2 b=some o→U b=some o)∧(∃ ts,U lt=some (.lst ts)∧eV U ts ((L.take i).flatMap (ij L))∧ts.length≤i * 3000∧i≤us.length)∧∃ o2 o3 o4:OW9,σ=[some (.ref ps),some (.ref lt),o2,o3,o4]) ⟨s1.trans s2,fun _ _ _ e=>e,⟨[],s2 _ _ u1,.nil,by simp,Je _⟩,none,none,none,rfl⟩ (fun i σ U _ h=>SqL.of (h.2.1 _ _ b8 u2)) ?_ ?_⟩
 ·rintro i u σ U hu ⟨s3,k3,⟨ts,ut,a0,tl,hi⟩,o2,o3,o4,rfl⟩;obtain⟨d3,_⟩:=IZ.mp hu;obtain⟨pq,eq,r,z,rfl,a3,hz,ez,lz,d4⟩:=a2.get hu;rw[JL]at eq;obtain⟨sq,a6,b9⟩:=JQ.mp eq;have c0:pf sq [] t 0 0 n:=fL t [] 0 0 n gt sq (by rw[← eL];exact Jh a6);have c5:r≠lt:=fun q=>by rw[q,s2 _ _ u1]at a3;cases a3
  have c6:dig z=sq.z:=by rw[ez,← b9]
  have c7:txt sq.z=z:=by rw[← c6,pC hz]
  have eT:(L.take (i + 1)).flatMap (ij L)=(L.take i).flatMap (ij L)++ij L sq:=by
   rw[Jw,a6,KQ];simp
  refine⟨r,_,rfl,SqT.of (k3 _ _ c5 a3),rfl,_,_,rfl,_,_,rfl,rfl,?_⟩;refine⟨(leZ rfl),fun pt a4 =>?_⟩;generalize e4:upd U pt _=H4;have s4:ak U H4:=e4▸ak.new a4 _;have w4:H4 pt=some (.tup [.str "right",.str "down"]):=by rw[← e4];exact ah
  have a7:pt≠lt:=fun q=>by rw[q,ut]at a4;cases a4
  refine⟨pt,rfl,⟨_,SqT.of w4⟩,vp (xs:=[.str "right",.str "down"]) (fun j σ H5=>ak H H5∧(∀ b o,b≠lt→H4 b=some o→H5 b=some o)∧(∃ ts,H5 lt=some (.lst ts)∧eV H5 ts ((L.take i).flatMap (ij L)++(List.range j).flatMap (oV L sq))∧ts.length≤i * 3000 + j * 1500∧j≤2)∧∃ o4:OW9,σ=[some (.ref ps),some (.ref lt),some (.str z),some (.int pq.2),o4]) ⟨s3.trans s4,fun _ _ _ e=>e,⟨ts,s4 _ _ ut,by rw[show (List.range 0).flatMap (oV L sq)=[] from rfl,J_];exact a0.up s4.tups,by omega,by decide⟩,_,rfl⟩ (fun j σ H5 _ h=>SqT.of (h.2.1 _ _ a7 w4)) ?_ ?_⟩
  ·rintro j x σ H5 hx ⟨s5,k5,⟨G,a1,O,a8,hj⟩,o4,rfl⟩;obtain⟨d5,a9,b1,b2,dx,dy,rfl,hd,e2,ex,ey⟩:=Ec hx;have b0:=s5 _ _ a5;have c8:=ht.up s5.tups;refine⟨.inl ⟨rfl,_,SqL.of a1⟩,[.str z],rfl,ps,n,v,.str a9,t,z,rfl,b0,c8,gt,hn,by lia,hz,by lia,c7▸DL (K:=K) gt c0 hd e2 ex ey fun lb H6 s6 d6 u6 =>?_⟩;obtain⟨zs,b3⟩:∃ zs,zs=fl (dM (decide (j=1)) false sq) [] t 0 0 n:=⟨_,rfl⟩;rw[← b3]at u6;have ep:zs.map (fun o=>(sq.z,o))=oV L sq j:=by
    rw[b3,og,JE,← eL];rfl
   have d7:zs.length≤1500:=by
    have h1:=Jz List.length ep;rw[I0]at h1;have h2:=wl L sq j
    lia
   refine⟨lb,rfl,⟨_,SqL.of u6⟩,gX (zs.map sV) (fun D (k:Nat) ys H'=>ak H6 H'∧H' D=some (.lst ys)∧k≤zs.length∧eV H' ys ((zs.take k).map fun o=>(sq.z,o))) (by rw[I0];exact big (by lia)) (fun D k ys H' h=>SqL.of (h.1 _ _ u6))
    (fun D k ys H' h=>⟨h.2.1,by rw[h.2.2.2.len,I0,JO];lia⟩) (fun D hD=>⟨ak.new hD _,ah,Je _,.nil⟩) ?_ ?_ (fun _ _ _ _ _ k h=>k _ _ h) ?_⟩
   ·rintro D k y ys H7 hy hD ⟨c1,c2,c3,c4⟩;rw[JL]at hy;obtain⟨o,eo,rfl⟩:=JQ.mp hy;refine⟨rfl,(leZ rfl),fun pn c9 =>?_⟩;generalize e8:upd H7 pn _=H8;have s8:ak H7 H8:=e8▸ak.new c9 _;have w8:H8 pn=some (.tup [sV sq.z,sV o]):=by rw[← e8];exact ah
    have uD:=s8 _ _ c2;have b4:=bQ.lst (ys:=ys++[V.ref pn]) uD;refine⟨uD,ak.set (c1.trans s8) hD _,ah,(IZ.mp eo).1,?_⟩;rw[Jw,eo,Jn];exact (c4.up (s8.tups.trans b4)).app (.cons ⟨pn,rfl,b4 _ _ w8⟩ .nil)
   ·rintro D ys H7 hD ⟨c1,c2,c3,c4⟩;rw[I0,Kq,ep]at c4;have b5:=(s6.trans c1) _ _ a1;have b6:=bQ.lst (ys:=G++ys) b5;have n1:=c4.len;have n2:=wl L sq j;refine⟨lt,D,G,ys,rfl,rfl,b5,c2,IM (by lia),ak.set (s5.trans (s6.trans c1)) b7 _,fun b o hb e=>by rw[aG hb];exact (s6.trans c1) _ _ (k5 b o hb e),⟨G++ys,ah,?_,by rw[I8];lia,by assumption⟩,_,rfl⟩;rw[AH,← Jx];exact (O.up ((s6.trans c1).tups.trans b6)).app (c4.up b6)
   ·intro σ H7 R R' k h_;obtain⟨_,g1,h_⟩:=aM h_;obtain⟨_,g2,h_⟩:=aM h_;obtain⟨h3,h4⟩:=h_;exact (aZ g1 (aZ g2 ⟨h3,fun p hp=>k _ _ (h4 p hp)⟩))
  ·rintro σ H5 ⟨s5,k5,⟨G,a1,O,a8,hj⟩,o4,rfl⟩;have hts5':eV H5 G ((L.take i).flatMap (ij L)++(List.range 2).flatMap (oV L sq)):=O;rw[Cu,← eT]at hts5';have tl5':G.length≤i * 3000 + 2 * 1500:=a8;exact⟨s5,fun b o hb e=>k5 b o hb (s4 _ _ (k3 b o hb e)),⟨G,a1,hts5',by lia,by assumption⟩,_,_,_,rfl⟩
 ·rintro σ U ⟨s3,k3,⟨ts,ut,a0,tl,hi⟩,o2,o3,o4,rfl⟩;rw[Ji (by lia)]at a0;obtain⟨as,e1,e2,e3⟩:=wg a0;subst e1;have d0:Prs U true as:=fun b hb=>by
   obtain⟨d,hd⟩:=e3 b hb;exact⟨_,_,hd,_,rfl⟩
  refine⟨lt,true,as,rfl,SqL.of ut,d0,fun S d1 hS pm pw =>?_⟩;have tS:=(ak.new hS (.lst (d1.map V.ref))).tups;have bf:L.Pairwise ff:=eL▸dv t [] 0 0 n gt;have hw:∀ q∈L,0 < q.w:=fun q hq=>(fh t [] 0 0 n gt q (eL▸hq)).2.2.2.2;have tp:=sL L [] bf hw;exact q' S _ _ (s3.trans (ak.new hS _)) (ak.free s3 hS) ah ((xE e2 e3 pm pw tp (rC bf)).up tS)
end
theorem BG (h:txt a=txt b):a=b:=by
 have:=Jz dig h
 rwa [gr,gr]at this
abbrev ky (z:List Nat):Key:=Sum.inr (txt z)
theorem q_ (h:ky a=ky b):a=b:=BG (Sum.inr.inj h)
theorem BE {kvs:LK9}{k:Key}{v:V}:(kvs.map (·.1)).Nodup→(k,v)∈kvs→cF kvs k=some v:=by
 induction kvs with
 | nil=>intro _ h;cases h
 | cons p r ih =>
  intro nd h;rw[Jl,Kn]at nd;rcases Jr.mp h with rfl | h
  ·exact cQ rfl
  ·rw[cR fun e=>nd.1 (e▸I9.mpr ⟨_,h,rfl⟩)];exact ih nd.2 h
def cE (L:List Sq):LK9:=L.map fun q=>(ky q.z,V.int q.c)
theorem pB {L:List Sq}(h:L.Pairwise ff):(L.map (·.z)).Nodup:=by
 unfold List.Nodup;rw[JN];exact h.imp fun h e=>absurd (e▸h.2) (KG _)
theorem md {L:List Sq}(h:L.Pairwise ff):((cE L).map (·.1)).Nodup:=by
 unfold cE;rw[JE];have h2:=pB h;unfold List.Nodup at *;rw[JN]at *;exact h2.imp fun h e=>h (q_ e)
theorem cC {L:List Sq}(h:L.Pairwise ff){q:Sq}(B:q∈L):cF (cE L) (ky q.z)=some (V.int q.c):=BE (md h) (I9.mpr ⟨q,B,rfl⟩)
theorem sG {L:List Sq}(h:L.Pairwise ff){q r:Sq}(O:q∈L)(U:r∈L)(e:q.z=r.z):q=r:=by
 induction L with
 | nil=>cases O
 | cons p L ih =>
  obtain⟨h1,h2⟩:=Ky.mp h;rcases Jr.mp O with Y|G
  ·rcases Jr.mp U with J|B
   ·rw[Y,J]
   ·have:=(h1 r B).2
    rw[← Y,e]at this;exact absurd this (KG _)
  ·rcases Jr.mp U with J|B
   ·have:=(h1 q G).2
    rw[← J,e]at this;exact absurd this (KG _)
   ·exact ih h2 G B
theorem kQ:∀ {L:List Sq} {d:Pr},d∈gW L→∃ q∈L,∃ r∈L,d=(q.z,r.z)∧aV q r=true
 | [],d,h=>by cases h
 | q::L,d,h=>by
  rcases Jj.mp h with h|h
  ·obtain⟨r,B,rfl⟩:=I9.mp h;obtain⟨h1,h2⟩:=JH.mp B;exact⟨q,Jg,r,Ja _ h1,rfl,h2⟩
  ·obtain⟨G,J,r,B,e,O⟩:=kQ h;exact⟨G,Ja _ J,r,Ja _ B,e,O⟩
theorem m9:∀ {L:List Sq} {i j:Nat} {q r:Sq},L[i]? = some q→L[j]? = some r→i < j→aV q r=true→(q.z,r.z)∈gW L
 | [],_,_,_,_,h,_,_,_=>by simp at h
 | p::L,0,j + 1,q,r,h1,h2,_,ht=>by
  have e:p=q:=by simpa using h1
  subst e;refine JS _ (I9.mpr ⟨r,JH.mpr ⟨Jh (by simpa using h2),ht⟩,rfl⟩)
 | p::L,i + 1,j + 1,q,r,h1,h2,hij,ht=>JD _ (m9 (i:=i) (j:=j) (by simpa using h1) (by simpa using h2) (by lia) ht)
 | p::L,_ + 1,0,_,_,_,_,h,_=>by lia
 | p::L,0,0,_,_,_,_,h,_=>by lia
theorem nV:∀ {us:List V} {M:List (List Nat × Int)},bA H n us M→∃ as:List Addr,us=as.map V.ref∧nn H as (M.map fun p=>(ky p.1,V.int p.2))
 | _,_,.nil=>⟨[],rfl,.nil⟩
 | _,_,.cons h t=>by
  obtain⟨as,e,k⟩:=nV t;obtain⟨r,z,rfl,B,G,J,O,U⟩:=h;refine⟨r::as,by rw[e];rfl,.cons ?_ k⟩;show H r=some (.tup [.str (txt _),.int _]);rw[← J,pC G];exact B
structure Aro (H:Hp)(d:Addr)(zs:LN9)(lo:List Nat→Addr)(A:List Nat→LN9):Prop where
 ex:∃ kvs,H d=some (.dK kvs)∧kvs.length≤zs.length∧(∀ z∈zs,cF kvs (ky z)=some (.ref (lo z)))∧∀ z,z∉zs→cF kvs (ky z)=none
 at_:∀ z∈zs,H (lo z)=some (.lst ((A z).map sV))
 inj:∀ z∈zs,∀ y∈zs,lo z=lo y→z=y
theorem Aro.ne {lo:List Nat→Addr}(h:Aro H d zs lo A)(B:z∈zs):lo z≠d:=fun e=>by
 obtain⟨kvs,h1,_⟩:=h.ex;have h2:=h.at_ z B
 rw[e,h1]at h2;cases h2
theorem Aro.up {lo:List Nat→Addr}(h:Aro H d zs lo A)(s:ak H H'):Aro H' d zs lo A:=by
 obtain⟨kvs,h1,h2,B,G⟩:=h.ex;exact⟨⟨kvs,s _ _ h1,h2,B,G⟩,fun z J=>s _ _ (h.at_ z J),h.inj⟩
theorem Aro.get {lo:List Nat→Addr}(h:Aro H d zs lo A)(B:z∈zs):ot H d (sV z) (some (.ref (lo z))):=by
 obtain⟨kvs,h1,_,h2,_⟩:=h.ex;rw[← h2 z B];exact ot.k (k:=ky z) h1
def rM (A:List Nat→LN9)(a b:List Nat):List Nat→LN9:=fun z=>if z=a then A z++[b] else A z
theorem Aro.add {lo:List Nat→Addr}(h:Aro H d zs lo A)(B:a∈zs)(b:List Nat):Aro (upd H (lo a) (.lst ((A a).map sV++[sV b]))) d zs lo (rM A a b):=by
 obtain⟨kvs,h1,h2,J,O⟩:=h.ex;refine⟨⟨kvs,by rw[aG (Ne.symm (h.ne B))];exact h1,h2,J,O⟩,fun z G =>?_,h.inj⟩;unfold rM;by_cases e:z=a
 ·subst e;rw[ah,if_pos rfl,Jn];rfl
 ·rw[aG fun q=>e (h.inj z G a B q),if_neg e];exact h.at_ z G
theorem Aro.new {lo:List Nat→Addr}(h:Aro H d zs lo (fun _=>[]))(U:H d=some (.dK kvs))(hz:z∉zs)(J:H l=some (.lst []))(Y:∀ y∈zs,lo y≠l):
  Aro (upd H d (.dK (fZ kvs (ky z) (.ref l)))) d (zs++[z]) (fun y=>if y=z then l else lo y) (fun _=>[]):=by
 obtain⟨G,h1,h2,h3,h4⟩:=h.ex;have e:G=kvs:=by
  rw[U]at h1;injection h1 with h1;injection h1 with h1;exact h1.symm
 subst e;have O:l≠d:=fun q=>by rw[q,U]at J;cases J
 have a0:∀ y∈zs,y≠z:=fun y B q=>hz (q▸B);refine⟨⟨_,ah,?_,fun y B =>?_,fun y B =>?_⟩,fun y B =>?_,fun y B x hx q =>?_⟩
 ·have:=fH G (ky z) (.ref l)
  rw[I8,Kd]
  lia
 ·rw[qh];by_cases q:y=z
  ·rw[if_pos (by rw[q]),if_pos q]
  ·rw[if_neg fun c=>q (q_ c),if_neg q];rcases Jj.mp B with B | B
   ·exact h3 y B
   ·exact absurd (Jc.mp B) q
 ·rw[qh,if_neg fun c=>B (by rw[q_ c];simp)];exact h4 y fun c=>B (JS _ c)
 ·show upd _ _ _ (if y=z then l else lo y)=_;by_cases q:y=z
  ·rw[if_pos q,aG O];exact J
  ·rw[if_neg q];have hy':y∈zs:=(Jj.mp B).elim id fun c=>absurd (Jc.mp c) q;rw[aG (h.ne hy')];exact h.at_ y hy'
 ·by_cases q1:y=z<;>by_cases q2:x=z
  ·rw[q1,q2]
  ·have hx':x∈zs:=(Jj.mp hx).elim id fun c=>absurd (Jc.mp c) q2;have q':l=lo x:=by simpa[q1,q2] using q
   exact absurd q'.symm (Y x hx')
  ·have hy':y∈zs:=(Jj.mp B).elim id fun c=>absurd (Jc.mp c) q1;have q':lo y=l:=by simpa[q1,q2] using q
   exact absurd q' (Y y hy')
  ·have hx':x∈zs:=(Jj.mp hx).elim id fun c=>absurd (Jc.mp c) q2;have hy':y∈zs:=(Jj.mp B).elim id fun c=>absurd (Jc.mp c) q1;exact h.inj y hy' x hx' (by simpa[q1,q2] using q)
def fU (kvs:LK9)(d:Pr):Bool:=decide (cF kvs (ky d.1)=cF kvs (ky d.2))
def iH (B:Pr→Bool)(A:List Nat→LN9)(d:Pr):List Nat→LN9:=if B d=true then rM (rM A d.1 d.2) d.2 d.1 else A
def j6 (B:Pr→Bool)(D:List Pr):List Nat→LN9:=D.foldl (iH B) fun _=>[]
theorem l8 (B:Pr→Bool)(D:List Pr)(d:Pr):j6 B (D++[d])=iH B (j6 B D) d:=by
 unfold j6;rw[K5];rfl
def Bz (B:Pr→Bool)(D:List Pr)(z z':List Nat):Prop:=∃ d∈D,B d=true∧((z=d.1∧z'=d.2)∨(z=d.2∧z'=d.1))
theorem qY:z'∈rM A a b z↔z'∈A z∨(z=a∧z'=b):=by
 unfold rM;by_cases e:z=a
 ·rw[if_pos e,Jj,Jc];simp[e]
 ·rw[if_neg e];simp[e]
theorem nY:z'∈iH B A d z↔z'∈A z∨(B d=true∧((z=d.1∧z'=d.2)∨(z=d.2∧z'=d.1))):=by
 unfold iH;by_cases h:B d=true
 ·rw[if_pos h,qY,qY];simp[h,or_assoc]
 ·rw[if_neg h];simp[h]
theorem tj (B:Pr→Bool):∀ (D:List Pr) (A:List Nat→LN9) (z z':List Nat),z'∈D.foldl (iH B) A z↔z'∈A z∨Bz B D z z'
 | [],A,z,z'=>by
  unfold Bz;simp
 | d::D,A,z,z'=>by
  rw[LV,tj B D,nY];unfold Bz;simp only[Jr,exists_eq_or_imp,or_assoc]
theorem ye (B:Pr→Bool)(D:List Pr)(z G:List Nat):G∈j6 B D z↔Bz B D z G:=by
 unfold j6;rw[tj];simp
theorem zN:∀ {L:List Sq} {d:Pr},L.Pairwise ff→d∈gW L→d.1 < d.2
 | [],_,_,h=>by cases h
 | q::L,d,hB,h=>by
  obtain⟨h1,h2⟩:=Ky.mp hB;rcases Jj.mp h with h|h
  ·obtain⟨r,B,rfl⟩:=I9.mp h;exact (h1 r (JH.mp B).1).2
  ·exact zN h2 h
theorem tm (h:(A z).Nodup)(B:b∉A a):(rM A a b z).Nodup:=by
 unfold rM
 split
 ·rename_i e
  rw[K3];refine⟨h,by simp,fun x G y J O=>B ?_⟩;rw[← e,← Jc.mp J,← O];exact G
 ·exact h
theorem rn (B:Pr→Bool):∀ {D:List Pr} {A:List Nat→LN9},D.Pairwise DV→(∀ d∈D,d.1 < d.2)→(∀ d∈D,d.2∉A d.1∧d.1∉A d.2)→(∀ z,(A z).Nodup)→∀ z,(D.foldl (iH B) A z).Nodup
 | [],_,_,_,_,h,z=>h z
 | d::D,A,hp,hl,hn,h,z=>by
  obtain⟨h1,h2⟩:=Ky.mp hp;have dl:=hl d Jg;obtain⟨U,Y⟩:=hn d Jg;have G:∀ {a b:List Nat},a < b→b < a→False:=fun h k=>KG _ (List.lt_trans h k);refine rn B (D:=D) (A:=iH B A d) h2 (fun e J=>hl e (Ja _ J)) (fun e J =>?_) (fun y =>?_) z
  ·obtain⟨m1,m2⟩:=hn e (Ja _ J);have O:=hl e (Ja _ J);have ne:¬ (e.1=d.1∧e.2=d.2):=fun⟨x,y⟩=>by
    rcases h1 e J with c|⟨_,c⟩
    ·rw[x]at c;exact KG _ c
    ·rw[y]at c;exact KG _ c
   rw[nY,nY];refine⟨fun c =>?_,fun c =>?_⟩
   ·rcases c with c|⟨_,c|c⟩
    ·exact m1 c
    ·exact ne c
    ·rw[c.1,c.2]at O;exact G O dl
   ·rcases c with c|⟨_,c|c⟩
    ·exact m2 c
    ·rw[c.1,c.2]at O;exact G O dl
    ·exact ne ⟨c.2,c.1⟩
  ·unfold iH
   split
   ·refine tm (tm (h y) U) fun c =>?_;rcases qY.mp c with c | c
    ·exact Y c
    ·rw[c.1]at dl;exact KG _ dl
   ·exact h y
theorem wy (B:Pr→Bool)(G:D.Pairwise DV)(J:∀ d∈D,d.1 < d.2)(z:List Nat):(j6 B D z).Nodup :=
 rn B G J (fun _ _=>⟨by simp,by simp⟩) (fun _=>by simp) z
theorem rL (A:List Nat→LN9)(a b z:List Nat):(rM A a b z).length≤(A z).length + 1:=by
 unfold rM
 split
 ·rw[I8,Kd];simp
 ·simp
theorem An (B:Pr→Bool)(A:List Nat→LN9)(d:Pr)(z:List Nat):(iH B A d z).length≤(A z).length + 2:=by
 unfold iH
 split
 ·have h1:=rL (rM A d.1 d.2) d.2 d.1 z;have h2:=rL A d.1 d.2 z
  lia
 ·simp
section
variable {P:Pg9}{w:Wd9}{K:Frag}{mg:Mg9}{base:Heap}{CX:CXT}{f:Addr}{fd:Fd9}
abbrev gP:Stmt:=top 35
theorem cI:aE ["sheet","colours","around","code","other"] ["sheet"] (aq gP):={}
inductive i5  (vs:List V)(H:Hp)(Q:VK):Prop
 | mk (ps:Addr) (n:Nat) (v:V) (t:Tr) (h_0:vs=[.ref ps]) (h_1:H ps=some (.tup [.int (n:Int),v])) (h_2:bS H v t) (h_3:aQ n t) (h_4:n≤40) (h_5:cnt t≤1500) (h_6:∀ d lo A H',ak H H'→H d=none→Aro H' d ((sqs [] t 0 0 n).map (·.z)) lo A→(∀ z,(A z).length≤4500000)→(∀ z z',z'∈A z↔Bz (fU (cE (sqs [] t 0 0 n))) (gW (sqs [] t 0 0 n)) z z')→(∀ z,(A z).Nodup)→Q (.ref d) H'):i5  vs H Q
def fP:Sp:=fun vs H Q _=>i5  vs H Q
theorem o0 (T:Tx K mg)(q:bW (CXe P w))(F:bE K "alike_around" "alike_around" gP f fd .none)(U:Fok P w K mg base (CXe P w) 43 "leaves" ["sheet"] [] kD)(J:Fok P w K mg base (CXe P w) 44 "touches" ["sheet"] [] qr):
  bF P w K mg base (CXe P w) 45 f fd ["sheet"] fP:=by
 refine F.ok cI (fun vs H Q E h =>?_) (fun c2 A outer s H vs Q E hr h =>?_)
 ·obtain⟨_,_,_,_,rfl,_⟩:=h;rfl
 obtain⟨ps,n,v,t,rfl,a6,ht,gt,hn,hc,q'⟩:=h;refine⟨_,(ac (ao (i:=1) cI (bL (rH rfl) rfl T.b_dict z_ (aa (aj U q hr (aa (pv 0) af)) af))) (ac (ao (i:=2) cI Cq) (ac (aR Jm rfl (EB (pv 1)) (aY (i:=3) cI) (ag (zf hr.dic (pv 2) (pv 3) (aP au) (mq rfl)))) (ac (aR Jm rfl (bO (aj J q hr (aa (pv 0) af))) (iz rfl (aW (aY (i:=3) cI) (aW (aY (i:=4) cI) dC))) (ag (bG (aH fF (hU hr.dic (pv 1) (pv 3) (fun _ _=>rfl)) (hU hr.dic (pv 1) (pv 4) (fun _ _=>rfl))) (ac (ba (bn (hU hr.dic (pv 2) (pv 3) (fun _ _=>rfl)) (aa (pv 4) af))) (ag (ba (bn (hU hr.dic (pv 2) (pv 4) (fun _ _=>rfl)) (aa (pv 3) af))))) aO))) (ag (aB (pv 2))))))),?_⟩;obtain⟨L,eL⟩:∃ L,L=sqs [] t 0 0 n:=⟨_,rfl⟩;have hB:L.Pairwise ff:=by rw[eL];exact dv t [] 0 0 n gt
 have lc:L.length=cnt t:=by rw[eL];exact eu t [] 0 0 n
 have eS:lvs [] t=L.map fun q=>(q.z,q.c):=by rw[eL];exact hZ t [] 0 0 n
 refine⟨.ref ps,t,n,rfl,⟨ps,v,rfl,a6,ht⟩,gt,hn,by lia,fun l us H1 s1 hl u1 a7 =>?_⟩;rw[eS]at a7;obtain⟨as,b4,a8⟩:=nV a7;have hpr':nn H1 as (cE L):=by
  unfold cE;rw[JE]at a8;exact a8
 refine⟨l,as,cE L,rfl,SqL.of (by rw[u1,b4]),hpr',md hB,nw fun dc H2 b5 s2 u2 =>?_⟩;refine fun Y a3 =>?_;have s3:=ak.new a3 (.dK []);have u3:upd H2 Y (.dK []) Y=some (.dK []):=ah;have u2':=s3 _ _ u2;generalize upd H2 Y (.dK [])=H3 at *;have a9:H Y=none:=(s1.trans s2).free a3;have b6:H dc=none:=s1.free b5;have b0:dc≠Y:=fun q=>by rw[q,a3]at u2;cases u2
 have cl:(cE L).length=L.length:=by unfold cE;rw[I0]
 obtain⟨zs,a0⟩:∃ zs,zs=L.map (·.z):=⟨_,rfl⟩;have zl:zs.length=L.length:=by rw[a0,I0]
 have b7:zs.Nodup:=by rw[a0];exact pB hB
 rw[← eL,← a0]at q';refine⟨dc,cE L,rfl,u2',fun ob=>Db (fun (i:Nat) σ H4=>ak H H4∧H4 dc=some (.frz ob (.dK (cE L)))∧(∃ lo,Aro H4 Y (zs.take i) lo (fun _=>[])∧∀ z∈zs.take i,H (lo z)=none)∧∃ o3:OW9,σ=[some (.ref ps),some (.ref dc),some (.ref Y),o3,none]) ?_ (fun i σ H _ h=>h.2.1) ?_ ?_⟩
 ·refine⟨ak.set ((s1.trans s2).trans s3) b6 _,ah,⟨fun _=>0,⟨⟨[],?_,I_ _,fun z O =>?_,fun z _=>rfl⟩,fun z O =>?_,fun z O =>?_⟩,fun z O =>?_⟩,none,rfl⟩
  ·rw[aG (Ne.symm b0)];exact u3
  all_goals (rw[Mt]at O;cases O)
 ·rintro i k v' σ H4 hk ⟨s4,f4,⟨lo,ar,nw⟩,o3,rfl⟩;unfold cE at hk;rw[JL]at hk;obtain⟨sq,b8,e⟩:=JQ.mp hk;obtain rfl:k=ky sq.z:=(Jz Prod.fst e).symm;have ez:zs[i]? = some sq.z:=by rw[a0,JL,b8];rfl
  have et:zs.take (i + 1)=zs.take i++[sq.z]:=by rw[Jw,ez];rfl
  have nz:sq.z∉zs.take i:=fun c=>by
   have h1:=K3.mp (et▸(L9 (i + 1) zs).nodup b7);exact h1.2.2 _ c _ (Jc.mpr rfl) rfl
  refine⟨(leZ rfl),fun l0 a4 =>?_⟩;have s5:=ak.new a4 (.lst []);have u5:upd H4 l0 (.lst []) l0=some (.lst []):=ah;have nl:∀ y∈zs.take i,lo y≠l0:=fun y hy q=>by
   have:=ar.at_ y hy
   rw[q,a4]at this;cases this
  generalize upd H4 l0 (.lst [])=H5 at *;have a1:=ar.up s5;obtain⟨kvs,d5,c1,_⟩:=a1.ex;have c3:kvs.length≤1500:=by
   have:=List.length_take_le i zs
   have:=List.length_take_le' i zs
   lia
  refine⟨Y,_,rfl,BA.k (k:=ky sq.z) d5 (Jt (by lia:kvs.length < 5000) (by decide)),?_⟩;refine⟨ak.set (s4.trans s5) a9 _,by rw[aG b0];exact s5 _ _ f4,⟨fun y=>if y=sq.z then l0 else lo y,?_,fun z O =>?_⟩,_,rfl⟩
  ·rw[et];exact a1.new d5 nz u5 nl
  ·rw[et]at O;by_cases q:z=sq.z
   ·show H (if z=sq.z then l0 else lo z)=none;rw[if_pos q];exact s4.free a4
   ·show H (if z=sq.z then l0 else lo z)=none;rw[if_neg q];exact nw z ((Jj.mp O).elim id fun c=>absurd (Jc.mp c) q)
 ·rintro σ H4 ⟨s4,f4,⟨lo,ar,nw⟩,o3,rfl⟩;rw[cl,← zl,Kq]at ar nw;refine⟨ps,n,v,t,rfl,s4 _ _ a6,ht.up s4.tups,gt,hn,hc,fun l2 b1 H5 s5 b9 u5 hD=>⟨l2,rfl,⟨_,SqL.of u5⟩,?_⟩⟩;rw[← eL]at hD;have lD:=hD.len;have c4:=wQ L;have lq:L.length * L.length≤1500 * 1500:=KY (by lia) (by lia);have a1:=ar.up s5;have c0:∀ z∈zs,lo z≠l2:=fun z O q=>by
   have:=ar.at_ z O
   rw[q,b9]at this;cases this
  refine cM (xs:=b1) (fun (j:Nat) σ H6=>j≤b1.length∧ak H H6∧(∀ b o,(∀ z∈zs,lo z≠b)→H5 b=some o→H6 b=some o)∧Aro H6 Y zs lo (j6 (fU (cE L)) ((gW L).take j))∧(∀ z,(j6 (fU (cE L)) ((gW L).take j) z).length≤2 * j)∧∃ o3 o4:OW9,σ=[some (.ref ps),some (.ref dc),some (.ref Y),o3,o4]) ⟨Je _,s4.trans s5,fun _ _ _ e=>e,a1,fun z=>I_ _,_,_,rfl⟩ (fun i σ H6 hi h=>SqL.of (h.2.2.1 _ _ c0 u5)) ?_ ?_
  ·rintro j u σ H6 hu ⟨_,s6,k6,G,B,o3,o4,rfl⟩;obtain⟨d,ed,p,rfl,hp⟩:=hD.get hu;obtain⟨b2,_⟩:=IZ.mp hu;obtain⟨q,hq,r,a5,rfl,tq⟩:=kQ (Jh ed);have et:(gW L).take (j + 1)=(gW L).take j++[(q.z,r.z)]:=by rw[Jw,ed];rfl
   have b3:∀ {b:Addr} {xs:List V},H5 b=some (.tup xs)→∀ z∈zs,lo z≠b:=fun {b xs} hb z O c=>by
    have:=a1.at_ z O
    rw[c,hb]at this;cases this
   have zq:q.z∈zs:=by rw[a0];exact I9.mpr ⟨q,hq,rfl⟩
   have zr:r.z∈zs:=by rw[a0];exact I9.mpr ⟨r,a5,rfl⟩
   have f6:H6 dc=some (.frz ob (.dK (cE L))):=k6 _ _ (fun z O c=>by
    have:=a1.at_ z O
    rw[c,s5 _ _ f4]at this;cases this) (s5 _ _ f4)
   have gq:∀ {x:Sq},x∈L→ot H6 dc (sV x.z) (some (.int x.c)):=fun {x} hx=>.inl ⟨cE L,ky x.z,.inr ⟨ob,f6⟩,rfl,(cC hB hx).symm⟩;have lk:fU (cE L) (q.z,r.z)=decide (V.int q.c=V.int r.c):=by
    unfold fU;rw[cC hB hq,cC hB a5];simp
   refine⟨p,_,rfl,SqT.of (k6 _ _ (b3 hp) hp),rfl,_,_,rfl,_,_,rfl,rfl,?_⟩;have sl:∀ z,(iH (fU (cE L)) (j6 (fU (cE L)) ((gW L).take j)) (q.z,r.z) z).length≤2 * (j + 1):=fun z=>by
    have h1:=An (fU (cE L)) (j6 (fU (cE L)) ((gW L).take j)) (q.z,r.z) z;have h2:=B z
    lia
   rw[← l8,← et]at sl;refine⟨dc,.int q.c,rfl,gq hq,dc,.int r.c,rfl,gq a5,rfl,aA (cz (fun c =>?_) (fun c =>?_))⟩
   ·have c':fU (cE L) (q.z,r.z)=true:=lk.trans c;have l1:=B q.z;refine⟨Y,_,rfl,G.get zq,.inl ⟨rfl,_,SqL.of (G.at_ _ zq)⟩,lo q.z,_,_,rfl,rfl,G.at_ _ zq,?_,?_⟩
    ·rw[I0];exact Jt (by lia:_ < 5000000) (by decide)
    have a2:=G.add zq r.z;have l2:=rL (j6 (fU (cE L)) ((gW L).take j)) q.z r.z r.z;have l3:=B r.z;refine⟨Y,_,rfl,a2.get zr,.inl ⟨rfl,_,SqL.of (a2.at_ _ zr)⟩,lo r.z,_,_,rfl,rfl,a2.at_ _ zr,?_,?_⟩
    ·rw[I0];exact Jt (by lia:_ < 5000000) (by decide)
    refine⟨b2,ak.set (ak.set s6 (nw _ zq) _) (nw _ zr) _,fun b o hb h5 =>?_,?_,sl,_,_,rfl⟩
    ·rw[aG (Ne.symm (hb _ zr)),aG (Ne.symm (hb _ zq))];exact k6 b o hb h5
    ·rw[et,l8];unfold iH;rw[if_pos c'];exact a2.add zr q.z
   ·have c':¬ fU (cE L) (q.z,r.z)=true:=fun h=>c (lk.symm.trans h);refine⟨b2,s6,k6,?_,sl,_,_,rfl⟩;rw[et,l8];unfold iH;rw[if_neg c'];exact G
  ·rintro σ H6 ⟨_,s6,k6,G,B,o3,o4,rfl⟩;rw[Ji (by lia)]at G B;refine (q' Y lo _ H6 s6 a9 G (fun z =>?_) (fun z z'=>ye _ _ z z') fun z=>wy (fU (cE L)) (rC hB) (fun d hd=>zN hB hd) z)
   have:=B z
   lia
end
abbrev Mem:Type:=List Nat × Option (List Nat)
def add1 (c:List Nat)(M:List Mem)(o:List Nat):List Mem:=if o∈M.map (·.1) then M else M++[(o,some c)]
def sA (A:List Nat→LN9)(M:List Mem)(c:List Nat):List Mem:=(A c).foldl (add1 c) M
def bg (A:List Nat→LN9)(z:List Nat):Nat→List Mem
 | 0=>[(z,none)]
 | k + 1=>match (bg A z k)[k]? with
  | none=>bg A z k
  | some m=>sA A (bg A z k) m.1
theorem yQ:∀ {l m:LN9},l.Nodup→(∀ x∈l,x∈m)→l.length≤m.length
 | [],_,_,_=>Je _
 | a::l,m,nd,h=>by
  obtain⟨h1,h2⟩:=Kn.mp nd;have B:=h a Jg;have J:=yQ (l:=l) (m:=m.erase a) h2 fun x G=>(LQ (fun e:x=a=>h1 (by rw[← e];exact G))).mpr (h x (Ja _ G))
  have:=List.length_erase_of_mem B
  have:=Ly B
  rw[Jv]
  lia
structure BI (zs:LN9)(M:List Mem):Prop where
 nd:(M.map (·.1)).Nodup
 sub:∀ m∈M,m.1∈zs
theorem BI.len (h:BI zs M):M.length≤zs.length:=by
 have:=yQ h.nd (m:=zs) fun x B=>by
  obtain⟨m,G,rfl⟩:=I9.mp B;exact h.sub m G
 rwa [I0]at this
theorem BI.add1 (h:BI zs M)(J:o∈zs):BI zs (add1 c M o):=by
 unfold Qs.add1
 split
 ·exact h
 ·rename_i hn
  refine⟨?_,fun m B =>?_⟩
  ·rw[Jn];exact K3.mpr ⟨h.nd,by simp,fun a O b U e=>hn (by
    have G:b=o:=Jc.mp U;rw[← G,← e];exact O)⟩
  ·rcases Jj.mp B with B|B
   ·exact h.sub m B
   ·rw[Jc.mp B];exact J
theorem BI.fold:∀ {os:LN9} {M:List Mem},BI zs M→(∀ o∈os,o∈zs)→BI zs (os.foldl (Qs.add1 c) M)
 | [],_,h,_=>h
 | o::os,M,h,ho=>BI.fold (os:=os) (h.add1 (c:=c) (ho o Jg)) fun x B=>ho x (Ja _ B)
theorem BI.bfs (J:∀ z∈zs,∀ y∈A z,y∈zs)(O:z∈zs):∀ k,BI zs (bg A z k)
 | 0=>⟨by simp[bg],fun m B=>by rw[Jc.mp B];exact O⟩
 | k + 1=>by
  have G:=BI.bfs J O k;unfold bg
  split
  ·exact G
  ·rename_i m B
   exact G.fold (J _ (G.sub m (Jh B)))
theorem Ci (c:List Nat)(M:List Mem)(o:List Nat):M <+: add1 c M o:=by
 unfold add1
 split
 ·exact Mm
 ·exact List.prefix_append _ _
theorem CS (c:List Nat)(M:List Mem)(o:List Nat):o∈(add1 c M o).map (·.1):=by
 unfold add1
 split
 ·assumption
 ·simp
theorem qL (c:List Nat):∀ (os:LN9) (M:List Mem),M <+: os.foldl (add1 c) M
 | [],M=>Mm
 | o::os,M=>(Ci c M o).trans (qL c os _)
theorem wO (c:List Nat):∀ (os:LN9) (M:List Mem),∀ o∈os,o∈(os.foldl (add1 c) M).map (·.1)
 | [],_,o,h=>by cases h
 | p::os,M,o,h=>by
  rcases Jr.mp h with rfl|h
  ·exact (List.IsPrefix.subset ((qL c os (add1 c M o)).map _)) (CS c M o)
  ·exact wO c os _ o h
theorem vE (A:List Nat→LN9)(z:List Nat)(k:Nat):bg A z k <+: bg A z (k + 1):=by
 show _ <+: match (bg A z k)[k]? with | none=>bg A z k | some m=>sA A (bg A z k) m.1
 split
 ·exact Mm
 ·exact qL _ _ _
theorem rK (A:List Nat→LN9)(z:List Nat):∀ (k i:Nat) (m:Mem),i < k→(bg A z k)[i]? = some m→∀ y∈A m.1,y∈(bg A z k).map (·.1)
 | 0,i,m,h,_,_,_=>by lia
 | k + 1,i,m,h,hm,y,hy=>by
  have pre:=vE A z k;have sub:=List.IsPrefix.subset (pre.map (·.1));by_cases hi:i < k
  ·cases e:(bg A z k)[i]? with
   | some m' =>
    have:(bg A z (k + 1))[i]? = some m':=by
     obtain⟨t,G⟩:=pre;rw[← G,JM (IZ.mp e).1];exact e
    rw[this]at hm;cases hm;exact sub (rK A z k i m hi e y hy)
   | none =>
    have O:(bg A z k).length≤i:=K0.mp e;have U:(bg A z k)[k]? = none:=K0.mpr (by lia);have B:bg A z (k + 1)=bg A z k:=by
     show (match (bg A z k)[k]? with | none=>bg A z k | some m=>sA A (bg A z k) m.1)=_;rw[U]
    rw[B,e]at hm;cases hm
  ·have J:i=k:=by lia
   subst J;cases e:(bg A z i)[i]? with
   | none =>
    have B:bg A z (i + 1)=bg A z i:=by
     show (match (bg A z i)[i]? with | none=>bg A z i | some m=>sA A (bg A z i) m.1)=_;rw[e]
    rw[B,e]at hm;cases hm
   | some m' =>
    have B:bg A z (i + 1)=sA A (bg A z i) m'.1:=by
     show (match (bg A z i)[i]? with | none=>bg A z i | some m=>sA A (bg A z i) m.1)=_;rw[e]
    have:(bg A z (i + 1))[i]? = some m':=by
     obtain⟨t,G⟩:=pre;rw[← G,JM (IZ.mp e).1];exact e
    rw[this]at hm;cases hm;rw[B];exact wO _ _ _ y hy
theorem tW (A:List Nat→LN9)(z:List Nat)(S:List Nat→Prop)(U:S z)(Y:∀ x y,S x→y∈A x→S y):∀ k,∀ m∈bg A z k,S m.1
 | 0,m,B=>by rw[Jc.mp B];exact U
 | k + 1,m,B=>by
  have O:=tW A z S U Y k;have hm':m∈match (bg A z k)[k]? with | none=>bg A z k | some m=>sA A (bg A z k) m.1:=B
  cases e:(bg A z k)[k]? with
  | none=>rw[e]at hm';exact O m hm'
  | some c =>
   rw[e]at hm';have hc:=O c (Jh e);have go:∀ (os:LN9) (M:List Mem),(∀ m∈M,S m.1)→(∀ o∈os,S o)→∀ m∈os.foldl (add1 c.1) M,S m.1:=by
    intro os
    induction os with
    | nil=>intro M G _;exact G
    | cons o os ihh =>
     intro M G J;refine ihh _ (fun m B =>?_) fun x hx=>J x (Ja _ hx);unfold add1 at B
     split at B
     ·exact G m B
     ·rcases Jj.mp B with B|B
      ·exact G m B
      ·rw[Jc.mp B];exact J o Jg
   exact go (A c.1) _ O (fun o J=>Y _ _ hc J) m hm'
theorem xo (A:List Nat→LN9)(z:List Nat):∀ k,(bg A z k)[0]? = some (z,none)
 | 0=>rfl
 | k + 1=>by
  obtain⟨t,G⟩:=vE A z k;have B:=xo A z k;rw[← G,JM (IZ.mp B).1];exact B
def Ge:Option (List Nat)→V
 | none=>.non
 | some c=>sV c
def IT (H:Hp)(u:V)(m:Mem):Prop:=∃ p,u=.ref p∧H p=some (.tup [sV m.1,Ge m.2])
abbrev rQ (H:Hp):List V→List Mem→Prop:=Paired (IT H)
theorem rQ.up (h:rQ H us M)(s:bQ H H'):rQ H' us M:=Paired.mapP h fun _ _ ⟨p,e,B⟩=>⟨p,e,s _ _ B⟩
theorem bB:∀ {l:List α} {r:List β} {i:Nat} {x:α},Paired F l r→l[i]? = some x→∃ y,r[i]? = some y∧F x y
 | _::_,_::_,0,_,.cons h _,e=>⟨_,rfl,by cases e;exact h⟩
 | _::_,_::_,i + 1,_,.cons _ h,e=>bB (i:=i) h e
 | [],[],i,_,.nil,e=>by simp at e
theorem cA (h:Paired F l1 r1)(k:Paired F l2 r2):Paired F (l1++l2) (r1++r2):=by
 induction h with
 | nil=>exact k
 | cons p _ ih=>exact .cons p ih
theorem cY (h:H a=some o)(n:∀ xs,o≠.tup xs):bQ H (upd H a o'):=fun b xs e=>by
 rw[aG fun q=>n xs (by rw[q,h]at e;exact Option.some.inj e)];exact e
def Met (H:Hp)(d:Addr)(S:LN9):Prop:=∃ kvs,H d=some (.dK kvs)∧kvs.length≤S.length∧∀ y,(cF kvs (ky y)).isSome=true↔y∈S
theorem Met.up (h:Met H d S)(s:ak H H'):Met H' d S:=by
 obtain⟨kvs,h1,h2⟩:=h;exact⟨kvs,s _ _ h1,h2⟩
theorem Met.put (B:kvs.length≤S.length)(h:∀ y,(cF kvs (ky y)).isSome=true↔y∈S)(z:List Nat)(v:V):Met (upd H d (.dK (fZ kvs (ky z) v))) d (S++[z]):=by
 refine⟨_,ah,?_,fun y =>?_⟩
 ·have:=fH kvs (ky z) v
  rw[I8,Kd]
  lia
 ·rw[qh,Jj,Jc];by_cases q:y=z
  ·rw[if_pos (by rw[q])];simp[q]
  ·rw[if_neg fun c=>q (q_ c),h y];simp[q]
section
variable {P:Pg9}{w:Wd9}{K:Frag}{mg:Mg9}{base:Heap}{CX:CXT}{f:Addr}{fd:Fd9}
abbrev gK:Stmt:=top 36
theorem cj:aE ["around","first","members","met","at","code","other"] ["around","first"] (aq gK):={}
inductive iW  (vs:List V)(H:Hp)(Q:VK):Prop
 | mk (d:Addr) (z:List Nat) (zs:LN9) (lo:List Nat→Addr) (A:List Nat→LN9) (h_0:vs=[.ref d,sV z]) (h_1:Aro H d zs lo A) (h_2:z∈zs) (h_3:zs.length≤1500) (h_4:(∀ z∈zs,∀ y∈A z,y∈zs)) (h_5:(∀ z,(A z).length≤4500000)) (h_6:∀ l us k H',ak H H'→H l=none→H' l=some (.lst us)→rQ H' us (bg A z k)→(bg A z k).length=k→Q (.ref l) H'):iW  vs H Q
def fM:Sp:=fun vs H Q _=>iW  vs H Q
theorem oY (T:Tx K mg)(F:bE K "members_from" "members_from" gK f fd .none):bF P w K mg base CX 1 f fd ["around","first"] fM:=by
 refine F.ok cj (fun vs H Q E h =>?_) (fun b7 A outer s H vs Q E hr h =>?_)
 ·obtain⟨_,_,_,_,_,rfl,_⟩:=h;rfl
 obtain⟨d,z,zs,lo,A,rfl,ar,hz,zl,hA,b8,q'⟩:=h;refine⟨_,(ac (ao (i:=2) cj (aP (av (aF (av (pv 1) (av xX au))) au))) (ac (ao (i:=3) cj (Cr (pv 1) k_)) (ac (ao (i:=4) cj ae) (ac (jX Jm (aH jD (pv 4) (az bC rfl T.b_len cW (aa (pv 2) af))) (ac (ao (i:=5) cj (ay aD (ay bK (pv 2) (pv 4)) ae)) (ac (aR Jm rfl (bO (hU hr.dic (pv 0) (pv 5) (fun _ _=>rfl))) (aY (i:=6) cj) (ag (bG (aH (AJ hr.dic) (pv 6) (pv 3) (by with_unfolding_all rfl)) (ac (zf hr.dic (pv 3) (pv 6) k_ (mq rfl)) (ag (ba (bn (pv 2) (aa (aF (av (pv 6) (av (pv 5) au))) af))))) aO))) (ag (ao (i:=4) cj (ai aI (pv 4) ae)))))) (ag (aB (pv 2))))))),?_⟩;refine⟨(leZ rfl),fun p0 a8 =>?_⟩;generalize e1:upd H p0 _=H1;have s1:ak H H1:=e1▸ak.new a8 _;have w1:H1 p0=some (.tup [sV z,.non]):=by rw[← e1];exact ah
 refine⟨(leZ rfl),fun U a1 =>?_⟩;generalize e2:upd H1 U _=H2;have s2:ak H1 H2:=e2▸ak.new a1 _;have w2:H2 U=some (.lst [.ref p0]):=by rw[← e2];exact ah
 have a2:H U=none:=s1.free a1;have a3:=s1.trans s2;refine fun J a0=>⟨ah,[(ky z,.bl true)],rfl,(by show 1≤15;decide),?_⟩;generalize e3:upd (upd H2 J _) J _=H3;have s3:ak H2 H3:=e3▸ak.set (ak.new a0 _) a0 _;have w3:H3 J=some (.dK [(ky z,.bl true)]):=by rw[← e3];exact ah
 have a9:H J=none:=a3.free a0;have b0:=a3.trans s3;refine⟨fun m σ H4=>∃ (k:Nat) (us:List V) (o5 o6:OW9),m=1501 - k∧ak H H4∧H4 U=some (.lst us)∧rQ H4 us (bg A z k)∧Met H4 J ((bg A z k).map (·.1))∧k≤us.length∧σ=[some (.ref d),some (sV z),some (.ref U),some (.ref J),some (.int (k:Int)),o5,o6],⟨_,0,[.ref p0],none,none,rfl,b0,s3 _ _ w2,.cons ⟨p0,rfl,(s2.trans s3) _ _ w1⟩ .nil,⟨_,w3,I_ _,fun y =>?_⟩,Je _,rfl⟩,?_⟩
 ·show (cF [(ky z,V.bl true)] (ky y)).isSome=true↔y∈[z];rw[Jc];by_cases q:z=y
  ·rw[cQ (by rw[q])];simp[q]
  ·rw[cR fun c=>q (q_ c),BD];simp[Ne.symm q]
 rintro m σ H4 ⟨k,us,o5,o6,rfl,s4,u4,hM,hm,hk,rfl⟩;have bi:=BI.bfs hA hz k;have lM:=Paired.length hM;have ll:=bi.len;refine⟨_,_,rfl,.inl ⟨_,SqL.of u4,rfl⟩,cP (aA (cz (fun c =>?_) (fun c =>?_)))⟩
 rotate_left
 ·have c':¬ (k:Int) < (us.length:Int):=fun h=>c (Jd h);exact (q' U us k H4 s4 a2 u4 hM (by lia))
 have c':(k:Int) < (us.length:Int):=JB c;have b1:k < us.length:=by lia
 obtain⟨u,hu⟩:∃ u,us[k]? = some u:=⟨us[k],Jy b1⟩;obtain⟨B,em,p,rfl,hp⟩:=bB hM hu;have hc:=bi.sub B (Jh em);have eb:bg A z (k + 1)=sA A (bg A z k) B.1:=by
  show (match (bg A z k)[k]? with | none=>bg A z k | some m=>sA A (bg A z k) m.1)=_;rw[em]
 refine⟨fun σ' O=>∃ (us:List V) (o5 o6:OW9),ak H O∧O U=some (.lst us)∧rQ O us (bg A z (k + 1))∧Met O J ((bg A z (k + 1)).map (·.1))∧k + 1≤us.length∧σ'=[some (.ref d),some (sV z),some (.ref U),some (.ref J),some (.int ((k + 1:Nat):Int)),o5,o6],fun σ' O ⟨b2,o5,o6,h1,h2,h3,h4,h5,h6⟩=>⟨1501 - (k + 1),by lia,k + 1,b2,o5,o6,rfl,h1,h2,h3,h4,h5,h6⟩,?_⟩;refine⟨U,us,_,_,rfl,rfl,SqL.of u4,bV hu,p,_,0,_,rfl,rfl,SqT.of hp,rfl,?_⟩;have a4:∀ {H':Hp},ak H H'→H' (lo B.1)=some (.lst ((A B.1).map sV)):=fun s=>s _ _ (ar.at_ _ hc);refine⟨d,_,rfl,(ar.up s4).get hc,lo B.1,rfl,⟨_,SqL.of (a4 s4)⟩,cM (xs:=(A B.1).map sV) (fun (j:Nat) σ O=>j≤(A B.1).length∧ak H O∧∃ (G:List V) (o6:OW9),O U=some (.lst G)∧rQ O G (((A B.1).take j).foldl (add1 B.1) (bg A z k))∧Met O J ((((A B.1).take j).foldl (add1 B.1) (bg A z k)).map (·.1))∧us.length≤G.length∧σ=[some (.ref d),some (sV z),some (.ref U),some (.ref J),some (.int (k:Int)),some (sV B.1),o6])
  ⟨Je _,s4,us,_,u4,hM,hm,I_ _,rfl⟩ (fun i σ O _ h=>SqL.of (a4 h.2.1)) ?_ ?_⟩
 ·rintro j x σ O hx ⟨_,s5,G,o6,u5,Y,⟨kvs,d5,l5,m5⟩,a5,rfl⟩;rw[JL]at hx;obtain⟨o,eo,rfl⟩:=JQ.mp hx;obtain⟨hj,_⟩:=IZ.mp eo;have et:(A B.1).take (j + 1)=(A B.1).take j++[o]:=by rw[Jw,eo];rfl
  have ef:((A B.1).take (j + 1)).foldl (add1 B.1) (bg A z k)=add1 B.1 (((A B.1).take j).foldl (add1 B.1) (bg A z k)) o:=by rw[et,K5];rfl
  have b3:BI zs (((A B.1).take j).foldl (add1 B.1) (bg A z k)):=bi.fold fun o ho=>hA _ hc o (KB ho);have b9:=b3.len;have c0:=Paired.length Y;rw[I0]at l5;rw[ef];generalize ((A B.1).take j).foldl (add1 B.1) (bg A z k)=M5 at *;refine⟨J,_,rfl,ot.k (k:=ky o) d5,aA (cz (fun c1 =>?_) (fun c1 =>?_))⟩
  ·have c1':(!(cF kvs (ky o)).isSome)=true:=c1;have b4:o∉M5.map (·.1):=fun h=>by
    rw[(m5 o).mpr h]at c1';cases c1'
   have ea:add1 B.1 M5 o=M5++[(o,some B.1)]:=by unfold add1;rw[if_neg b4]
   refine⟨J,_,rfl,BA.k (k:=ky o) d5 (Jt (by lia:kvs.length < 5000) (by decide)),?_⟩;have a6:U≠J:=fun q=>by rw[q,d5]at u5;cases u5
   have t6:bQ O (upd O J (.dK (fZ kvs (ky o) (.bl true)))):=cY d5 (by intro xs q;cases q);have s6:ak H (upd O J (.dK (fZ kvs (ky o) (.bl true)))):=ak.set s5 a9 _;have u6:upd O J (.dK (fZ kvs (ky o) (.bl true))) U=some (.lst G):=by rw[aG a6];exact u5
   have m6:Met (upd O J (.dK (fZ kvs (ky o) (.bl true)))) J (M5.map (·.1)++[o]):=Met.put (by rw[I0];exact l5) m5 o _;generalize upd O J (.dK (fZ kvs (ky o) (.bl true)))=H6 at *;refine⟨.inl ⟨rfl,_,SqL.of u6⟩,(leZ rfl),fun pn b5 =>?_⟩;generalize e7:upd H6 pn _=H7;have s7:ak H6 H7:=e7▸ak.new b5 _;have w7:H7 pn=some (.tup [sV o,sV B.1]):=by rw[← e7];exact ah
   have u7:=s7 _ _ u6;have m7:=m6.up s7;refine⟨U,G,_,rfl,rfl,u7,Jt (by lia:G.length < 5000) (by decide),?_⟩;have t8:bQ H7 (upd H7 U (.lst (G++[.ref pn]))):=cY u7 (by intro xs q;cases q);rw[ea];refine⟨hj,ak.set (s6.trans s7) a2 _,G++[.ref pn],_,ah,cA (Y.up (t6.trans (s7.tups.trans t8))) (.cons ⟨pn,rfl,t8 _ _ w7⟩ .nil),?_,by rw[I8];lia,rfl⟩;obtain⟨kv,g1,g2,g3⟩:=m7;refine⟨kv,by rw[aG (Ne.symm a6)];exact g1,?_,fun y =>?_⟩
   ·rw[Jn];exact g2
   ·rw[g3,Jn];rfl
  ·have c1':¬ (!(cF kvs (ky o)).isSome)=true:=c1;have b6:o∈M5.map (·.1):=(m5 o).mp (by
    cases hh:(cF kvs (ky o)).isSome with
    | true=>rfl
    | false=>rw[hh]at c1';exact absurd rfl c1')
   have ea:add1 B.1 M5 o=M5:=by unfold add1;rw[if_pos b6]
   rw[ea];exact⟨hj,s5,G,_,u5,Y,⟨kvs,d5,by rw[I0];exact l5,m5⟩,a5,rfl⟩
 ·rintro σ O ⟨_,s5,G,o6,u5,Y,a7,a5,rfl⟩;rw[I0,Kq]at Y a7;refine⟨G,_,_,s5,u5,?_,?_,by lia,rfl⟩
  ·rw[eb];exact Y
  ·rw[eb];exact a7
theorem Fq (h:∀ k,(bg A z k).length≤N):∃ k,k≤N∧(bg A z k).length=k:=by
 have go:∀ j,(∃ k,k≤j∧(bg A z k).length=k)∨j < (bg A z j).length:=by
  intro j
  induction j with
  | zero=>exact .inr Nat.zero_lt_one
  | succ j B =>
   rcases B with⟨k,G,e⟩|B
   ·exact .inl ⟨k,by lia,e⟩
   ·have:=(vE A z j).length_le
    by_cases e:(bg A z (j + 1)).length=j + 1
    ·exact .inl ⟨j + 1,I_ _,e⟩
    ·exact .inr (by lia)
 rcases go N with h1|h1
 ·exact h1
 ·have:=h N
  lia
theorem xm (h:(bg A z k).length=k):∀ j,bg A z (k + j)=bg A z k
 | 0=>rfl
 | j + 1=>by
  have B:=xm h j;show (match (bg A z (k + j))[k + j]? with | none=>bg A z (k + j) | some m=>sA A (bg A z (k + j)) m.1)=_;rw[B,K0.mpr (by lia)]
@[irreducible] def iB (A:List Nat→LN9) (z:List Nat):List Mem:=bg A z 1500
theorem uY (h:(bg A z k).length=k)(B:k≤1500):iB A z=bg A z k:=by
 unfold iB
 have:=xm h (1500 - k)
 rwa [show k + (1500 - k)=1500 by lia]at this
end
def suf (z:Str)(k:Nat):Str:=⟨(z.cps.toList.drop k).toArray⟩
theorem Ap {z:Str}{k:Nat}(h:k≤z.length):Txt.slice z (some (k:Int)) none=suf z k:=by
 have e:=PyProof.Rows.slice_closes_from (x:=z) (i:=(k:Int)) ⟨by simp,by rw[← dt];lia⟩;rw[beq_iff_eq]at e;rw[e];unfold suf
 congr 2
 rw[JU,Ji];rw[KN,← dt];simp
theorem D8 (z:Str)(k:Nat):(suf z k).length=z.length - k:=by rw[dt,dt];simp[suf]
theorem D9 (h:IsC z)(k:Nat):IsC (suf z k):=fun c B=>h c (by
 have hc':c∈z.cps.toList.drop k:=by simpa[suf] using B
 exact LP hc')
theorem xG (z:Str)(k:Nat):Txt.slice z (some (k:Int)) none=suf z k:=by
 by_cases h:k≤z.length
 ·exact Ap h
 ·have e:Builtin.Str.strSliceIndices (some (k:Int)) none 1 z.length=[]:=by
   unfold Builtin.Str.strSliceIndices;dsimp only;unfold sliceRange;have h1:¬ (k:Int) < 0:=by simp
   have h2:max (0:Int) (min (k:Int) (z.length:Int))=(z.length:Int):=by lia
   simp only[show (1:Int) > 0 by decide,if_true,h1,if_false,h2];rw[if_neg (by simp)]
   first | rfl | simp
  unfold Txt.slice;rw[e];refine kB ?_;unfold suf;rw[KR (by rw[← dt];lia)];by_cases h0:z.length=0
  ·rw[qo.mpr h0];decide +kernel
  ·first | rw[if_neg (by simp;lia)] | skip
   first | rfl | simp
theorem Ht (ds:List Nat):((ds.map one).map (·.length)).sum=ds.length:=by
 induction ds with
 | nil=>rfl
 | cons d r ih =>
  rw[Jl,Jl,JW,ih,Jv];show 1 + _=_
  lia
def mE (ds:List Nat):List V:=ds.map fun d=>V.str (one d)
section
variable {P:Pg9}{w:Wd9}{K:Frag}{mg:Mg9}{base:Heap}{CX:CXT}{f:Addr}{fd:Fd9}
abbrev qA:Stmt:=top 46
theorem Au:aE ["_law_script","_law_k"] ["_law_script","_law_k"] (aq qA):={}
inductive rS  (K:Frag)(vs:List V)(H:Hp)(Q:VK):Prop
 | mk (a:Addr) (ns:List Int) (k:Nat) (h_0:vs=[.ref a,.int k]) (h_1:SqL K H a (ns.map V.int)) (h_2:ns.length≤63) (h_3:Q (.int (cell ns k)) H):rS K vs H Q
def iJ  (K:Frag):Sp:=fun vs H Q _=>rS K vs H Q
theorem AM (T:Tx K mg)(F:bE K "_law_at" "_law_at" qA f fd .none):bF P w K mg base CX 1 f fd ["_law_script","_law_k"] (iJ K):=by
 refine F.ok Au (fun vs H Q E h =>?_) (fun O A outer s H vs Q E Y h =>?_)
 ·obtain⟨_,_,_,rfl,_⟩:=h;rfl
 obtain⟨a,B,k,rfl,J,hl,G⟩:=h;refine⟨_,(ac (bG (aH jD (pv 1) (az bC rfl T.b_len cW (aa (pv 0) af))) (ag (aB (ay bK (pv 0) (pv 1)))) aO) (ag (aB ae))),?_⟩;refine⟨_,_,rfl,.inl ⟨_,J,rfl⟩,cP (aA (cz (fun c =>?_) (fun c =>?_)))⟩
 ·have c':(k:Int) < (((B.map V.int).length:Nat):Int):=JB c;rw[I0]at c';have U:k < B.length:=by lia
  have e:(B.map V.int)[k]? = some (.int (cell B k)):=by simp[cell,U]
  exact⟨a,_,_,_,rfl,rfl,J,bV e,G⟩
 ·have c':¬ (k:Int) < (((B.map V.int).length:Nat):Int):=fun z=>c (Jd z);rw[I0]at c';have e:cell B k=0:=by
   have:B[k]? = none:=List.getElem?_eq_none (by lia)
   simp[cell,this]
  rw[e]at G;exact G
abbrev lW:Stmt:=top 47
theorem fE:aE ["_law_cell","_law_size","_law_signs","_law_rest","_law_k"] ["_law_cell","_law_size"] (aq lW):={}
inductive ny  (vs:List V)(H:Hp)(Q:VK):Prop
 | mk (c:Int) (n:Nat) (h_0:vs=[.int c,.int n]) (h_1:n≤64) (h_2:∀ ds H',ds.length=n→(∀ d∈ds,d < 4)→ak H H'→Q (.str (txt ds)) H'):ny  vs H Q
def oD:Sp:=fun vs H Q _=>ny  vs H Q
theorem Ar (ds:List Nat):(mE ds).length=ds.length:=I0 _
theorem wv (T:Tx K mg)(F:bE K "_law_code" "_law_code" lW f fd .none):bF P w K mg base CX 1 f fd ["_law_cell","_law_size"] oD:=by
 refine F.ok fE (fun vs H Q E h =>?_) (fun U A outer s H vs Q E hr h =>?_)
 ·obtain⟨_,_,rfl,_⟩:=h;rfl
 obtain⟨c,n,rfl,hn,Y⟩:=h;refine⟨_,(ac (ao (i:=2) fE (aP au)) (ac (ao (i:=3) fE (pv 0)) (ac (aR Jm rfl (bR rfl T.b_range (aa (pv 1) af)) (aY (i:=4) fE) (ac (ba (bn (pv 2) (aa (ay j7 cG (ai aN (ai aI (pv 3) (ai bq (pv 4) (ai aN (pv 0) ae))) ae)) af))) (ag (ao (i:=3) fE (ai aL (pv 3) ae))))) (ag (aB (tf PySem.F.plainAttrs_str PySem.F.slot_str_join PySem.F.type_str_join ET cG (aa (pv 2) af))))))),?_⟩;refine⟨(leZ rfl),fun l hl =>?_⟩;refine ?_;refine⟨_,rfl,by simp,by lia,bY (fun i σ H2=>∃ (ds:List Nat) (rest:Int) (v:OW9),ds.length=i∧(∀ d∈ds,d < 4)∧σ=[some (.int c),some (.int n),some (.ref l),some (.int rest),v]∧H2=upd H l (.lst (mE ds)))
  ⟨[],c,none,rfl,(fun _ z=>by cases z),rfl,rfl⟩ ?_ ?_⟩
 ·rintro i σ H2 hi ⟨ds,rest,v,B,J,rfl,rfl⟩;obtain⟨d,O,ed⟩:=zH (rest + (0 + (i:Int)) * (c % 5));refine⟨.inl ⟨rfl,_,SqL.of ah⟩,?_⟩;refine⟨(by show (0:Int) < 5;decide),.inl ⟨by lia,by lia⟩,(by show (0:Int) < 4;decide),_,_,48 + d,rfl,rfl,Cc,by rw[ed];exact GX O,?_⟩;refine⟨l,mE ds,_,rfl,rfl,ah,cH (by rw[Ar];lia),?_⟩;refine⟨cm (by decide) (by decide),?_⟩;refine⟨ds++[d],_,_,by rw[I8,B];rfl,fun e G =>?_,rfl,?_⟩
  ·rcases Jj.mp G with G|G
   ·exact J e G
   ·rw[Jc.mp G];exact O
  ·rw[yL];unfold mE;rw[Jn];rfl
 ·rintro σ H2 ⟨ds,rest,v,B,J,rfl,rfl⟩;have hds':ds.length=n:=by rw[B];exact JU n
  refine⟨rfl,("" : Str),l,ds.map one,rfl,rfl,SqL.of (by rw[ah];unfold mE;simp[JE];try rfl),?_,?_⟩
  ·have e0:("" : Str).length=0:=by decide +kernel
   have e1:=Ht ds;rw[e0,e1];lia
  ·rw[C5];exact Y ds _ hds' J (ak.new hl _)
end
def By (H:Hp)(u:V)(n:Nat):Prop:=∃ p z c,u=.ref p∧H p=some (.tup [.str z,.int c])∧IsC z∧z.length≤n∧(0≤c∧c≤35)
theorem By.up (h:By H u n)(s:bQ H H'):By H' u n:=by
 obtain⟨p,z,c,e,O,B,G,J⟩:=h;exact⟨p,z,c,e,s _ _ O,B,G,J⟩
theorem Hj (J:0≤M)(h1:M≤63):∃ n:Nat,Builtin.Range.small 1 M 2=true∧Builtin.Range.rangeSize 1 M 2=(n:Int)∧n≤31∧2 * (n:Int)≤M:=by
 have e:∀ m:Nat,m < 64→Builtin.Range.small 1 (m:Int) 2=true∧Builtin.Range.rangeSize 1 (m:Int) 2=((m / 2:Nat):Int):=by decide +kernel
 obtain⟨m,rfl⟩:∃ m:Nat,M=(m:Int):=⟨M.toNat,by lia⟩;obtain⟨B,G⟩:=e m (by lia);exact⟨m / 2,B,G,by lia,by lia⟩
section
variable {P:Pg9}{w:Wd9}{K:Frag}{mg:Mg9}{base:Heap}{CX:CXT}{f:Addr}{fd:Fd9}
abbrev ji:Stmt:=top 49
theorem r_:aE ["_law_cell"] ["_law_cell"] (aq ji):={}
inductive kn  (vs:List V)(H:Hp)(Q:VK):Prop
 | mk (c:Int) (h_0:vs=[.int c]) (h_1:∀ i:Int,0≤i→i≤35→Q (.int i) H):kn  vs H Q
def ip:Sp:=fun vs H Q _=>kn  vs H Q
theorem sk (T:Tx K mg)(F:bE K "_law_colour" "_law_colour" ji f fd .none):bF P w K mg base CX 1 f fd ["_law_cell"] ip:=by
 refine F.ok r_ (fun vs H Q E h =>?_) (fun G A outer s H vs Q E J h =>?_)
 ·obtain⟨_,rfl,_⟩:=h;rfl
 obtain⟨c,rfl,B⟩:=h;refine⟨_,(ac (bG (aH jD (ai aN (pv 0) ae) ae) (ag (aB (ai aN (ai aL (pv 0) ae) ae))) aO) (ag (aB (ai aN (ai aL (pv 0) ae) ae)))),?_⟩;refine⟨(by show (0:Int) < 3;decide),cP (aA (cz (fun _ =>?_) (fun _ =>?_)))⟩
 ·exact⟨cm (by decide) (by decide),(by show (0:Int) < 2;decide),B _ (by show 0≤c / 3 % 2;lia) (by show c / 3 % 2≤35;lia)⟩
 ·exact⟨cm (by decide) (by decide),(by show (0:Int) < 36;decide),B _ (by show 0≤c / 3 % 36;lia) (by show c / 3 % 36≤35;lia)⟩
inductive kj  (K:Frag)(vs:List V)(H:Hp)(Q:VK):Prop
 | mk (a:Addr) (ns:List Int) (most n:Nat) (h_0:vs=[.ref a,.int 1,.int most,.int n]) (h_1:SqL K H a (ns.map V.int)) (h_2:ns.length≤63) (h_3:most≤31) (h_4:n≤40) (h_5:∀ l xs H',ak H H'→H l=none→H' l=some (.lst xs)→xs.length≤most→(∀ u∈xs,By H' u n)→Q (.ref l) H'):kj K vs H Q
def kY  (K:Frag):Sp:=fun vs H Q _=>kj K vs H Q
abbrev jg:Stmt:=top 48
theorem bH:aE ["_law_script","_law_first","_law_most","_law_level","_law_paints_here","_law_code_here","_law_at_here","_law_cell","_law_keep"] ["_law_script","_law_first","_law_most","_law_level"] (aq jg):={}
theorem sj (T:Tx K mg)(q:bW CX)(F:bE K "_law_paints" "_law_paints" jg f fd .none)(B:Fok P w K mg base CX 1 "_law_at" ["_law_script","_law_k"] [] (iJ K))(J:Fok P w K mg base CX 1 "_law_code" ["_law_cell","_law_size"] [] oD)(G:Fok P w K mg base CX 1 "_law_colour" ["_law_cell"] [] ip):
  bF P w K mg base CX 3 f fd ["_law_script","_law_first","_law_most","_law_level"] (kY K):=by
 refine F.ok bH (fun vs H Q E h =>?_) (fun b0 A outer s H vs Q E hr h =>?_)
 ·obtain⟨_,_,_,_,rfl,_⟩:=h;rfl
 obtain⟨a,O,U,n,rfl,hS,a1,a3,hn,q'⟩:=h;refine⟨_,(ac (ao (i:=4) bH (aP au)) (ac (ao (i:=5) bH cG) (ac (aR Jm rfl (kI rfl T.b_range (aa (pv 1) (aa (az (gB rfl) rfl T.b_min oj (aa (az bC rfl T.b_len cW (aa (pv 0) af)) (aa (ai aI (pv 1) (ai bq ae (pv 2))) af))) (aa ae af)))) (aY (i:=6) bH) (ac (ao (i:=7) bH (aj B q hr (aa (pv 0) (aa (pv 6) af)))) (ac (ao (i:=8) bH (ai aN (ai aL (pv 7) ae) (ai aI (az bC rfl T.b_len cW (aa (pv 5) af)) ae))) (ac (Cf (bG (aH fF (ai aN (pv 7) ae) ae) (ag (ao (i:=5) bH (c9 i8 (pv 5) fB (di (pv 8))))) (ag (bG (aH fF (ai aN (pv 7) ae) ae) (ag (ao (i:=5) bH (ai cO (ai cO (c9 i8 (pv 5) fB (di (pv 8))) (ay j7 cG (ai aN (ai aL (pv 7) ae) ae))) (c9 i8 (pv 5) (di (ai aI (pv 8) ae)) fB)))) (ag (ao (i:=5) bH (ai cO (c9 i8 (pv 5) fB (di (pv 8))) (aj J q hr (aa (ai aL (pv 7) ae) (aa (ai aN (ai aL (pv 7) ae) (ai aI (pv 3) ae)) af)))))))))) (ac (ao (i:=5) bH (c9 i8 (pv 5) fB (di (pv 3)))) (ag (ba (bn (pv 4) (aa (aF (av (pv 5) (av (aj G q hr (aa (aj B q hr (aa (pv 0) (aa (ai aI (pv 6) ae) af))) af)) au))) af))))))))) (ag (aB (pv 4)))))),?_⟩;refine⟨(leZ rfl),nw fun l H1 hl s1 u1 =>?_⟩;refine⟨_,_,rfl,.inl ⟨_,s1.seq hS,rfl⟩,.inl ⟨by decide,by decide⟩,_,_,rfl,?_⟩;obtain⟨M,eM,hM⟩:∃ M:Int,M=(if 1 + 2 * (U:Int) < (((O.map V.int).length:Nat):Int) then 1 + 2 * (U:Int) else (((O.map V.int).length:Nat):Int))∧(0≤M∧M≤63∧M≤1 + 2 * (U:Int)):=⟨_,rfl,by rw[I0];split<;>lia⟩;obtain⟨N,sm,sz,hN,b1⟩:=Hj hM.1 hM.2.1;have b2:=hM.2.2;refine⟨1,M,2,N,(by show [V.int 1,V.int _,V.int 2]=[V.int 1,V.int M,V.int 2];rw[eM]),by decide,by decide,sm,sz,gn (fun i σ H2=>ak H H2∧∃ (xs:List V) (z:Str) (o6 o7 o8:OW9),H2 l=some (.lst xs)∧xs.length=i∧(∀ u∈xs,By H2 u n)∧IsC z∧z.length≤n∧σ=[some (.ref a),some (.int 1),some (.int U),some (.int n),some (.ref l),some (.str z),o6,o7,o8]) ⟨s1,[],_,_,_,_,u1,rfl,fun u Y=>absurd Y (by simp),dO▸IsC.nil,(by rw[show ("" : Str).length=0 by decide +kernel];simp),rfl⟩ ?_ ?_⟩
 ·rintro k σ H2 hk ⟨s2,xs,z,o6,o7,o8,u2,lx,a0,hz,lz,rfl⟩;have a2:=s2.seq hS;have zs:z.length≤sizeLine:=small (by lia);refine⟨a,O,1 + k * 2,rfl,a2,a1,?_⟩;have pI:(0:Int) < (z.length:Int) + 1:=by simp
  refine⟨cm (by decide) (by decide),_,_,rfl,⟨zs,rfl⟩,pI,?_⟩;obtain⟨kp,b3,a4⟩:∃ kp:Nat,kp≤z.length∧cell O (1 + k * 2) / 4 % ((z.length:Int) + 1)=(kp:Int):=by
   have h1:=K7 (cell O (1 + k * 2) / 4) (show (z.length:Int) + 1≠0 by lia);have h2:=KL (cell O (1 + k * 2) / 4) pI;exact⟨(cell O (1 + k * 2) / 4 % ((z.length:Int) + 1)).toNat,by lia,by lia⟩
  rw[show V.int _=V.int (kp:Int) from Jz V.int a4];refine⟨fun σ H3=>ak H2 H3∧∃ z:Str,IsC z∧z.length≤200∧σ=[some (.ref a),some (.int 1),some (.int U),some (.int n),some (.ref l),some (.str z),some (.int (1 + (k:Int) * 2)),some (.int (cell O (1 + k * 2))),some (.int (kp:Int))],?_,?_⟩
  ·have lp:=pN z kp;have hp:=pO hz kp;refine⟨(by show (0:Int) < 4;decide),rfl,aA (cz (fun _ =>?_) (fun _=>⟨(by show (0:Int) < 4;decide),rfl,aA (cz (fun _ =>?_) (fun _ =>?_))⟩))⟩
   ·refine⟨_,rfl,z,rfl,zs,ak.refl _,pre z kp,hp,by lia,?_⟩;rw[d8];rfl
   ·obtain⟨d,hd,ed⟩:=zH (cell O (1 + k * 2) / 164);refine⟨_,rfl,z,rfl,zs,cm (by decide) (by decide),(by show (0:Int) < 4;decide),_,_,48 + d,rfl,rfl,Cc,by rw[ed];exact GX hd,?_⟩;rw[d8];refine⟨_,_,rfl,rfl,(by show (pre z kp).length + 1≤sizeLine;exact small (by lia)),_,rfl,z,rfl,zs,?_⟩;have es:Txt.slice z (some ((kp:Int) + 1)) none=suf z (kp + 1):=xG z (kp + 1);dsimp only;rw[es];have ls:=D8 z (kp + 1);have l1:(pre z kp++(one d)).length=(pre z kp).length + 1:=by rw[ii];rfl
    refine⟨_,_,rfl,rfl,(by show (pre z kp++(one d)).length + (suf z (kp + 1)).length≤sizeLine;exact small (by lia)),ak.refl _,pre z kp++one d++suf z (kp + 1),IsC.app (IsC.app hp (IsC.one hd)) (D9 hz _),by rw[ii];lia,rfl⟩
   ·have pn:(0:Int) < (n:Int) + 1:=by simp
    obtain⟨sg,b4,a5⟩:∃ sg:Nat,sg≤n∧cell O (1 + k * 2) / 7 % ((n:Int) + 1)=(sg:Int):=by
     have h1:=K7 (cell O (1 + k * 2) / 7) (show (n:Int) + 1≠0 by lia);have h2:=KL (cell O (1 + k * 2) / 7) pn;exact⟨(cell O (1 + k * 2) / 7 % ((n:Int) + 1)).toNat,by lia,by lia⟩
    refine⟨_,rfl,z,rfl,zs,cm (by decide) (by decide),cm (by decide) (by decide),pn,cell O (1 + k * 2) / 164,sg,(by show [V.int _,V.int (cell O (1 + k * 2) / 7 % ((n:Int) + 1))]=[V.int _,V.int _];rw[a5]),by lia,fun ds H4 ld h4 s4 =>?_⟩;rw[d8];have lt:=fA ds;exact⟨_,_,rfl,rfl,small (by lia),s4,pre z kp++txt ds,IsC.app hp (ug h4),by rw[ii];lia,rfl⟩
  ·rintro σ H3 ⟨s3,z',a6,b5,rfl⟩;have u3:=s3 _ _ u2;have a7:=s3.seq a2;refine⟨_,rfl,z',rfl,small (by lia),?_⟩;rw[d8];have lp:=pN z' n;have hp':=pO a6 n;generalize pre z' n=zz at *;refine⟨.inl ⟨rfl,_,SqL.of u3⟩,a,O,1 + k * 2 + 1,rfl,a7,a1,cell O (1 + k * 2 + 1),rfl,fun c a8 a9=>⟨(leZ rfl),fun p hp =>?_⟩⟩;have s5:=ak.new hp (.tup [.str zz,.int c]);have p5:upd H3 p (.tup [.str zz,.int c]) p=some (.tup [.str zz,.int c]):=ah;have u5:=s5 _ _ u3;have tl:=bQ.lst (ys:=xs++[V.ref p]) u5;refine⟨l,xs,_,rfl,rfl,u5,cH (by lia),ak.set (s2.trans (s3.trans s5)) hl _,xs++[V.ref p],zz,_,_,_,ah,by rw[I8,lx];rfl,fun u Y =>?_,hp',by lia,rfl⟩;rcases Jj.mp Y with Y | Y
   ·exact (a0 u Y).up ((s3.trans s5).tups.trans tl)
   ·rw[Jc.mp Y];exact⟨p,zz,c,rfl,tl _ _ p5,hp',by lia,a8,a9⟩
 ·rintro σ H2 ⟨s2,xs,z,o6,o7,o8,u2,lx,a0,hz,lz,rfl⟩;exact (q' l xs H2 s2 hl u2 (by lia) a0)
end
theorem PaV.ok (h:PaV H n u q):POk n q:=by
 obtain⟨p,z,_,_,B,e,G,J⟩:=h;rw[POk,← e,cN];exact⟨Dy B,G,J⟩
theorem bA.ok (h:bA H n us L):∀ p∈L,POk n p:=by
 induction h with
 | nil=>intro p G;cases G
 | cons p _ ih =>
  intro q B;rcases Jr.mp B with rfl | B
  ·exact p.ok
  ·exact ih q B
theorem bA.of:∀ {us:List V},(∀ u∈us,By H u n)→∃ L,bA H n us L
 | [],_=>⟨[],.nil⟩
 | u::us,h=>by
  obtain⟨L,B⟩:=bA.of (us:=us) (fun v G=>h v (Ja _ G));obtain⟨p,z,c,e,J,O,U,Y⟩:=h u Jg;exact⟨(dig z,c)::L,.cons ⟨p,z,e,J,O,rfl,U,Y⟩ B⟩
def jY (q:Str × Int):PyData:=.tuple [.str q.1,.int q.2]
theorem Am (h:IsC z):PyData.strOk z=true:=by
 unfold PyData.strOk;rw[← Array.all_toList,Mf];intro c B
 have:=h c B
 exact Jd (by lia)
theorem bA.dats (h:bA H n us L):∃ ds:List (Str × Int),ds.length=L.length∧(∀ q∈ds,PyData.strOk q.1=true)∧Dats H us (ds.map jY):=by
 induction h with
 | nil=>exact⟨[],rfl,fun q G=>(by cases G),.nil⟩
 | @cons u q us L p _ ih =>
  obtain⟨ds,e,J,k⟩:=ih;obtain⟨a,z,rfl,O,U,_⟩:=p;refine⟨(z,q.2)::ds,by simp[e],fun r B =>?_,.cons (.tup O (.cons (.str z) (.cons (.int _) .nil))) k⟩;rcases Jr.mp B with rfl|B
  ·exact Am U
  ·exact J r B
theorem se {ds:List (Str × Int)}(h:∀ q∈ds,PyData.strOk q.1=true):SeqAt.shaped (.list (ds.map jY))=true:=by
 have e:PyData.canLayAll0 (ds.map jY)=true∧PyData.depthAll (ds.map jY)≤1:=by
  induction ds with
  | nil=>exact⟨rfl,Je _⟩
  | cons q r ih =>
   obtain⟨B,J⟩:=ih (fun p G=>h p (Ja _ G));refine⟨?_,?_⟩
   ·show ((PyData.strOk q.1 && (true && true)) && PyData.canLayAll0 (r.map jY))=true;rw[h q Jg,B];rfl
   ·show max (max 0 (max 0 0) + 1) (PyData.depthAll (r.map jY))≤1
    lia
 unfold SeqAt.shaped;show (PyData.canLayAll0 (ds.map jY) && decide (PyData.depthAll (ds.map jY) + 1≤64))=true;rw[e.1,Jd (by lia)];rfl
theorem Bl (l:List α):l=[]∨∃ a r,l=a::r:=match l with | []=>.inl rfl | a::r=>.inr ⟨a,r,rfl⟩
theorem Bh:e_ (qk (.col c) 0) (qk (.col c) 1) (qk (.col c) 2) (qk (.col c) 3)=.col c:=by
 show e_ (.col c) (.col c) (.col c) (.col c)=.col c;unfold e_;rw[if_pos (mK.mpr ⟨rfl,rfl,rfl,rfl⟩)]
section
variable {P:Pg9}{w:Wd9}{K:Frag}{mg:Mg9}{base:Heap}{CX:CXT}{f:Addr}{fd:Fd9}
abbrev ir:Stmt:=top 50
theorem qy:aE ["_law_a","_law_b","_law_c","_law_d"] ["_law_a","_law_b","_law_c","_law_d"] (aq ir):={}
inductive jH  (vs:List V)(H:Hp)(Q:VK):Prop
 | mk (a b c d:V) (ta tb tc td:Tr) (h_0:vs=[a,b,c,d]) (h_1:bS H a ta) (h_2:bS H b tb) (h_3:bS H c tc) (h_4:bS H d td) (h_5:(ta.deep≤60∧tb.deep≤60∧tc.deep≤60∧td.deep≤60)) (h_6:∀ v H',ak H H'→bS H' v (e_ ta tb tc td)→Q v H'):jH  vs H Q
def gE:Sp:=fun vs H Q _=>jH  vs H Q
theorem qS (T:Tx K mg)(F:bE K "_law_tree_of" "_law_tree_of" ir f fd .none):bF P w K mg base CX 1 f fd ["_law_a","_law_b","_law_c","_law_d"] gE:=by
 refine F.ok qy (fun vs H Q E h =>?_) (fun a0 A outer s H vs Q E O h =>?_)
 ·obtain⟨_,_,_,_,_,_,_,_,rfl,_⟩:=h;rfl
 obtain⟨a,b,c,d,ta,tb,tc,td,rfl,B,hb,hc,hd,⟨da,db,dc,dd⟩,q'⟩:=h;refine⟨_,(ac (bG (PW.pt (jV (eI (eG (az (cV "tuple") rfl T.b_isinstance bv (aa (pv 0) (aa (gR T.b_tuple iR) af))))) (jV (aH (qR O) (pv 0) (pv 1)) (jV (aH (qR O) (pv 0) (pv 2)) (pH (aH (qR O) (pv 0) (pv 3))))))) (ag (aB (pv 0))) aO) (ag (aB (aF (av (pv 0) (av (pv 1) (av (pv 2) (av (pv 3) au)))))))),?_⟩
 have ty:=B.ty (K:=K);have fin:e_ ta tb tc td=.four ta tb tc td→∀ p,H p=none→Q (.ref p) (upd H p (.tup [a,b,c,d])):=fun hg p hp=>by
  refine q' _ _ (ak.new hp _) ?_;rw[hg];have sn:=(ak.new hp (.tup [a,b,c,d])).tups;exact .four ah (B.up sn) (hb.up sn) (hc.up sn) (hd.up sn)
 have G:4≤sizeLine:=by decide
 have J:¬ (ta.isCol=true∧tb=ta∧tc=ta∧td=ta)→e_ ta tb tc td=.four ta tb tc td:=fun h=>by
  unfold e_;rw[if_neg (fun z=>h (mK.mp z))]
 cases hta:ta.isCol with
 | false =>
  rw[hta]at ty;refine⟨_,_,_,rfl,ty,n6,aA (fS (fS ?_))⟩;exact⟨G,fin (J fun z=>by rw[hta]at z;cases z.1)⟩
 | true =>
  rw[hta]at ty;refine⟨_,_,_,rfl,ty,n8,aA (mR ?_)⟩;have U:∀ {u:Tr},PyData.eqv ta.data u.data=true→u=ta:=fun z=>by rw[Tr.eqv]at z;exact (JB z).symm
  have Y:∀ {u:Tr},¬ PyData.eqv ta.data u.data=true→u≠ta:=fun z h=>z (by rw[Tr.eqv];exact Jd h.symm);refine⟨_,_,B.dat,hb.dat,Tr.shaped (by lia),Tr.shaped (by lia),aA (cz (fun z1 =>?_) (fun z1=>fS ?_))⟩
  ·refine⟨_,_,B.dat,hc.dat,Tr.shaped (by lia),Tr.shaped (by lia),aA (cz (fun z2 =>?_) (fun z2=>fS ?_))⟩
   ·refine⟨_,_,B.dat,hd.dat,Tr.shaped (by lia),Tr.shaped (by lia),aA (cz (fun z3 =>?_) (fun z3 =>?_))⟩
    ·refine (q' _ _ (ak.refl H) ?_);unfold e_;rw[if_pos (mK.mpr ⟨hta,U z1,U z2,U z3⟩)];exact B
    ·exact⟨G,fin (J fun z=>Y z3 z.2.2.2)⟩
   ·exact⟨G,fin (J fun z=>Y z2 z.2.2.1)⟩
  ·exact⟨G,fin (J fun z=>Y z1 z.2.1)⟩
abbrev iu:Stmt:=top 51
theorem bh:aE ["_law_paints_here","_law_base","_law_later","_law_code_here","_law_colour_here","_law_trees","_law_sign","_law_some"] ["_law_paints_here"] (aq iu):={}
inductive jI  (m:Nat)(vs:List V)(H:Hp)(Q:VK):Prop
 | mk (l:Addr) (xs:List V) (L:List (List Nat × Int)) (n:Nat) (h_0:vs=[.ref l]) (h_1:H l=some (.lst xs)) (h_2:bA H n xs L) (h_3:n < m) (h_4:m≤41) (h_5:xs.length + n≤200) (h_6:∀ v H',ak H H'→bS H' v (bo (.col 0) L)→Q v H'):jI m vs H Q
def eE  (m:Nat):Sp:=fun vs H Q _=>jI m vs H Q
theorem jZ (T:Tx K mg)(q:bW CX)(F:bE K "_law_tree_by" "_law_tree_by" iu f fd .none)(B:Fok P w K mg base CX 1 "_law_tree_of" ["_law_a","_law_b","_law_c","_law_d"] [] gE)(b:fg K fd ["_law_paints_here"] [])(m:mg "_law_tree_by" = some (.ref f)):
  ∀ n,bF P w K mg base CX (2 + n) f fd ["_law_paints_here"] (eE n)
 | 0=>by
  refine F.ok bh (fun vs H Q E h =>?_) (fun c7 A outer s H vs Q E hr h =>?_)
  ·obtain⟨_,_,_,_,rfl,_⟩:=h;rfl
  obtain⟨_,_,_,_,_,_,_,h,_⟩:=h;exact absurd h (Lr _)
 | m' + 1=>by
  have G:Fok P w K mg base CX (2 + m') "_law_tree_by" ["_law_paints_here"] [] (eE m'):=fok F (jZ T q F B b m m') b m
  refine F.ok bh (fun vs H Q E h =>?_) (fun c7 A outer s H vs Q E hr h =>?_)
  ·obtain⟨_,_,_,_,rfl,_⟩:=h;rfl
  obtain⟨l,xs,L,n,rfl,hl,hL,hn,hm,hb,q'⟩:=h;refine⟨_,(ac (ao (i:=1) bh ae) (ac (ao (i:=2) bh (aP au)) (ac (aR Jm rfl (bO (pv 0)) (iz rfl (aW (aY (i:=3) bh) (aW (aY (i:=4) bh) dC))) (ag (bG (aH fF (pv 3) cG) (ac (ao (i:=1) bh (pv 4)) (ag (ao (i:=2) bh (aP au)))) (ag (ba (bn (pv 2) (aa (aF (av (pv 3) (av (pv 4) au))) af))))))) (ac (bG (aH (qR hr) (pv 2) (aP au)) (ag (aB (pv 1))) aO) (ac (ao (i:=5) bh (aP au)) (ac (aR Jm rfl (nU cG) (pQ (i:=6) bh.nd rfl (Or.inr rfl)) (ac (ao (i:=7) bh (ai uO (aP (av (aF (av cG (av (pv 1) au))) au)) (s_ (N':=["_law_code_here","_law_colour_here","_law_sign"]) ["_law_sign"] ["_law_sign"] [6] 2 {} (bO (pv 2)) (fun _ _ _ _ _=>(pP (K:=K) (n:=2) rfl (aW (hJ (i:=0)) (aW (hJ (i:=1)) dC)))) (fun _ _ _ _ _=>(aH fF (ay j7 (pv 0) ae) (pv 2))) (fun _ _ _ _ _=>(aF (av (c9 i8 (pv 0) (di ae) fB) (av (pv 1) au))))))) (ag (ba (bn (pv 5) (aa (aj G q hr (aa (pv 7) af) (hj:=by first | decide | simp | (simp only[Ms];lia))) af)))))) (ag (aB (aj B q hr (aa (ay bK (pv 5) ae) (aa (ay bK (pv 5) ae) (aa (ay bK (pv 5) ae) (aa (ay bK (pv 5) ae) af)))) (hj:=by first | decide | lia | (simp only[Ms];lia))))))))))),?_⟩
  refine⟨(leZ rfl),nw fun c8 H1 b3 s1 u1 =>?_⟩;refine⟨l,rfl,⟨_,SqL.of (s1 _ _ hl)⟩,cM (xs:=xs) (fun i σ H2=>ak H H2∧∃ (b:Int) (lt:Addr) (U:List V) (M:List (List Nat × Int)) (o3 o4:OW9),H2 lt=some (.lst U)∧H lt=none∧bA H2 n U M∧(∀ p∈M,p.1≠[])∧U.length≤i∧bo (.col 0) (L.take i)=bo (.col b) M∧(0≤b∧b≤35)∧σ=[some (.ref l),some (.int b),some (.ref lt),o3,o4,none,none,none]) ⟨s1,0,c8,[],[],none,none,u1,b3,.nil,fun p Y=>(by cases Y),I_ _,rfl,⟨by decide,by decide⟩,rfl⟩ (fun i σ H2 _ h=>SqL.of (h.1 _ _ hl)) ?_ ?_⟩
  ·rintro i u σ H2 hu ⟨s2,b0,lt,U,M,o3,o4,u2,a8,hM,a2,lm,ep,a4,rfl⟩;obtain⟨J,eq,p,z,rfl,Y,hz,ez,lz,hc⟩:=hL.get hu;have et:L.take (i + 1)=L.take i++[J]:=by rw[Jw,eq];rfl
   refine⟨p,_,rfl,SqT.of (s2 _ _ Y),rfl,_,_,rfl,_,_,rfl,rfl,?_⟩;refine⟨rfl,aA (cz (fun c =>?_) (fun c =>?_))⟩
   ·have e:z=("" : Str):=by simpa using c
    have ed:J.1=[]:=by rw[← ez,e];exact iP
    refine⟨(leZ rfl),fun lt' a7 =>?_⟩;refine⟨ak.trans s2 (ak.new a7 _),J.2,lt',[],[],_,_,ah,ak.none s2 a7,.nil,fun p Y=>(by cases Y),Je _,?_,hc,rfl⟩;rw[et,iA,ed];rfl
   ·have nz:J.1≠[]:=fun h=>by
     have h0:z.length=0:=by rw[← cN,ez,h];rfl
     exact c (by simp[qo.mpr h0])
    refine⟨.inl ⟨rfl,_,SqL.of u2⟩,(leZ rfl),fun p' d1 =>?_⟩;have s3:=ak.new d1 (.tup [.str z,.int J.2]);have p3:upd H2 p' (.tup [.str z,.int J.2]) p'=some (.tup [.str z,.int J.2]):=ah;have u3:=s3 _ _ u2;generalize upd H2 p' (.tup [.str z,.int J.2])=H3 at *;have tl:=bQ.lst (ys:=U++[V.ref p']) u3;have hi:i < xs.length:=(IZ.mp hu).1;refine⟨lt,U,_,rfl,rfl,u3,cH (by lia),ak.set (s2.trans s3) a8 _,b0,lt,U++[V.ref p'],M++[J],_,_,ah,a8,(hM.up (s3.tups.trans tl)).app (.cons ⟨p',z,rfl,tl _ _ p3,hz,ez,lz,hc⟩ .nil),fun r hr =>?_,by rw[I8];show U.length + 1≤i + 1;lia,?_,a4,rfl⟩
    ·rcases Jj.mp hr with hr|hr
     ·exact a2 r hr
     ·rw[Jc.mp hr];exact nz
    ·rw[et,iA,iA,ep]
  ·rintro σ H2 ⟨s2,b0,lt,U,M,o3,o4,u2,a8,hM,a2,lm,ep,a4,rfl⟩;have eL:L.take xs.length=L:=Ji (by rw[hL.len];exact I_ _);rw[eL]at ep;rw[ep]at q';obtain⟨ds,ld,b4,b5⟩:=hM.dats;refine⟨(leZ rfl),fun le a9 =>?_⟩;have s3:=s2.trans (ak.new a9 (.lst []));have u3:=(ak.new a9 (.lst [])) _ _ u2;have ue:upd H2 le (.lst []) le=some (.lst []):=ah;have b6:=hM.up (ak.new a9 (.lst [])).tups;obtain⟨ds,ld,b4,b5⟩:=b6.dats;generalize upd H2 le (.lst [])=H3 at *;refine⟨_,_,.lst u3 b5,.lst ue .nil,se b4,by decide,?_⟩;rcases Bl ds with rfl | ⟨d0,dr,rfl⟩
   ·have eM:M=[]:=JP ld.symm;rw[eM]at q';exact (aA (mR (q' _ _ s3 (.col b0))))
   have pm:0 < M.length:=by rw[← ld];show 0 < dr.length + 1;simp
   refine (aA (fS ?_));refine⟨(leZ rfl),nw fun lw H4 b7 s4 w4 =>?_⟩;have d2:=b6.up s4.tups;have u4:=s4 _ _ u3;have b8:H lw=none:=ak.none s3 b7;have d3:=s3.trans s4;have d4:lt≠lw:=bJ u3 b7;have e8:0 < n:=by
    rcases LZ n with h0|h0
    ·obtain⟨p0,b1⟩:∃ p0,M[0]? = some p0:=⟨_,Jy pm⟩;have h1:=(hM.ok p0 (Jh b1)).2.1;exact absurd (JP (by lia)) (a2 p0 (Jh b1))
    ·exact h0
   refine⟨_,rfl,gn (fun j σ H5=>ak H H5∧H5 lt=some (.lst U)∧bA H5 n U M∧∃ (ts:List V) (o6 o7:OW9),H5 lw=some (.lst ts)∧ts.length=j∧(∀ k v,ts[k]? = some v→bS H5 v (bo (.col b0) (eZ k M)))∧σ=[some (.ref l),some (.int b0),some (.ref lt),o3,o4,some (.ref lw),o6,o7]) ⟨d3,u4,d2,[],none,none,w4,rfl,fun k v h=>(by simp at h),rfl⟩ ?_ ?_⟩
   ·rintro j σ H5 hj ⟨s5,u5,a5,ts,o6,o7,w5,a6,a1,rfl⟩;have d5:j < 4:=by rw[show ("0123" : Str).length=4 by decide +kernel]at hj;exact hj
    have ej:sgn ("0123" : Str) j=one j:=four (P:=fun d=>sgn ("0123" : Str) d=one d) (by decide +kernel) (by decide +kernel) (by decide +kernel) (by decide +kernel) d5
    rw[ej];refine⟨(leZ rfl),nw fun p0 H6 b1 s6 v6 =>?_⟩;refine⟨(leZ rfl),nw fun la H7 e9 s7 w7 =>?_⟩;have v7:=s7 _ _ v6;have b2:=s6.trans s7;have u7:=b2 _ _ u5;have d6:=a5.up b2.tups;have f0:U.length≤200:=by lia
    refine⟨[.str (one j)],rfl,lt,rfl,⟨_,SqL.of u7⟩,ke U (fun D i ys H'=>ak H7 H'∧H' D=some (.lst ys)∧ys.length≤i∧bA H' (n - 1) ys (eZ j (M.take i))) (small (by lia)) (fun D i ys H' h=>SqL.of (h.1 _ _ u7)) (fun D i ys H' h=>⟨h.2.1,h.2.2.1⟩) (fun D hD=>⟨ak.new hD _,ah,I_ _,.nil⟩) ?_ ?_ ?_ ?_ ?_⟩
    ·rintro D i x ys H' hx hD ⟨c1,c2,c3,c4⟩;obtain⟨J,b9,p,z,rfl,Y,hz,ez,lz,hc⟩:=d6.get hx;have et:M.take (i + 1)=M.take i++[J]:=by rw[Jw,b9];rfl
     have nz:=a2 J (Jh b9);have pz:0 < z.length:=by
      rcases LZ z.length with h0|h0
      ·exact absurd (JP (by rw[← ez,cN];exact h0)) nz
      ·exact h0
     have hs:z.length≤sizeLine:=small (by lia);obtain⟨e,he,e1,e2⟩:=kG hz pz;have c0:J=(e::dig (rst z),J.2):=by rw[← e2,← Fe pz,ez]
     have a0:eZ j [J]=if e=j then [(dig (rst z),J.2)] else []:=by rw[c0];rfl
     refine⟨p,_,rfl,SqT.of (c1 _ _ Y),rfl,_,_,rfl,_,_,rfl,rfl,rfl,?_⟩;refine⟨z,0,z.cps.getD 0 0,rfl,rfl,hs,Fs pz,rfl,aA (cz (fun c =>?_) (fun c =>?_))⟩
     ·have c':V.str (sgn z 0)=V.str (one j):=JB c;have c2':sgn z 0=one j:=by injection c'
      rw[e1]at c2';have d7:=EN c2';rw[if_pos d7]at a0;refine⟨_,rfl,z,rfl,hs,(leZ rfl),fun pn d8 =>?_⟩;have er:Txt.slice z (some 1) none=rst z:=Aq pz;dsimp only;rw[er];have sn:=ak.new d8 (.tup [.str (rst z),.int J.2]);have uD:=sn _ _ c2;have un:upd H' pn (.tup [.str (rst z),.int J.2]) pn=some (.tup [.str (rst z),.int J.2]):=ah;have tl:=bQ.lst (ys:=ys++[V.ref pn]) uD;have rl:=Ei z;refine⟨uD,ak.set (c1.trans sn) hD _,ah,by rw[I8];show ys.length + 1≤i + 1;lia,?_⟩;rw[et,jL,a0];exact (c4.up (sn.tups.trans tl)).app (.cons ⟨pn,rst z,rfl,tl _ _ un,Ej hz,rfl,by lia,hc⟩ .nil)
     ·have d9:¬ e=j:=fun h=>c (Jd (by show V.str (sgn z 0)=V.str (one j);rw[e1,h]));rw[if_neg d9]at a0;refine⟨c1,c2,by lia,?_⟩;rw[et,jL,a0,J_];exact c4
    ·rintro D ys H' hD ⟨c1,c2,c3,c4⟩;have eM:M.take U.length=M:=Ji (by rw[hM.len];exact I_ _);rw[eM]at c4;refine⟨la,D,_,_,rfl,rfl,c1 _ _ w7,c2,small (by show 1 + ys.length≤_;lia),fun lc e0 =>?_⟩;have s8:=ak.new e0 (.lst ([V.ref p0]++ys));have w8:upd H' lc (.lst ([V.ref p0]++ys)) lc=some (.lst ([V.ref p0]++ys)):=ah;generalize upd H' lc (.lst ([V.ref p0]++ys))=H8 at *;have c5:=b2.trans (c1.trans s8);have k8:bA H8 (n - 1) ([V.ref p0]++ys) ([([],b0)]++eZ j M):=bA.app (.cons ⟨p0,("" : Str),rfl,(c1.trans s8) _ _ v7,dO▸IsC.nil,iP,by rw[show ("" : Str).length=0 by decide +kernel];simp,a4⟩ .nil) (c4.up s8.tups)
     refine⟨.inl ⟨rfl,_,SqL.of (c5 _ _ w5)⟩,lc,_,_,n - 1,rfl,w8,k8,by lia,by lia,by rw[I8];show 1 + ys.length + (n - 1)≤200;lia,fun v H9 s9 hv =>?_⟩;have a3:=c5.trans s9;have w9:=a3 _ _ w5;have tl:=bQ.lst (ys:=ts++[v]) w9;refine⟨lw,ts,_,rfl,rfl,w9,cH (by lia),ak.set (s5.trans a3) b8 _,by rw[aG d4];exact a3 _ _ u5,a5.up (a3.tups.trans tl),ts++[v],_,_,ah,by rw[I8,a6];rfl,fun k g hg =>?_,rfl⟩;rcases KW k ts.length with hk | hk
     ·rw[JM hk]at hg;exact (a1 k g hg).up (a3.tups.trans tl)
     ·rw[JY hk]at hg;have e7:k - ts.length=0:=by
       rcases h:k - ts.length with _|k
       ·rfl
       ·rw[h]at hg;simp at hg
      rw[e7]at hg;have ek:k=j:=by lia
      rw[ek,← Option.some.inj hg];exact hv.up tl
    ·rintro x σ H' R R' k ⟨a,xs,e1,h1,h2,y1,r1,f1,y2,r2,f2,f6,h⟩;exact⟨a,xs,e1,h1,h2,y1,r1,f1,y2,r2,f2,f6,k _ _ h⟩
    ·intro σ H' R R' k O;obtain⟨_,e1,O⟩:=aM O;obtain⟨lo,e2,z,e3,hs,O⟩:=O;obtain⟨_,e4,O⟩:=aM O;obtain⟨h1,h2⟩:=O;exact (aZ e1 (⟨lo,e2,z,e3,hs,aZ e4 ⟨h1,fun p Y=>k _ _ (h2 p Y)⟩⟩))
    ·intro σ H' R R' k O;obtain⟨_,e1,O⟩:=aM O;obtain⟨z,i,c,e2,e3,hs,ha,O⟩:=O;obtain⟨_,e4,O⟩:=aM O;obtain⟨e5,O⟩:=O;obtain⟨_,e6,h⟩:=fC O;exact (aZ e1 (⟨z,i,c,e2,e3,hs,ha,aZ e4 ⟨e5,lZ e6 (k _ _ h)⟩⟩))
   ·rintro σ H5 ⟨s5,u5,a5,ts,o6,o7,w5,a6,a1,rfl⟩;obtain⟨va,vb,vc,vd,rfl⟩:∃ a b c d,ts=[a,b,c,d]:=by
     rw[show ("0123" : Str).length=4 by decide +kernel]at a6
     match ts,a6 with
     | [a,b,c,d],_=>exact⟨a,b,c,d,rfl⟩
    have ka:=a1 0 va rfl;have kb:=a1 1 vb rfl;have kc:=a1 2 vc rfl;have kd:=a1 3 vd rfl;have c6:=a5.ok;have dg:∀ k,(bo (.col b0) (eZ k M)).deep≤60:=fun k=>by
     have:=(mT (n:=40) (eZ k M) (.col b0) (fun p Y=>(uo k M c6 p Y).le (by lia)) (aQ.col a4)).deep
     lia
    refine⟨lw,_,_,_,rfl,rfl,SqL.of w5,rfl,lw,_,_,_,rfl,rfl,SqL.of w5,rfl,lw,_,_,_,rfl,rfl,SqL.of w5,rfl,lw,_,_,_,rfl,rfl,SqL.of w5,rfl,va,vb,vc,vd,_,_,_,_,rfl,ka,kb,kc,kd,⟨dg 0,dg 1,dg 2,dg 3⟩,fun v H6 s6 hv=>q' v H6 (s5.trans s6) ?_⟩;rw[lh M (.col b0) (fun p Y=>⟨a2 p Y,(c6 p Y).1⟩) Bh];exact hv
end
def iS (H:Hp)(lw:Addr)(r:V)(m j:Nat):Prop:=∃ (lr:Addr) (xs:List V),r=.ref lr∧lr≠lw∧H lr=some (.lst xs)∧xs.length=m∧∀ x∈xs,∃ t,bS H x t∧aQ j t∧cnt t≤4 ^ j
theorem iS.up (h:iS H lw r m j)(s:ak H H'):iS H' lw r m j:=by
 obtain⟨B,xs,e,n,G,J,O⟩:=h;refine⟨B,xs,e,n,s _ _ G,J,fun x h =>?_⟩;obtain⟨t,h1,h2⟩:=O x h;exact⟨t,h1.up s.tups,h2⟩
theorem iS.set (h:iS H lw r m j)(e:H lw=some (.lst xs)):iS (upd H lw (.lst ys)) lw r m j:=by
 obtain⟨B,zs,G,n,J,O,U⟩:=h;refine⟨B,zs,G,n,by rw[aG n];exact J,O,fun x h =>?_⟩;obtain⟨t,h1,h2⟩:=U x h;exact⟨t,h1.up (bQ.lst e),h2⟩
def yH (H:Hp)(l:Addr)(m j:Nat):Prop:=∃ rs,H l=some (.lst rs)∧rs.length=m∧∀ r∈rs,iS H l r m j
theorem H_ {xs:List V}{b:Nat}{v v':V}(h1:xs[b]? = some v)(h2:xs[b + 1]? = some v'):sD xs (some (b:Int)) (some ((b + 2:Nat):Int))=[v,v']:=by
 have U:=(IZ.mp h2).1;unfold sD;have B:HT.sIx xs.length 0 (some (b:Int))=b:=by
  unfold HT.sIx
  first | (simp;lia) | (dsimp only;split<;>lia)
 have G:HT.sIx xs.length xs.length (some ((b + 2:Nat):Int))=b + 2:=by
  unfold HT.sIx
  first | (simp;lia) | (dsimp only;split<;>lia)
 rw[B,G,show b + 2 - b=2 by simp];rw[J0 (by lia),J0 (by omega)];obtain⟨_,J⟩:=IZ.mp h1;obtain⟨_,O⟩:=IZ.mp h2;rw[J,O];rfl
theorem Ix:∀ k:Nat,k < 4→Builtin.Range.small 0 ((2 ^ (k + 1):Nat):Int) 2=true∧Builtin.Range.rangeSize 0 ((2 ^ (k + 1):Nat):Int) 2=((2 ^ k:Nat):Int):=by decide +kernel
theorem GH:∀ s:Nat,s < 5→∃ m:Nat,atI [V.int 2,V.int 2,V.int 3,V.int 4,V.int 4] (s:Int)=some (V.int (m:Int))∧0 < m∧m≤4:=by
 intro s B;rcases s with _ | _ | _ | _ | _ | s
 ·exact⟨2,rfl,by decide,by decide⟩
 ·exact⟨2,rfl,by decide,by decide⟩
 ·exact⟨3,rfl,by decide,by decide⟩
 ·exact⟨4,rfl,by decide,by decide⟩
 ·exact⟨4,rfl,by decide,by decide⟩
 ·lia
theorem vC:∀ (L:List (List Nat × Int)) (t:Tr),(∀ p∈L,POk n p)→cnt (bo t L)≤cnt t + (3 * n + 1) * L.length
 | [],t,_=>LL _ _
 | p::L,t,h=>by
  obtain⟨h1,h2,_⟩:=h p Jg;have G:=vC L (jC t p.1 (.col p.2)) (fun q B=>h q (Ja _ B));have c:=tP p.1 t (.col p.2) h1;have J:cnt (Tr.col p.2)=1:=rfl;show cnt (bo (jC t p.1 (.col p.2)) L)≤cnt t + (3 * n + 1) * (L.length + 1);rw[Nat.mul_succ]
  lia
section
variable {P:Pg9}{w:Wd9}{K:Frag}{mg:Mg9}{base:Heap}{CX:CXT}{f:Addr}{fd:Fd9}
abbrev lV:Stmt:=top 52
theorem bM:aE ["_law_script","_law_first","_law_level","_law_wide","_law_share","_law_few","_law_rows","_law_y","_law_cell","_law_row","_law_x","_law_k","_law_value"] ["_law_script","_law_first","_law_level"] (aq lV):={}
inductive nv  (K:Frag)(vs:List V)(H:Hp)(Q:VK):Prop
 | mk (a:Addr) (ns:List Int) (n:Nat) (h_0:vs=[.ref a,.int 1,.int n]) (h_1:SqL K H a (ns.map V.int)) (h_2:ns.length≤63) (h_3:n≤3) (h_4:∀ l H',ak H H'→yH H' l (2 ^ n) 0→Q (.ref l) H'):nv K vs H Q
def oC  (K:Frag):Sp:=fun vs H Q _=>nv K vs H Q
theorem wu (T:Tx K mg)(q:bW CX)(F:bE K "_law_grid" "_law_grid" lV f fd .none)(B:Fok P w K mg base CX 1 "_law_at" ["_law_script","_law_k"] [] (iJ K)):bF P w K mg base CX 2 f fd ["_law_script","_law_first","_law_level"] (oC K):=by
 refine F.ok bM (fun vs H Q E h =>?_) (fun c7 A outer s H vs Q E hr h =>?_)
 ·obtain⟨_,_,_,rfl,_⟩:=h;rfl
 obtain⟨a,ns,n,rfl,hS,a0,hn,q'⟩:=h;refine⟨_,(ac (ao (i:=3) bM (ai uL ae (pv 2))) (ac (ao (i:=4) bM (ai aN (aj B q hr (aa (pv 0) (aa (pv 1) af))) ae)) (ac (ao (i:=5) bM (aP (av ae (av ae (av (ai aN (ai aL (aj B q hr (aa (pv 0) (aa (pv 1) af))) ae) ae) (av (ai aN (ai aL (aj B q hr (aa (pv 0) (aa (pv 1) af))) ae) ae) au)))))) (ac (ao (i:=6) bM (aP au)) (ac (aR Jm rfl (bR rfl T.b_range (aa (pv 3) af)) (aY (i:=7) bM) (ac (ao (i:=8) bM (ai aI (aj B q hr (aa (pv 0) (aa (ai aI (ai aI (pv 1) ae) (ai aL (pv 7) ae)) af))) (ai bq ae (ai aN (pv 7) ae)))) (ac (ao (i:=9) bM (aP au)) (ac (aR Jm rfl (bR rfl T.b_range (aa (pv 3) af)) (aY (i:=10) bM) (ac (ao (i:=11) bM (ai aL (pv 10) (ai aI ae (ai aN (pv 4) ae)))) (ac (ao (i:=12) bM (ai bq (ai aI (ai aI (ai aI (ai aN (pv 8) ae) (ai bq ae (pv 11))) (ai bq (ai bq ae (pv 11)) (pv 11))) ae) ae)) (ac (ao (i:=12) bM (ai aL (ai aN (ai bq (ai aI (ai aL (ai aN (pv 12) ae) ae) (pv 11)) ae) ae) ae)) (ag (ba (bn (pv 9) (aa (ay bK (pv 5) (ai aN (pv 12) (ay bK (aP (av ae (av ae (av ae (av ae (av ae au)))))) (pv 4)))) af)))))))) (ag (ba (bn (pv 6) (aa (pv 9) af)))))))) (ag (aB (pv 6)))))))),?_⟩;have a4:BB 1 (n:Int):=⟨by simp,by lia,by decide⟩;have ew:(1:Int) * 2 ^ ((n:Int)).toNat=((2 ^ n:Nat):Int):=by rw[JU];simp
 have a9:2 ^ n≤8:=JA (Kr (by decide) hn) (by decide);refine⟨a4,?_⟩;generalize 2 ^ n=W at ew a9 q';rw[show V.int _=V.int ((W:Nat):Int) from Jz V.int ew];refine⟨a,ns,1,rfl,hS,a0,(by show (0:Int) < 5;decide),?_⟩;obtain⟨sh,b0,b1⟩:∃ sh:Nat,sh < 5∧cell ns 1 % 5=(sh:Int):=⟨(cell ns 1 % 5).toNat,by lia,by lia⟩;rw[show V.int _=V.int (sh:Int) from Jz V.int b1];refine⟨a,ns,1,rfl,hS,a0,cm (by decide) (by decide),(by show (0:Int) < 36;decide),?_⟩;refine⟨a,ns,1,rfl,hS,a0,cm (by decide) (by decide),(by show (0:Int) < 36;decide),(leZ rfl),fun lf b2 =>?_⟩;obtain⟨Y,b3,b4⟩:∃ Y:Int,cell ns 1 / 5 % 36=Y∧(0≤Y∧Y≤35):=⟨_,rfl,by lia⟩;obtain⟨c3,b5,b6⟩:∃ c3:Int,cell ns 1 / 180 % 36=c3∧(0≤c3∧c3≤35):=⟨_,rfl,by lia⟩;rw[show V.int _=V.int Y from Jz V.int b3,show V.int _=V.int c3 from Jz V.int b5];have s1:=ak.new b2 (.lst [.int 0,.int 1,.int Y,.int c3]);have u1:upd H lf (.lst [.int 0,.int 1,.int Y,.int c3]) lf=some (.lst [.int 0,.int 1,.int Y,.int c3]):=ah;generalize upd H lf (.lst [.int 0,.int 1,.int Y,.int c3])=H1 at *;refine⟨(leZ rfl),nw fun lw H2 b7 s2 w2 =>?_⟩;have u2:=s2 _ _ u1;have b8:=s1.seq hS;refine⟨_,rfl,by simp,by lia,bY (fun i σ H3=>ak H1 H3∧∃ (rs:List V) (o7 o8 o9 G J O:OW9),H3 lw=some (.lst rs)∧rs.length=i∧(∀ r∈rs,iS H3 lw r W 0)∧σ=[some (.ref a),some (.int 1),some (.int (n:Int)),some (.int ((W:Nat):Int)),some (.int (sh:Int)),some (.ref lf),some (.ref lw),o7,o8,o9,G,J,O]) ⟨s2,[],none,none,none,none,none,none,w2,rfl,fun r h=>(by cases h),rfl⟩ ?_ ?_⟩
 ·rintro i σ H3 hi ⟨s3,rs,o7,o8,o9,G,J,O,w3,a5,a2,rfl⟩;have hi':i < W:=by assumption
  rw[show (0:Int) + (i:Int)=(i:Int) from K9 _];have ed:(1:Int) + 1 + (i:Int) / 2=((1 + 1 + i / 2:Nat):Int):=by rfl
  refine⟨cm (by decide) (by decide),a,ns,1 + 1 + i / 2,(by show [V.ref a,V.int ((1:Int) + 1 + (i:Int) / 2)]=_;rw[ed]),s3.seq b8,a0,?_⟩;refine⟨(by show (0:Int) < 2;decide),.inl ⟨by decide,by decide⟩,cP ?_⟩;obtain⟨cl,b9⟩:∃ cl:Int,cell ns (1 + 1 + i / 2) + 7 * ((i:Int) % 2)=cl:=⟨_,rfl⟩;rw[show V.int _=V.int cl from Jz V.int b9];refine⟨(leZ rfl),nw fun U H4 a1 s4 w4 =>?_⟩;have c0:lw≠U:=bJ w3 a1;refine⟨_,rfl,by simp,by lia,bY (fun x σ H5=>ak H3 H5∧∃ (xs:List V) (G J O:OW9),H5 U=some (.lst xs)∧xs.length=x∧(∀ x∈xs,∃ t,bS H5 x t∧aQ 0 t∧cnt t≤4 ^ 0)∧σ=[some (.ref a),some (.int 1),some (.int (n:Int)),some (.int ((W:Nat):Int)),some (.int (sh:Int)),some (.ref lf),some (.ref lw),some (.int (i:Int)),some (.int cl),some (.ref U),G,J,O]) ⟨s4,[],G,J,O,w4,rfl,fun r h=>(by cases h),rfl⟩ ?_ ?_⟩
  ·rintro x σ H5 hx ⟨s5,xs,G,J,O,w5,a6,a3,rfl⟩;rw[show (0:Int) + (x:Int)=(x:Int) from K9 _];have pd:(0:Int) < 1 + (sh:Int) % 3:=by lia
   refine⟨(by show (0:Int) < 3;decide),cm pd (by show 1 + (sh:Int) % 3 < _;lia),?_⟩;obtain⟨kk,c8,c1⟩:∃ kk:Int,(0≤kk∧kk≤8)∧(x:Int) / (1 + (sh:Int) % 3)=kk:=by
    refine⟨_,⟨Int.ediv_nonneg (by simp) (by lia),?_⟩,rfl⟩;exact L3 (Int.ediv_le_self _ (by simp)) (by lia)
   rw[show V.int _=V.int kk from Jz V.int c1];refine⟨(by show (0:Int) < 999983;decide),.inl ⟨by decide,by decide⟩,.inl ⟨by decide,by decide⟩,.inr ⟨by lia,by lia⟩,.inr ⟨by decide,by decide⟩,?_⟩;dsimp only;generalize (cl % 999983 + 31 * kk + 7 * kk * kk + 3) * 48271=a7;refine⟨(by show (0:Int) < 2147483647;decide),cm (by decide) (by decide),.inr ⟨by decide,by decide⟩,(by show (0:Int) < 2147483629;decide),cm (by decide) (by decide),?_⟩;dsimp only;generalize ((a7 % 2147483647 / 7 + kk) * 69621 % 2147483629) / 11=val;obtain⟨m,em,c9,d0⟩:=GH sh b0;refine⟨.inl ⟨rfl,_,SqL.of w5⟩,(leZ rfl),nw fun l5 H6 d1 s6 u6 =>?_⟩;have w6:=s6 _ _ w5;have a8:=s5.trans s6;have pm:(0:Int) < (m:Int):=by lia
   refine⟨l5,_,_,_,rfl,rfl,SqL.of u6,em,pm,?_⟩;obtain⟨d,hd,ed⟩:∃ d:Nat,d < 4∧val % (m:Int)=(d:Int):=by
    have h1:=K7 val (show (m:Int)≠0 by lia);have h2:=KL val pm;exact⟨(val % (m:Int)).toNat,by lia,by lia⟩
   have key:∃ c:Int,atI [V.int 0,V.int 1,V.int Y,V.int c3] (d:Int)=some (.int c)∧(0≤c∧c≤35):=by
    rcases d with _|_|_|_|d
    ·exact⟨0,rfl,by decide,by decide⟩
    ·exact⟨1,rfl,by decide,by decide⟩
    ·exact⟨Y,rfl,b4⟩
    ·exact⟨c3,rfl,b6⟩
    ·lia
   obtain⟨c,ec,hc⟩:=key;have tl:=bQ.lst (ys:=xs++[V.int c]) w6;refine⟨lf,_,_,.int c,rfl,rfl,SqL.of ((s3.trans a8) _ _ u1),by rw[ed];exact ec,U,xs,_,rfl,rfl,w6,cH (by lia),ak.set a8 a1 _,xs++[V.int c],_,_,_,ah,by rw[I8,a6];rfl,fun y hy =>?_,rfl⟩;rcases Jj.mp hy with hy|hy
   ·obtain⟨t,h1,h2⟩:=a3 y hy;exact⟨t,h1.up (s6.tups.trans tl),h2⟩
   ·rw[Jc.mp hy];exact⟨.col c,.col c,aQ.col hc,I_ _⟩
  ·rintro σ H5 ⟨s5,xs,c4,c5,c6,w5,a6,a3,rfl⟩;have w5':=s5 _ _ w3;refine⟨.inl ⟨rfl,_,SqL.of w5'⟩,lw,rs,_,rfl,rfl,w5',cH (by lia),ak.set (s3.trans s5) b7 _,rs++[V.ref U],_,_,_,_,_,_,ah,by rw[I8,a5];rfl,fun r hr =>?_,rfl⟩;rcases Jj.mp hr with hr | hr
   ·exact ((a2 r hr).up s5).set w5'
   ·rw[Jc.mp hr];exact iS.set ⟨U,xs,rfl,c0.symm,w5,by assumption,a3⟩ w5'
 ·rintro σ H3 ⟨s3,rs,o7,o8,o9,G,J,O,w3,a5,a2,rfl⟩;exact (q' lw H3 (s1.trans s3) ⟨rs,w3,by assumption,a2⟩)
abbrev dY:Stmt:=top 53
theorem bp:aE ["_law_rows","_law_above","_law_y","_law_row","_law_x","_law_some"] ["_law_rows"] (aq dY):={}
inductive fK  (vs:List V)(H:Hp)(Q:VK):Prop
 | mk (l:Addr) (n:Nat) (h_0:vs=[.ref l]) (h_1:yH H l (2 ^ n) 0) (h_2:n≤3) (h_3:∀ v t H',ak H H'→bS H' v t→aQ n t→cnt t≤4 ^ n→Q v H'):fK  vs H Q
def dD:Sp:=fun vs H Q _=>fK  vs H Q
theorem kU (T:Tx K mg)(q:bW CX)(F:bE K "_law_tree_of_rows" "_law_tree_of_rows" dY f fd .none)(B:Fok P w K mg base CX 1 "_law_tree_of" ["_law_a","_law_b","_law_c","_law_d"] [] gE):bF P w K mg base CX 2 f fd ["_law_rows"] dD:=by
 refine F.ok bp (fun vs H Q E h =>?_) (fun c4 A outer s H vs Q E hr h =>?_)
 ·obtain⟨_,_,rfl,_⟩:=h;rfl
 obtain⟨l0,n,rfl,b3,hn,q'⟩:=h;refine⟨_,(ac (jX Jm (aH qQ (az bC rfl T.b_len cW (aa (pv 0) af)) ae) (ac (ao (i:=1) bp (aP au)) (ac (aR Jm rfl (kI rfl T.b_range (aa ae (aa (az bC rfl T.b_len cW (aa (pv 0) af)) (aa ae af)))) (aY (i:=2) bp) (ac (ao (i:=3) bp (aP au)) (ac (aR Jm rfl (kI rfl T.b_range (aa ae (aa (az bC rfl T.b_len cW (aa (pv 0) af)) (aa ae af)))) (aY (i:=4) bp) (ac (ao (i:=5) bp (ai uO (c9 uz (ay bK (pv 0) (pv 2)) (di (pv 4)) (di (ai aI (pv 4) ae))) (c9 uz (ay bK (pv 0) (ai aI (pv 2) ae)) (di (pv 4)) (di (ai aI (pv 4) ae))))) (ag (ba (bn (pv 3) (aa (aj B q hr (aa (ay bK (pv 5) ae) (aa (ay bK (pv 5) ae) (aa (ay bK (pv 5) ae) (aa (ay bK (pv 5) ae) af))))) af)))))) (ag (ba (bn (pv 1) (aa (pv 3) af))))))) (ag (ao (i:=0) bp (pv 1)))))) (ag (aB (ay bK (ay bK (pv 0) ae) ae)))),?_⟩;refine qf (fun σ H2=>ak H H2∧∃ (l:Addr) (k j:Nat) (o1 o2 o3 U Y:OW9),yH H2 l (2 ^ k) j∧j + k=n∧σ=[some (.ref l),o1,o2,o3,U,Y]) (fun σ H2=>match σ with|some (.ref l)::_=>(match H2 l with|some (.lst J)=>J.length|_=>0)|_=>0) ⟨ak.refl H,l0,n,0,none,none,none,none,none,b3,by simp,rfl⟩ ?_ ?_
 ·rintro σ H2 ⟨s2,l,k,j,o1,o2,o3,U,Y,hR,c5,rfl⟩;obtain⟨J,hl,a6,a8⟩:=id hR;have p8:2 ^ k≤8:=JA (Kr (by decide) (show k≤3 by lia)) (by decide);refine⟨_,_,rfl,.inl ⟨_,SqL.of hl,rfl⟩,cP (aA (cz (fun hc =>?_) (fun hc =>?_)))⟩
  ·have hc':(1:Int) < ((J.length:Nat):Int):=JB hc;obtain⟨k,rfl⟩:∃ k',k=k' + 1:=by
    rcases k with _|k
    ·have e1:J.length=1:=a6
     lia
    ·exact⟨k,rfl⟩
   have e2:2 ^ (k + 1)=2 * 2 ^ k:=by rw[Kg];lia
   obtain⟨sm,sz⟩:=Ix k (by lia);have get:∀ a b,a < 2 ^ (k + 1)→b + 1 < 2 ^ (k + 1)→∃ lr xs v t v' t',J[a]? = some (V.ref lr)∧H2 lr=some (.lst xs)∧xs[b]? = some v∧xs[b + 1]? = some v'∧(bS H2 v t∧aQ j t∧cnt t≤4 ^ j)∧(bS H2 v' t'∧aQ j t'∧cnt t'≤4 ^ j):=fun a b ha hb=>by
    obtain⟨r,er⟩:∃ r,J[a]? = some r:=⟨_,Jy (by lia)⟩;obtain⟨lr,xs,rfl,_,h1,h2,h3⟩:=a8 r (Jh er);obtain⟨v,ev⟩:∃ v,xs[b]? = some v:=⟨_,Jy (by lia)⟩;obtain⟨v',a9⟩:∃ v',xs[b + 1]? = some v':=⟨_,Jy (by lia)⟩;obtain⟨t,h4⟩:=h3 v (Jh ev);obtain⟨t',h5⟩:=h3 v' (Jh a9);exact⟨lr,xs,v,t,v',t',er,h1,ev,a9,h4,h5⟩
   refine⟨(leZ rfl),nw fun la H3 b4 s3 w3 =>?_⟩;have el:((J.length:Nat):Int)=((2 ^ (k + 1):Nat):Int):=by rw[a6]
   refine⟨_,_,rfl,.inl ⟨_,SqL.of (s3 _ _ hl),rfl⟩,0,((2 ^ (k + 1):Nat):Int),2,2 ^ k,(by show [V.int 0,V.int ((J.length:Nat):Int),V.int 2]=_;rw[el]),by decide,by decide,sm,sz,gn (fun i σ H4=>ak H2 H4∧∃ (as:List V) (o2 o3 U Y:OW9),H4 la=some (.lst as)∧as.length=i∧(∀ r∈as,iS H4 la r (2 ^ k) (j + 1))∧σ=[some (.ref l),some (.ref la),o2,o3,U,Y]) ⟨s3,[],o2,o3,U,Y,w3,rfl,fun r h=>(by cases h),rfl⟩ ?_ ?_⟩
   ·rintro i σ H4 hi ⟨s4,as,o2,o3,U,Y,w4,a7,has,rfl⟩;refine⟨(leZ rfl),nw fun O H5 a5 s5 w5 =>?_⟩;have b5:la≠O:=bJ w4 a5;refine⟨_,_,rfl,.inl ⟨_,SqL.of ((s4.trans s5) _ _ hl),rfl⟩,0,((2 ^ (k + 1):Nat):Int),2,2 ^ k,(by show [V.int 0,V.int ((J.length:Nat):Int),V.int 2]=_;rw[el]),by decide,by decide,sm,sz,gn (fun x σ H6=>ak H4 H6∧∃ (xs:List V) (U Y:OW9),H6 O=some (.lst xs)∧xs.length=x∧(∀ v∈xs,∃ t,bS H6 v t∧aQ (j + 1) t∧cnt t≤4 ^ (j + 1))∧σ=[some (.ref l),some (.ref la),some (.int (0 + (i:Int) * 2)),some (.ref O),U,Y]) ⟨s5,[],U,Y,w5,rfl,fun r h=>(by cases h),rfl⟩ ?_ ?_⟩
    ·rintro x σ H6 hx ⟨s6,xs,U,Y,w6,b0,a0,rfl⟩;have G:=s4.trans s6;obtain⟨l0,x0,va,ta,vb,tb,ea,ua,fa,fb,⟨ka,ga,ca⟩,⟨kb,gb,cb⟩⟩:=get (2 * i) (2 * x) (by lia) (by lia);obtain⟨l2,x2,vc,tc,vd,td,ec,uc,fc,b6,⟨kc,gc,cc⟩,⟨kd,gd,cd⟩⟩:=get (2 * i + 1) (2 * x) (by lia) (by lia);have iy:(0:Int) + (i:Int) * 2=((2 * i:Nat):Int):=by lia
     have b7:(0:Int) + (i:Int) * 2 + 1=((2 * i + 1:Nat):Int):=by lia
     have ix:(0:Int) + (x:Int) * 2=((2 * x:Nat):Int):=by lia
     have b1:(0:Int) + (x:Int) * 2 + 2=((2 * x + 2:Nat):Int):=by lia
     have da:=ga.deep;have db:=gb.deep;have dc:=gc.deep;have dd:=gd.deep;have sl:=SqL.of (K:=K) (G _ _ hl);have cu:sD x0 (some ((0:Int) + (x:Int) * 2)) (some ((0:Int) + (x:Int) * 2 + 2))=[va,vb]:=by rw[b1,ix];exact H_ fa fb
     have cv:sD x2 (some ((0:Int) + (x:Int) * 2)) (some ((0:Int) + (x:Int) * 2 + 2))=[vc,vd]:=by rw[b1,ix];exact H_ fc b6
     refine⟨l,_,_,.ref l0,rfl,rfl,sl,(by rw[iy];exact bV ea),_,rfl,_,rfl,l0,x0,rfl,SqL.of (G _ _ ua),fun p1 b8 =>?_⟩;rw[cu];have sa:=ak.new b8 (.lst [va,vb]);have ub:upd H6 p1 (.lst [va,vb]) p1=some (.lst [va,vb]):=ah;generalize upd H6 p1 (.lst [va,vb])=HA at *;have b2:=G.trans sa;refine⟨l,_,_,.ref l2,rfl,rfl,SqL.of (b2 _ _ hl),(by rw[b7];exact bV ec),_,rfl,_,rfl,l2,x2,rfl,SqL.of (b2 _ _ uc),fun p2 b9 =>?_⟩;rw[cv];have sb:=ak.new b9 (.lst [vc,vd]);have ud:upd HA p2 (.lst [vc,vd]) p2=some (.lst [vc,vd]):=ah;have c0:=sb _ _ ub;generalize upd HA p2 (.lst [vc,vd])=HB at *;refine⟨p1,p2,_,_,rfl,rfl,c0,ud,(leZ rfl),fun p3 c1 =>?_⟩;have sc:=ak.new c1 (.lst ([va,vb]++[vc,vd]));have ue:upd HB p3 (.lst ([va,vb]++[vc,vd])) p3=some (.lst [va,vb,vc,vd]):=ah;generalize upd HB p3 (.lst ([va,vb]++[vc,vd]))=HC at *;have a1:=sa.trans (sb.trans sc);have c2:=G.trans a1;have w6:=a1 _ _ w6;have a4:=SqL.of (K:=K) ue;refine⟨.inl ⟨rfl,_,SqL.of w6⟩,p3,_,_,va,rfl,rfl,a4,bV (j:=0) rfl,p3,_,_,vb,rfl,rfl,a4,bV (j:=1) rfl,p3,_,_,vc,rfl,rfl,a4,bV (j:=2) rfl,p3,_,_,vd,rfl,rfl,a4,bV (j:=3) rfl,?_⟩
     replace s6:=s6.trans a1
     replace G:=c2
     replace a0:∀ v∈xs,∃ t,bS HC v t∧aQ (j + 1) t∧cnt t≤4 ^ (j + 1):=fun v hv=>by
      obtain⟨t,h1,h2⟩:=a0 v hv;exact⟨t,h1.up a1.tups,h2⟩
     refine⟨va,vb,vc,vd,ta,tb,tc,td,rfl,ka.up G.tups,kb.up G.tups,kc.up G.tups,kd.up G.tups,⟨by lia,by lia,by lia,by lia⟩,fun v' H7 s7 c3 =>?_⟩;have w7:=s7 _ _ w6;have tl:=bQ.lst (ys:=xs++[v']) w7;refine⟨O,xs,_,rfl,rfl,w7,cH (by lia),ak.set (s6.trans s7) a5 _,xs++[v'],_,_,ah,by rw[I8,b0];rfl,fun y hy =>?_,rfl⟩;rcases Jj.mp hy with hy | hy
     ·obtain⟨t,h1,h2⟩:=a0 y hy;exact⟨t,h1.up (s7.tups.trans tl),h2⟩
     ·rw[Jc.mp hy];have cg:=xh ta tb tc td;exact⟨_,c3.up tl,tF ga gb gc gd,by rw[Kg];lia⟩
    ·rintro σ H6 ⟨s6,xs,c6,c7,w6,b0,a0,rfl⟩;have w6':=s6 _ _ w4;refine⟨.inl ⟨rfl,_,SqL.of w6'⟩,la,as,_,rfl,rfl,w6',cH (by lia),ak.set (s4.trans s6) b4 _,as++[V.ref O],_,_,_,_,ah,by rw[I8,a7];rfl,fun r hr =>?_,rfl⟩;rcases Jj.mp hr with hr | hr
     ·exact ((has r hr).up s6).set w6'
     ·rw[Jc.mp hr];exact iS.set ⟨O,xs,rfl,b5.symm,w6,by omega,a0⟩ w6'
   ·rintro σ H4 ⟨s4,as,o2,o3,U,Y,w4,a7,has,rfl⟩;refine⟨⟨s2.trans s4,la,k,j + 1,_,_,_,_,_,⟨as,w4,a7,has⟩,by lia,rfl⟩,?_⟩;show (match H4 la with | some (.lst J)=>J.length | _=>0) < (match H2 l with | some (.lst J)=>J.length | _=>0);rw[w4,hl];show as.length < J.length
    lia
  ·have hc':¬ (1:Int) < ((J.length:Nat):Int):=fun z=>hc (Jd z);have k0:k=0:=by
    rcases k with _|k
    ·rfl
    ·have:2≤2 ^ (k + 1):=by rw[Kg];have:=Kw k;lia
     lia
   subst k0;obtain⟨r,er⟩:∃ r,J[0]? = some r:=⟨_,Jy (by rw[a6];decide)⟩;obtain⟨lr,xs,rfl,_,h1,h2,h3⟩:=a8 r (Jh er);obtain⟨v,ev⟩:∃ v,xs[0]? = some v:=⟨_,Jy (by rw[h2];decide)⟩;obtain⟨t,h4,h5,h6⟩:=h3 v (Jh ev);have ej:j=n:=by omega
   subst ej;exact⟨l,_,_,.ref lr,rfl,rfl,SqL.of hl,bV er,lr,_,_,v,rfl,rfl,SqL.of h1,bV ev,q' v t H2 s2 h4 h5 h6⟩
 ·intro σ H' Q1 Q2 hq h_;obtain⟨_,e1,h_⟩:=aM h_;obtain⟨a2,a3,e2,e3,h_⟩:=h_;obtain⟨_,_,e4,e5,h_⟩:=gh h_;obtain⟨_,e6,h⟩:=fC h_;exact (aZ e1 ⟨a2,a3,e2,e3,nW e4 e5 (lZ e6 (hq _ _ h))⟩)
end
theorem EV:∀ k:Nat,k < 4→∃ m:Nat,atI [V.int 2,V.int 3,V.int 4,V.int 36] (k:Int)=some (V.int (m:Int))∧0 < m∧m≤36:=by
 intro k B;rcases k with _ | _ | _ | _ | k
 ·exact⟨2,rfl,by decide,by decide⟩
 ·exact⟨3,rfl,by decide,by decide⟩
 ·exact⟨4,rfl,by decide,by decide⟩
 ·exact⟨36,rfl,by decide,by decide⟩
 ·lia
theorem vQ (a b:Bool):∃ m:Nat,atI [V.int 5,V.int 2,V.int 1] ((if a=true then (1:Int) else 0) + (if b=true then (1:Int) else 0))=some (V.int (m:Int))∧m≤5:=by
 cases a<;>cases b
 ·exact⟨5,rfl,by decide⟩
 ·exact⟨2,rfl,by decide⟩
 ·exact⟨2,rfl,by decide⟩
 ·exact⟨1,rfl,by decide⟩
section
variable {P:Pg9}{w:Wd9}{K:Frag}{mg:Mg9}{base:Heap}{CX:CXT}{f:Addr}{fd:Fd9}
abbrev dh:Stmt:=top 54
theorem am:aE ["_law_cell","_law_rest","_law_level","_law_many","_law_base","_law_rows","_law_y","_law_row","_law_x","_law_paints_here","_law_k","_law_code_here","_law_size","_law_colour_here","_law_j"] ["_law_cell"] (aq dh):={}
inductive iT  (vs:List V)(H:Hp)(Q:VK):Prop
 | mk (c:Int) (h_0:vs=[.int c]) (h_1:∀ v n t H',ak H H'→DT H' v ((n:Nat):Int) t→n≤40→aQ n t→cnt t≤1500→Q v H'):iT  vs H Q
def jy:Sp:=fun vs H Q _=>iT  vs H Q
theorem jm (T:Tx K mg)(q:bW CX)(F:bE K "_law_sheet_by_digits" "_law_sheet_by_digits" dh f fd .none)(B:Fok P w K mg base CX 2 "_law_tree_of_rows" ["_law_rows"] [] dD)(G:Fok P w K mg base CX 43 "_law_tree_by" ["_law_paints_here"] [] (eE 41)):bF P w K mg base CX 44 f fd ["_law_cell"] jy:=by
 refine F.ok am (fun vs H Q E h =>?_) (fun d0 A outer s H vs Q E hr h =>?_)
 ·obtain⟨_,rfl,_⟩:=h;rfl
 obtain⟨c,rfl,q'⟩:=h;refine⟨_,(ac (ao (i:=1) am (ai aL (pv 0) ae)) (ac (bG (aH fF (ai aN (pv 0) ae) ae) (ac (ao (i:=2) am (ai aN (pv 1) ae)) (ac (ao (i:=3) am (ay aD (aF (av ae (av ae (av ae (av ae au))))) (ai aN (ai aL (pv 1) ae) ae))) (ac (ao (i:=4) am (ai aN (ai aL (pv 1) ae) ae)) (ac (ao (i:=1) am (ai aL (pv 1) ae)) (ac (ao (i:=5) am (aP au)) (ac (aR Jm rfl (bR rfl T.b_range (aa (ai uL ae (pv 2)) af)) (aY (i:=6) am) (ac (ao (i:=7) am (aP au)) (ac (aR Jm rfl (bR rfl T.b_range (aa (ai uL ae (pv 2)) af)) (aY (i:=8) am) (ac (ba (bn (pv 7) (aa (ai aN (ai aI (pv 4) (ai aN (pv 1) (pv 3))) ae) af))) (ag (ao (i:=1) am (ai aL (pv 1) (pv 3)))))) (ag (ba (bn (pv 5) (aa (pv 7) af))))))) (ag (aB (aF (av (pv 2) (av (aj B q hr (aa (pv 5) af)) au))))))))))) aO) (ac (ao (i:=2) am (ai aN (pv 1) ae)) (ac (ao (i:=4) am (ai aN (ai aL (pv 1) ae) ae)) (ac (ao (i:=1) am (ai aL (pv 1) ae)) (ac (ao (i:=9) am (aP (av (aF (av cG (av (pv 4) au))) au))) (ac (aR Jm rfl (bR rfl T.b_range (aa (ay bK (aP (av ae (av ae (av ae au)))) (ai aI (bL fv rfl T.b_int eU (aa (eJ qQ (pv 2) ae) af)) (bL fv rfl T.b_int eU (aa (eJ qQ (pv 2) ae) af)))) af)) (aY (i:=10) am) (ac (ao (i:=11) am cG) (ac (ao (i:=12) am (ai aN (pv 1) (ai aI (pv 2) ae))) (ac (ao (i:=13) am (ai aN (ai aL (pv 1) (ai aI (pv 2) ae)) ae)) (ac (ao (i:=1) am (ai aL (pv 1) (ai aI (ai bq ae (pv 2)) ae))) (ac (aR Jm rfl (bR rfl T.b_range (aa (pv 12) af)) (aY (i:=14) am) (ac (ao (i:=11) am (ai cO (pv 11) (ay j7 cG (ai aN (pv 1) ae)))) (ag (ao (i:=1) am (ai aL (pv 1) ae))))) (ag (ba (bn (pv 9) (aa (aF (av (pv 11) (av (pv 13) au))) af)))))))))) (ag (aB (aF (av (pv 2) (av (aj G q hr (aa (pv 9) af)) au)))))))))))),?_⟩;have a0:2≤sizeLine:=by decide
 refine⟨cm (by decide) (by decide),?_⟩;dsimp only;generalize c / 2=r;refine⟨(by show (0:Int) < 2;decide),rfl,aA (cz (fun _ =>?_) (fun _ =>?_))⟩
 ·obtain⟨n,hn,en⟩:∃ n:Nat,n≤3∧r % 4=(n:Int):=⟨(r % 4).toNat,by lia,by lia⟩;refine⟨(by show (0:Int) < 4;decide),?_⟩;rw[show V.int _=V.int (n:Int) from Jz V.int en];refine⟨(leZ rfl),nw fun p0 H1 b5 s1 u1 =>?_⟩;obtain⟨k,hk,ek⟩:∃ k:Nat,k < 4∧r / 4 % 4=(k:Int):=⟨(r / 4 % 4).toNat,by lia,by lia⟩;obtain⟨m,em,d1,hm⟩:=EV k hk;refine⟨cm (by decide) (by decide),(by show (0:Int) < 4;decide),p0,_,_,.int (m:Int),rfl,rfl,SqT.of u1,(by rw[ek];exact em),?_⟩;obtain⟨J,a3,a4⟩:∃ J:Int,r / 16 % 36=J∧(0≤J∧J≤35):=⟨_,rfl,by lia⟩;refine⟨cm (by decide) (by decide),(by show (0:Int) < 36;decide),?_⟩;rw[show V.int _=V.int J from Jz V.int a3];refine⟨cm (by decide) (by decide),?_⟩;dsimp only;generalize r / 576=r2;refine⟨(leZ rfl),nw fun lw H2 c0 s2 w2 =>?_⟩;have a1:BB 1 (n:Int):=⟨by simp,by lia,by decide⟩;have ew:(1:Int) * 2 ^ ((n:Int)).toNat=((2 ^ n:Nat):Int):=by rw[JU];simp
  have c2:2 ^ n≤8:=JA (Kr (by decide) hn) (by decide);have d2:4 ^ n≤64:=JA (Kr (by decide) hn) (by decide);obtain⟨W,eW⟩:∃ W,W=2 ^ n:=⟨_,rfl⟩;rw[← eW]at ew c2;refine⟨a1,(W:Int),(by show [V.int (1 * 2 ^ ((n:Int)).toNat)]=_;rw[ew]),by simp,by lia,bY (fun i σ H3=>ak H1 H3∧∃ (rs:List V) (rest:Int) (o6 o7 o8:OW9),H3 lw=some (.lst rs)∧rs.length=i∧(∀ r∈rs,iS H3 lw r W 0)∧σ=[some (.int c),some (.int rest),some (.int (n:Int)),some (.int (m:Int)),some (.int J),some (.ref lw),o6,o7,o8,none,none,none,none,none,none]) ⟨s2,[],r2,none,none,none,w2,rfl,fun r h=>(by cases h),rfl⟩ ?_ ?_⟩
  ·rintro i σ H3 hi ⟨s3,rs,rest,o6,o7,o8,w3,b6,a5,rfl⟩;refine⟨(leZ rfl),nw fun Y H4 a2 s4 w4 =>?_⟩;have c3:lw≠Y:=bJ w3 a2;refine⟨a1,(W:Int),(by show [V.int (1 * 2 ^ ((n:Int)).toNat)]=_;rw[ew]),by simp,by lia,bY (fun x σ H5=>ak H3 H5∧∃ (xs:List V) (rest:Int) (o8:OW9),H5 Y=some (.lst xs)∧xs.length=x∧(∀ x∈xs,∃ t,bS H5 x t∧aQ 0 t∧cnt t≤4 ^ 0)∧σ=[some (.int c),some (.int rest),some (.int (n:Int)),some (.int (m:Int)),some (.int J),some (.ref lw),some (.int (0 + (i:Int))),some (.ref Y),o8,none,none,none,none,none,none]) ⟨s4,[],rest,o8,w4,rfl,fun r h=>(by cases h),rfl⟩ ?_ ?_⟩
   ·rintro x σ H5 hx ⟨s5,xs,rest,o8,w5,b7,a6,rfl⟩;have pm:(0:Int) < (m:Int):=by lia
    refine⟨.inl ⟨rfl,_,SqL.of w5⟩,pm,(by show (0:Int) < 36;decide),?_⟩;obtain⟨O,a7,a8⟩:∃ O:Int,(J + rest % (m:Int)) % 36=O∧(0≤O∧O≤35):=⟨_,rfl,by lia⟩;rw[show V.int _=V.int O from Jz V.int a7];have tl:=bQ.lst (ys:=xs++[V.int O]) w5;refine⟨Y,xs,_,rfl,rfl,w5,cH (by lia),?_⟩;refine⟨cm pm (by lia),ak.set s5 a2 _,xs++[V.int O],_,_,ah,by rw[I8,b7];rfl,fun y hy =>?_,rfl⟩;rcases Jj.mp hy with hy | hy
    ·obtain⟨t,h1,h2⟩:=a6 y hy;exact⟨t,h1.up tl,h2⟩
    ·rw[Jc.mp hy];exact⟨.col O,.col O,aQ.col a8,I_ _⟩
   ·rintro σ H5 ⟨s5,xs,rest,o8,w5,b7,a6,rfl⟩;have w5':=s5 _ _ w3;refine⟨.inl ⟨rfl,_,SqL.of w5'⟩,lw,rs,_,rfl,rfl,w5',cH (by lia),ak.set (s3.trans s5) c0 _,rs++[V.ref Y],_,_,_,_,ah,by rw[I8,b6];rfl,fun r hr =>?_,rfl⟩;rcases Jj.mp hr with hr | hr
    ·exact ((a5 r hr).up s5).set w5'
    ·rw[Jc.mp hr];exact iS.set ⟨Y,xs,rfl,c3.symm,w5,by assumption,a6⟩ w5'
  ·rintro σ H3 ⟨s3,rs,rest,o6,o7,o8,w3,b6,a5,rfl⟩;refine⟨lw,n,rfl,⟨rs,w3,?_,fun r hr =>?_⟩,hn,fun v t H4 s4 hv gt ct=>⟨a0,fun p hp =>?_⟩⟩
   ·rw[← eW];assumption
   ·rw[← eW];exact a5 r hr
   have s5:=ak.new hp (.tup [.int (n:Int),v]);exact q' _ n t _ (s1.trans (s3.trans (s4.trans s5))) ⟨p,v,rfl,ah,hv.up s5.tups⟩ (by lia) gt (by lia)
 ·obtain⟨n,hn,en⟩:∃ n:Nat,n≤40∧r % 41=(n:Int):=⟨(r % 41).toNat,by lia,by lia⟩;refine⟨(by show (0:Int) < 41;decide),?_⟩;rw[show V.int _=V.int (n:Int) from Jz V.int en];obtain⟨J,a3,a4⟩:∃ J:Int,r / 41 % 36=J∧(0≤J∧J≤35):=⟨_,rfl,by lia⟩;refine⟨cm (by decide) (by decide),(by show (0:Int) < 36;decide),?_⟩;rw[show V.int _=V.int J from Jz V.int a3];refine⟨cm (by decide) (by decide),?_⟩;dsimp only;generalize r / 1476=r2;refine⟨a0,fun p0 b5 =>?_⟩;generalize e1:upd H p0 _=H1;have s1:ak H H1:=e1▸ak.new b5 _;have v1:H1 p0=some (.tup [.str ("" : Str),.int J]):=by rw[← e1];exact ah
  refine⟨(leZ rfl),nw fun la H2 c4 s2 w2 =>?_⟩;have v2:=s2 _ _ v1;refine⟨(leZ rfl),nw fun l3 H3 d3 s3 u3 =>?_⟩;have w3:=s3 _ _ w2;have v3:=s3 _ _ v2;obtain⟨m,em,hm⟩:=vQ (decide ((n:Int) > 8)) (decide ((n:Int) > 20));have c5:=s2.trans s3;refine (.inr ⟨_,rfl,.inr ⟨_,rfl,l3,_,_,.int (m:Int),rfl,rfl,SqL.of u3,em,(m:Int),rfl,by simp,by lia,bY (fun (i:Nat) σ H4=>ak H1 H4∧∃ (us:List V) (M:List (List Nat × Int)) (rest:Int) (a9 b1 b2 b3 U:OW9),H4 la=some (.lst us)∧bA H4 n us (([],J)::M)∧M.length=i∧i≤m∧σ=[some (.int c),some (.int rest),some (.int (n:Int)),none,some (.int J),none,none,none,none,some (.ref la),a9,b1,b2,b3,U])
   ⟨c5,[.ref p0],[],r2,none,none,none,none,none,w3,.cons ⟨p0,("" : Str),rfl,v3,dO▸IsC.nil,iP,by rw[show ("" : Str).length=0 by decide +kernel];simp,a4⟩ .nil,rfl,Je _,rfl⟩ ?_ ?_⟩⟩)
  ·rintro i σ H4 hi ⟨s4,us,M,rest,a9,b1,b2,b3,U,w4,hM,lM,c6,rfl⟩;have him':i < m:=by rw[JU]at hi;exact hi
   have pn:(0:Int) < (n:Int) + 1:=by simp
   obtain⟨sz,hsz,c7⟩:∃ sz:Nat,sz≤n∧rest % ((n:Int) + 1)=(sz:Int):=by
    have h1:=K7 rest (show (n:Int) + 1≠0 by lia);have h2:=KL rest pn;exact⟨(rest % ((n:Int) + 1)).toNat,by lia,by lia⟩
   refine⟨pn,?_⟩;rw[show V.int _=V.int (sz:Int) from Jz V.int c7];obtain⟨O,a7,a8⟩:∃ O:Int,rest / ((n:Int) + 1) % 36=O∧(0≤O∧O≤35):=⟨_,rfl,by lia⟩;refine⟨cm pn (by lia),(by show (0:Int) < 36;decide),?_⟩;rw[show V.int _=V.int O from Jz V.int a7];refine⟨.inl ⟨by decide,by decide⟩,cm (by show (0:Int) < 36 * (n:Int) + 36;lia) (by show 36 * (n:Int) + 36 < _;lia),?_⟩;dsimp only;generalize rest / (36 * (n:Int) + 36)=r3;refine⟨(sz:Int),rfl,by simp,by lia,bY (fun (j:Nat) σ H5=>H5=H4∧∃ (z:Str) (rest:Int) (U:OW9),IsC z∧z.length=j∧σ=[some (.int c),some (.int rest),some (.int (n:Int)),none,some (.int J),none,none,none,none,some (.ref la),some (.int (0 + (i:Int))),some (.str z),some (.int (sz:Int)),some (.int O),U]) ⟨rfl,"",r3,U,dO▸IsC.nil,by decide +kernel,rfl⟩ ?_ ?_⟩
   ·rintro j σ H5 hj ⟨rfl,z,rest,U,hz,lz,rfl⟩;have hj':j < sz:=by rw[JU]at hj;exact hj
    obtain⟨d,b8,ed⟩:∃ d:Nat,d < 4∧rest % 4=(d:Int):=⟨(rest % 4).toNat,by lia,by lia⟩;refine⟨(by show (0:Int) < 4;decide),_,_,48 + d,rfl,rfl,Cc,(by rw[ed];exact GX b8),_,_,rfl,rfl,?_,?_⟩
    ·show z.length + 1≤sizeLine;exact small (by lia)
    ·exact⟨cm (by decide) (by decide),rfl,z++one d,_,_,IsC.app hz (IsC.one b8),by rw[ii,lz];rfl,rfl⟩
   ·rintro σ H5 ⟨rfl,z,rest,U,hz,lz,rfl⟩;rw[JU]at lz;have b4:=hM.len;rw[Jv]at b4;refine⟨.inl ⟨rfl,_,SqL.of w4⟩,a0,fun pn c8 =>?_⟩;generalize e6:upd H5 pn _=H6;have s6:ak H5 H6:=e6▸ak.new c8 _;have w6:H6 pn=some (.tup [.str z,.int O]):=by rw[← e6];exact ah
    have u6:=s6 _ _ w4;have tl:=bQ.lst (ys:=us++[V.ref pn]) u6;refine⟨la,us,_,rfl,rfl,u6,cH (by lia),ak.set (s4.trans s6) c4 _,us++[V.ref pn],M++[(dig z,O)],_,_,_,_,_,_,ah,?_,by rw[I8,lM];rfl,him',rfl⟩;exact (hM.up (s6.tups.trans tl)).app (.cons ⟨pn,z,rfl,tl _ _ w6,hz,rfl,by lia,a8⟩ .nil)
  ·rintro σ H4 ⟨s4,us,M,rest,a9,b1,b2,b3,U,w4,hM,lM,c6,rfl⟩;have b4:=hM.len;rw[Jv]at b4;refine⟨la,us,_,n,rfl,w4,hM,by lia,by decide,by lia,fun vd H5 s5 c9=>⟨a0,fun p hp =>?_⟩⟩;have hvd':bS H5 vd (bo (.col J) M):=c9;have e5:=ak.new hp (.tup [.int (n:Int),vd]);have b9:∀ p∈M,POk n p:=fun p hp=>hM.ok p (Ja _ hp);have ca:=vC M (.col J) b9;have c1:cnt (Tr.col J)=1:=rfl;have cb:(3 * n + 1) * M.length≤121 * 5:=KY (by lia) (by lia);exact q' _ n _ _ (s1.trans (s4.trans (s5.trans e5))) ⟨p,vd,rfl,ah,hvd'.up e5.tups⟩ hn (mT M _ b9 (aQ.col a4)) (by lia)
theorem IQ {c A R:Prop}[Decidable c](h:A)(g:A→c→R):if c then R else A:=by
 by_cases hc:c
 ·rw[if_pos hc];exact g h hc
 ·rw[if_neg hc];exact h
abbrev jS:Stmt:=top 55
theorem dw:aE ["_law_script","_law_level","_law_most","_law_paints_here"] ["_law_script"] (aq jS):={}
inductive lJ  (K:Frag)(vs:List V)(H:Hp)(Q:VK):Prop
 | mk (a:Addr) (ns:List Int) (h_0:vs=[.ref a]) (h_1:SqL K H a (ns.map V.int)) (h_2:ns.length≤63) (h_3:∀ v n t H',ak H H'→DT H' v ((n:Nat):Int) t→n≤40→aQ n t→cnt t≤1500→Q v H'):lJ K vs H Q
def mD  (K:Frag):Sp:=fun vs H Q _=>lJ K vs H Q
theorem uV (T:Tx K mg)(q:bW CX)(F:bE K "_law_sheet" "_law_sheet" jS f fd .none)(B:Fok P w K mg base CX 1 "_law_at" ["_law_script","_law_k"] [] (iJ K))(G:Fok P w K mg base CX 44 "_law_sheet_by_digits" ["_law_cell"] [] jy)(J:Fok P w K mg base CX 2 "_law_tree_of_rows" ["_law_rows"] [] dD)(a1:Fok P w K mg base CX 2 "_law_grid" ["_law_script","_law_first","_law_level"] [] (oC K))(Y:Fok P w K mg base CX 3 "_law_paints" ["_law_script","_law_first","_law_most","_law_level"] [] (kY K))(a0:Fok P w K mg base CX 1 "_law_colour" ["_law_cell"] [] ip)(U:Fok P w K mg base CX 43 "_law_tree_by" ["_law_paints_here"] [] (eE 41)):
  bF P w K mg base CX 45 f fd ["_law_script"] (mD K):=by
 refine F.ok dw (fun vs H Q E h =>?_) (fun b8 A outer s H vs Q E hr h =>?_)
 ·obtain⟨_,_,rfl,_⟩:=h;rfl
 obtain⟨a,ns,rfl,hS,O,q'⟩:=h;refine⟨_,(ac (bG (PW.pt (jV (aH fF (ai aN (ai aL (aj B q hr (aa (pv 0) (aa ae af))) ae) ae) ae) (pH (eI (wd jD jD (Co xv (ai Cw ae ae)) (aj B q hr (aa (pv 0) (aa ae af))) (ai Cw ae ae)))))) (ag (aB (aj G q hr (aa (aj B q hr (aa (pv 0) (aa ae af))) af)))) aO) (ac (bG (aH jD (ai aN (aj B q hr (aa (pv 0) (aa ae af))) ae) ae) (ac (ao (i:=1) dw (ai aN (ai aL (aj B q hr (aa (pv 0) (aa ae af))) ae) ae)) (ag (aB (aF (av (pv 1) (av (aj J q hr (aa (aj a1 q hr (aa (pv 0) (aa ae (aa (pv 1) af)))) af)) au)))))) aO) (ac (ao (i:=1) dw (ai aN (ai aI (aj B q hr (aa (pv 0) (aa ae af))) ae) ae)) (ac (Cf (bG (aH fF (ai aN (aj B q hr (aa (pv 0) (aa ae af))) ae) ae) (ag (ao (i:=1) dw (ai aI ae (ai aN (pv 1) ae)))) aO)) (ac (ao (i:=2) dw (ay bK (aP (av ae (av ae (av ae au)))) (ai aI (bL fv rfl T.b_int eU (aa (eJ qQ (pv 1) ae) af)) (bL fv rfl T.b_int eU (aa (eJ qQ (pv 1) ae) af))))) (ac (ao (i:=3) dw (aj Y q hr (aa (pv 0) (aa ae (aa (pv 2) (aa (pv 1) af)))))) (ag (aB (aF (av (pv 1) (av (aj U q hr (aa (ai uO (aP (av (aF (av cG (av (aj a0 q hr (aa (ai aL (aj B q hr (aa (pv 0) (aa ae af))) ae) af)) au))) au)) (pv 3)) af)) au))))))))))),?_⟩;have a2:2≤sizeLine:=by decide
 refine⟨a,ns,0,rfl,hS,O,cm (by decide) (by decide),(by show (0:Int) < 2;decide),rfl,IQ ?_ (fun hY _ =>?_)⟩
 rotate_left
 ·have cp:BB 10 6:=⟨by decide,by decide,by decide⟩;have qd:∀ v n t H',ak H H'→DT H' v ((n:Nat):Int) t→n≤40→aQ n t→cnt t≤1500→Q v H':=q';refine⟨cp,_,rfl,a,ns,1,rfl,hS,O,_,rfl,cz (fun _ =>?_) (fun _ =>?_)⟩
  ·refine⟨cp,cP (aA (cz (fun _ =>?_) (fun _ =>?_)))⟩
   ·first
     | exact hY
     | exact⟨a,ns,1,rfl,hS,O,cell ns 1,rfl,qd⟩
   ·first
     | exact hY
     | exact⟨_,rfl,a,ns,1,rfl,hS,O,cell ns 1,rfl,qd⟩
  ·first
    | exact (aA (mR ⟨a,ns,1,rfl,hS,O,cell ns 1,rfl,qd⟩))
    | exact⟨_,rfl,a,ns,1,rfl,hS,O,cell ns 1,rfl,qd⟩
 refine⟨a,ns,0,rfl,hS,O,(by show (0:Int) < 5;decide),cP (aA (cz (fun _ =>?_) (fun _ =>?_)))⟩
 ·obtain⟨n,hn,en⟩:∃ n:Nat,n≤3∧cell ns 0 / 10 % 4=(n:Int):=⟨(cell ns 0 / 10 % 4).toNat,by lia,by lia⟩;refine⟨a,ns,0,rfl,hS,O,cm (by decide) (by decide),(by show (0:Int) < 4;decide),?_⟩;rw[show V.int _=V.int (n:Int) from Jz V.int en];refine⟨a,ns,n,rfl,hS,O,hn,fun l H1 s1 hR=>⟨l,n,rfl,hR,hn,fun v t H2 s2 hv gt ct=>⟨a2,fun p hp =>?_⟩⟩⟩;have s3:=ak.new hp (.tup [.int (n:Int),v]);have b9:4 ^ n≤64:=JA (Kr (by decide) hn) (by decide);exact q' _ n t _ (s1.trans (s2.trans s3)) ⟨p,v,rfl,ah,hv.up s3.tups⟩ (by lia) gt (by lia)
 obtain⟨n0,b0,b1⟩:∃ n:Nat,n≤40∧(cell ns 0 + 3) % 41=(n:Int):=⟨((cell ns 0 + 3) % 41).toNat,by lia,by lia⟩;refine⟨a,ns,0,rfl,hS,O,(by show (0:Int) < 41;decide),?_⟩;rw[show V.int _=V.int (n0:Int) from Jz V.int b1];refine⟨fun σ H1=>H1=H∧∃ n:Nat,n≤40∧σ=[some (.ref a),some (.int (n:Int)),none,none],?_,?_⟩
 ·refine⟨a,ns,0,rfl,hS,O,(by show (0:Int) < 5;decide),rfl,aA (cz (fun _ =>?_) (fun _=>⟨rfl,n0,b0,rfl⟩))⟩;refine⟨(by show (0:Int) < 8;decide),rfl,1 + n0 % 8,by omega,?_⟩;rw[show ((1 + n0 % 8:Nat):Int)=1 + (n0:Int) % 8 by rfl];rfl
 rintro σ H1 ⟨rfl,n,hn,rfl⟩;refine⟨(leZ rfl),nw fun l3 H2 c2 s3 u3 =>?_⟩;have b2:=s3.seq hS;obtain⟨m,em,hm⟩:=vQ (decide ((n:Int) > 8)) (decide ((n:Int) > 20));refine (.inr ⟨_,rfl,.inr ⟨_,rfl,l3,_,_,.int (m:Int),rfl,rfl,SqL.of u3,em,?_⟩⟩);refine⟨a,ns,m,n,rfl,b2,O,by lia,hn,fun b3 a3 H3 s4 b6 u4 b7 a4 =>?_⟩;have a5:=s3.trans s4;obtain⟨L,hL⟩:=bA.of a4;refine⟨a,ns,0,rfl,a5.seq hS,O,cm (by decide) (by decide),cell ns 0 / 41,rfl,fun c0 a6 a7=>⟨a2,nw fun p0 H4 c3 e1 v1 =>?_⟩⟩;refine⟨(leZ rfl),nw fun la H5 c4 e2 w2 =>?_⟩;have v2:=e2 _ _ v1;have a8:=e1.trans e2;refine⟨la,b3,_,_,rfl,rfl,w2,a8 _ _ u4,small (by show 1 + a3.length≤_;lia),nw fun lc H6 c5 e3 w3 =>?_⟩;have v3:=e3 _ _ v2;have a9:=a8.trans e3;have b4:=hL.up a9.tups;have k8:bA H6 n ([V.ref p0]++a3) ([([],c0)]++L):=bA.app (.cons ⟨p0,("" : Str),rfl,v3,dO▸IsC.nil,iP,by rw[show ("" : Str).length=0 by decide +kernel];simp,⟨a6,a7⟩⟩ .nil) b4
 refine⟨lc,_,_,n,rfl,w3,k8,by lia,by decide,by rw[I8];show 1 + a3.length + n≤200;lia,fun vd H7 e4 b5=>⟨a2,fun p hp =>?_⟩⟩;have hvd':bS H7 vd (bo (.col c0) L):=b5;have e5:=ak.new hp (.tup [.int (n:Int),vd]);have ca:=vC L (.col c0) hL.ok;have ll:=hL.len;have c1:cnt (Tr.col c0)=1:=rfl;have cb:(3 * n + 1) * L.length≤121 * 5:=KY (by lia) (by lia);exact q' _ n _ _ (a5.trans (a9.trans (e4.trans e5))) ⟨p,vd,rfl,ah,hvd'.up e5.tups⟩ hn (mT L _ hL.ok (aQ.col ⟨a6,a7⟩)) (by lia)
end
theorem HM (h:d < 4):Builtin.Str.occurrences ("0123" : Str) (one d) 0 ("0123" : Str).length 1=[d] :=
 four (P:=fun d=>Builtin.Str.occurrences ("0123" : Str) (one d) 0 ("0123" : Str).length 1=[d]) (by decide +kernel) (by decide +kernel) (by decide +kernel) (by decide +kernel) h
theorem Ib (h:n≤1000000):n < sizeLine:=Lc h (by decide)
theorem vW:∀ (ds:List Nat) (n d:Nat),sqX n (ds++[d])=sqX n ds + d % 2 * 2 ^ (n - ds.length - 1)
 | [],n,d=>by show d % 2 * 2 ^ (n - 1) + 0=0 + d % 2 * 2 ^ (n - 0 - 1);rw[Lo];simp
 | e::ds,n,d=>by
  show e % 2 * 2 ^ (n - 1) + sqX (n - 1) (ds++[d])=e % 2 * 2 ^ (n - 1) + sqX (n - 1) ds + d % 2 * 2 ^ (n - (ds.length + 1) - 1);rw[vW ds (n - 1) d,show n - 1 - ds.length - 1=n - (ds.length + 1) - 1 by lia];lia
theorem vV:∀ (ds:List Nat) (n d:Nat),sqY n (ds++[d])=sqY n ds + d / 2 * 2 ^ (n - ds.length - 1)
 | [],n,d=>by show d / 2 * 2 ^ (n - 1) + 0=0 + d / 2 * 2 ^ (n - 0 - 1);rw[Lo];simp
 | e::ds,n,d=>by
  show e / 2 * 2 ^ (n - 1) + sqY (n - 1) (ds++[d])=e / 2 * 2 ^ (n - 1) + sqY (n - 1) ds + d / 2 * 2 ^ (n - (ds.length + 1) - 1);rw[vV ds (n - 1) d,show n - 1 - ds.length - 1=n - (ds.length + 1) - 1 by lia];lia
theorem IJ {d:Nat}(h:d < 4):(!(Builtin.Str.occurrences ("13" : Str) (one d) 0 ("13" : Str).length 1).isEmpty)=decide (d % 2=1) :=
 four (P:=fun d=>(!(Builtin.Str.occurrences ("13" : Str) (one d) 0 ("13" : Str).length 1).isEmpty)=decide (d % 2=1)) (by decide +kernel) (by decide +kernel) (by decide +kernel) (by decide +kernel) h
theorem II {d:Nat}(h:d < 4):(!(Builtin.Str.occurrences ("23" : Str) (one d) 0 ("23" : Str).length 1).isEmpty)=decide (d / 2=1) :=
 four (P:=fun d=>(!(Builtin.Str.occurrences ("23" : Str) (one d) 0 ("23" : Str).length 1).isEmpty)=decide (d / 2=1)) (by decide +kernel) (by decide +kernel) (by decide +kernel) (by decide +kernel) h
theorem Ee (n:Nat):(1:Int) * 2 ^ ((n:Int)).toNat=((2 ^ n:Nat):Int):=by rw[JU];simp
theorem Ab {e:Nat}(h:e < 2):(if decide (e=1)=true then (1:Int) else 0)=(e:Int):=by
 rcases e with _|_|e
 ·rfl
 ·rfl
 ·lia
theorem AU:((a=0∨d=0)∧(if d > a then (if (0:Int) > d then 0 else d) else (if (0:Int) > a then 0 else a)) > 0)↔(min a d=0∧max a d > 0):=by
 split<;>split<;>lia
theorem nE (q r:Sq):aV q r=aV r q:=by
 rw[Ki,dk,dk];unfold dF;rw[fR,fR,fR,fR,fQ,fQ,fQ,fQ];have B:min ((q.x:Int) + q.w) ((r.x:Int) + r.w)=min ((r.x:Int) + r.w) ((q.x:Int) + q.w):=Lp _ _;have G:min ((q.y:Int) + q.w) ((r.y:Int) + r.w)=min ((r.y:Int) + r.w) ((q.y:Int) + q.w):=Lp _ _;have J:max (q.x:Int) (r.x:Int)=max (r.x:Int) (q.x:Int):=Lq _ _;have O:max (q.y:Int) (r.y:Int)=max (r.y:Int) (q.y:Int):=Lq _ _;rw[B,G,J,O]
section
variable {P:Pg9}{w:Wd9}{K:Frag}{mg:Mg9}{base:Heap}{CX:CXT}{f:Addr}{fd:Fd9}
abbrev jh:Stmt:=top 56
theorem dJ:aE ["_law_tree","_law_code_here","_law_found","_law_sign"] ["_law_tree","_law_code_here"] (aq jh):={}
inductive km  (m:Nat)(vs:List V)(H:Hp)(Q:VK):Prop
 | mk (v:V) (t:Tr) (z:Str) (k n:Nat) (h_0:vs=[v,.str z]) (h_1:bS H v t) (h_2:aQ k t) (h_3:IsC z) (h_4:z.length + k≤n) (h_5:n≤40) (h_6:k < m) (h_7:m≤41) (h_8:cnt t≤4000) (h_9:∀ l us H',ak H H'→H l=none→H' l=some (.lst us)→bA H' n us (lvs (dig z) t)→Q (.ref l) H'):km m vs H Q
def io  (m:Nat):Sp:=fun vs H Q _=>km m vs H Q
theorem lv (T:Tx K mg)(q:bW CX)(F:bE K "_law_leaves" "_law_leaves" jh f fd .none)(b:fg K fd ["_law_tree","_law_code_here"] [])(m:mg "_law_leaves" = some (.ref f)):
  ∀ n,bF P w K mg base CX (1 + n) f fd ["_law_tree","_law_code_here"] (io n)
 | 0=>by
  refine F.ok dJ (fun vs H Q E h =>?_) (fun a3 A outer s H vs Q E hr h =>?_)
  ·obtain⟨_,_,_,_,_,rfl,_⟩:=h;rfl
  obtain⟨_,_,_,_,_,_,_,_,_,_,_,h,_⟩:=h;exact absurd h (Lr _)
 | m' + 1=>by
  have B:Fok P w K mg base CX (1 + m') "_law_leaves" ["_law_tree","_law_code_here"] [] (io m'):=fok F (lv T q F b m m') b m
  refine F.ok dJ (fun vs H Q E h =>?_) (fun a3 A outer s H vs Q E hr h =>?_)
  ·obtain⟨_,_,_,_,_,rfl,_⟩:=h;rfl
  obtain⟨v,t,z,k,n,rfl,ht,gt,hz,hl,hn,hk,hm,hc,q'⟩:=h;refine⟨_,(ac (bG (eI (eG (az (cV "tuple") rfl T.b_isinstance bv (aa (pv 0) (aa (gR T.b_tuple iR) af))))) (ag (aB (aP (av (aF (av (pv 1) (av (pv 0) au))) au)))) aO) (ac (ao (i:=2) dJ (aP au)) (ac (aR Jm rfl (nU cG) (aY (i:=3) dJ) (ag (ao (i:=2) dJ (ai uO (pv 2) (aj B q hr (aa (ay aD (pv 0) (tf PySem.F.plainAttrs_str PySem.F.slot_str_index PySem.F.type_str_index CP cG (aa (pv 3) af))) (aa (ai cO (pv 1) (pv 3)) af)) (hj:=by first | decide | simp | (simp only[Ms];lia))))))) (ag (aB (pv 2)))))),?_⟩
  cases ht with
  | col i =>
   have g':0≤i∧i≤35:=by cases k<;>exact gt
   refine⟨_,_,_,rfl,.int _,n8,aA (mR ?_)⟩;refine⟨(leZ rfl),nw fun p H1 hp s1 u1 =>?_⟩;refine⟨(leZ rfl),fun l J =>?_⟩;have Y:=ak.new J (.lst [.ref p]);exact q' l _ _ (s1.trans Y) (ak.none s1 J) ah (.cons ⟨p,z,rfl,Y _ _ u1,hz,rfl,by lia,g'⟩ .nil)
  | @four p xa xb xc xd ta tb tc td e ja jb jc jd =>
   rcases k with _|k
   ·exact gt.elim
   obtain⟨ga,gb,gc,gd,ho⟩:=gt;have hc':cnt ta + cnt tb + cnt tc + cnt td≤4000:=hc;refine⟨_,_,_,rfl,.tup e,n6,aA (fS ?_)⟩;refine⟨(leZ rfl),nw fun l0 H1 a4 s1 u1 =>?_⟩;obtain⟨tt,a5⟩:∃ tt:List Tr,tt=[ta,tb,tc,td]:=⟨_,rfl⟩;obtain⟨ps,a0⟩:∃ ps:List (List (List Nat × Int)),ps=[lvs (dig z++[0]) ta,lvs (dig z++[1]) tb,lvs (dig z++[2]) tc,lvs (dig z++[3]) td]:=⟨_,rfl⟩;have a6:ps.length=4:=by rw[a0];rfl
   have a7:ps.flatten.length≤4000:=by
    rw[a0];simp only[List.flatten_cons,List.flatten_nil,J_,I8,d_]
    lia
   refine⟨_,rfl,gn (fun j σ H2=>ak H H2∧∃ (l:Addr) (us:List V) (o3:OW9),H l=none∧H2 l=some (.lst us)∧j≤4∧bA H2 n us (ps.take j).flatten∧σ=[some (.ref p),some (.str z),some (.ref l),o3]) ⟨s1,l0,[],none,a4,u1,by decide,.nil,rfl⟩ ?_ ?_⟩
   ·rintro j σ H2 hj ⟨Y,l,us,o3,J,u2,G,O,rfl⟩;have G:j < 4:=by rw[show ("0123" : Str).length=4 by decide +kernel]at hj;exact hj
    have ej:sgn ("0123" : Str) j=one j:=four (P:=fun d=>sgn ("0123" : Str) d=one d) (by decide +kernel) (by decide +kernel) (by decide +kernel) (by decide +kernel) G
    rw[ej];have key:∃ x t',atI [xa,xb,xc,xd] (j:Int)=some x∧bS H x t'∧aQ k t'∧cnt t'≤4000∧ps[j]? = some (lvs (dig z++[j]) t'):=by
     rw[a0];rcases j with _ | _ | _ | _ | j
     ·exact⟨xa,ta,rfl,ja,ga,by lia,rfl⟩
     ·exact⟨xb,tb,rfl,jb,gb,by lia,rfl⟩
     ·exact⟨xc,tc,rfl,jc,gc,by lia,rfl⟩
     ·exact⟨xd,td,rfl,jd,gd,by lia,rfl⟩
     ·lia
    obtain⟨x,t',k1,k2,k3,k4,k5⟩:=key;have l1:(one j).length=1:=rfl;refine⟨rfl,_,_,j,[],rfl,rfl,HM G,p,_,_,x,rfl,rfl,SqT.of (Y _ _ e),k1,_,_,rfl,rfl,(by rw[l1];exact small (by lia)),x,t',z++one j,k,n,rfl,k2.up Y.tups,k3,IsC.app hz (IsC.one G),by rw[ii,l1];lia,hn,by lia,by lia,k4,fun l2 a1 H3 s3 a8 u3 U =>?_⟩;rw[ng,vq]at U;have u2':=s3 _ _ u2;have et:(ps.take (j + 1)).flatten=(ps.take j).flatten++lvs (dig z++[j]) t':=by rw[Jw,k5,Lm];simp
    have n1:=O.len;have n2:=U.len;have n3:(ps.take j).flatten.length≤ps.flatten.length:=by
     conv=>rhs;rw[← JZ j ps,Lm,I8]
     simp
    have n4:=d_ t' (dig z++[j]);refine⟨l,l2,_,_,rfl,rfl,u2',u3,big (by lia),fun l3 a2 =>?_⟩;have s4:=ak.new a2 (.lst (us++a1));refine⟨Y.trans (s3.trans s4),l3,us++a1,_,ak.none (Y.trans s3) a2,ah,G,?_,rfl⟩;rw[et];exact (O.up (s3.trans s4).tups).app (U.up s4.tups)
   ·rintro σ H2 ⟨Y,l,us,o3,J,u2,G,O,rfl⟩;have e4:(ps.take ("0123" : Str).length).flatten=lvs (dig z) (.four ta tb tc td):=by
     rw[show ("0123" : Str).length=4 by decide +kernel,Ji (by lia),a0]
     simp[lvs]
    rw[e4]at O;exact (q' l us H2 Y J u2 O)
abbrev jf:Stmt:=top 57
theorem ck:aE ["_law_code_here","_law_level","_law_x","_law_y","_law_wide","_law_sign"] ["_law_code_here","_law_level"] (aq jf):={}
inductive ki  (vs:List V)(H:Hp)(Q:VK):Prop
 | mk (z:Str) (n:Nat) (h_0:vs=[.str z,.int n]) (h_1:IsC z) (h_2:z.length≤n) (h_3:n≤40) (h_4:∀ p H',ak H H'→H' p=some (.tup [.int ((sqX n (dig z):Nat):Int),.int ((sqY n (dig z):Nat):Int),.int ((2 ^ (n - z.length):Nat):Int)])→Q (.ref p) H'):ki  vs H Q
def ik:Sp:=fun vs H Q _=>ki  vs H Q
theorem si (T:Tx K mg)(F:bE K "_law_square" "_law_square" jf f fd .none):bF P w K mg base CX 1 f fd ["_law_code_here","_law_level"] ik:=by
 refine F.ok ck (fun vs H Q E h =>?_) (fun a0 A outer s H vs Q E hr h =>?_)
 ·obtain⟨_,_,rfl,_⟩:=h;rfl
 obtain⟨z,n,rfl,hz,lz,hn,q'⟩:=h;refine⟨_,(ac (ao (i:=2) ck ae) (ac (ao (i:=3) ck ae) (ac (ao (i:=4) ck (ai uL ae (pv 1))) (ac (aR Jm rfl (nU (pv 0)) (aY (i:=5) ck) (ac (ao (i:=4) ck (ai aL (pv 4) ae)) (ac (ao (i:=2) ck (ai aI (pv 2) (ai bq (pv 4) (bL fv rfl T.b_int eU (aa (eJ kK (pv 5) cG (by with_unfolding_all rfl)) af))))) (ag (ao (i:=3) ck (ai aI (pv 3) (ai bq (pv 4) (bL fv rfl T.b_int eU (aa (eJ kK (pv 5) cG (by with_unfolding_all rfl)) af))))))))) (ag (aB (aF (av (pv 2) (av (pv 3) (av (pv 4) au)))))))))),?_⟩;have B:BB 1 (n:Int):=⟨by simp,by lia,by decide⟩;refine⟨B,?_⟩;rw[show V.int _=V.int ((2 ^ n:Nat):Int) from Jz V.int (Ee n)];refine⟨z,rfl,gn (fun i σ H2=>H2=H∧∃ (X Y W:Int) (J:OW9),X=((sqX n ((dig z).take i):Nat):Int)∧Y=((sqY n ((dig z).take i):Nat):Int)∧W=((2 ^ (n - i):Nat):Int)∧σ=[some (.str z),some (.int n),some (.int X),some (.int Y),some (.int W),J]) ⟨rfl,0,0,_,none,rfl,rfl,rfl,rfl⟩ ?_ ?_⟩
 ·rintro i σ H2 hi ⟨rfl,X,Y,W,J,rfl,rfl,rfl,rfl⟩;obtain⟨d,O,U,e2⟩:=kG hz hi;have en:n - i=(n - i - 1) + 1:=by lia
  have eW:((2 ^ (n - i):Nat):Int) / 2=((2 ^ (n - i - 1):Nat):Int):=by
   conv=>lhs;rw[en,Kg]
   simp
  have lt:((dig z).take i).length=i:=by rw[JO,cN];lia
  have G:-(2 ^ 64) < ((2 ^ (n - i - 1):Nat):Int):=Int.lt_of_lt_of_le (by decide) (Int.natCast_nonneg _);have hW:((2 ^ (n - i - 1):Nat):Int) < 2 ^ 64:=by
   have h1:2 ^ (n - i - 1)≤2 ^ 40:=Kr (by decide) (by lia);have h2:(2 ^ 40:Nat)=1099511627776:=by decide
   lia
  refine⟨cm (by decide) (by decide),?_⟩;rw[show V.int _=V.int ((2 ^ (n - i - 1):Nat):Int) from Jz V.int eW];refine⟨_,_,rfl,rfl,.inr ⟨_,rfl,.inl ⟨G,hW⟩,?_⟩⟩;refine⟨_,_,rfl,rfl,.inr ⟨_,rfl,.inl ⟨G,hW⟩,rfl,_,_,_,_,?_,?_,?_,rfl⟩⟩
  ·rw[m_ hi,e2,vW,lt,U,IJ O,Ab (Nat.mod_lt _ (by decide)),K6,KA,Int.mul_comm]
  ·rw[m_ hi,e2,vV,lt,U,II O,Ab (by lia),K6,KA,Int.mul_comm]
  ·rw[show n - i - 1=n - (i + 1) by rfl]
 ·rintro σ H2 ⟨rfl,X,Y,W,J,rfl,rfl,rfl,rfl⟩;have et:(dig z).take z.length=dig z:=Ji (by rw[cN];exact I_ _);rw[et];exact⟨(leZ rfl),fun p hp=>q' p _ (ak.new hp _) ah⟩
abbrev nK:Stmt:=top 58
theorem lQ:aE ["_law_one","_law_two","_law_across","_law_down"] ["_law_one","_law_two"] (aq nK):={}
def AV (X Y:Int):Int:=if X=0∨Y=0 then (if Y > X then (if (0:Int) > Y then 0 else Y) else (if (0:Int) > X then 0 else X)) else 0
def Bx (H:Hp)(p:Addr)(q:Sq):Prop:=H p=some (.tup [.int (q.x:Int),.int (q.y:Int),.int (q.w:Int)])
inductive oQ  (vs:List V)(H:Hp)(Q:VK):Prop
 | mk (p r:Addr) (a b:Sq) (h_0:vs=[.ref p,.ref r]) (h_1:Bx H p a) (h_2:Bx H r b) (h_3:∀ (i:Int) H',ak H H'→(i > 0↔aV a b=true)→i=AV (dF a.x a.w b.x b.w) (dF a.y a.w b.y b.w)→Q (.int i) H'):oQ  vs H Q
def lN:Sp:=fun vs H Q _=>oQ  vs H Q
theorem x_ (T:Tx K mg)(F:bE K "_law_met" "_law_met" nK f fd .none):bF P w K mg base CX 1 f fd ["_law_one","_law_two"] lN:=by
 refine F.ok lQ (fun vs H Q E h =>?_) (fun a0 A outer s H vs Q E hr h =>?_)
 ·obtain⟨_,_,_,_,rfl,_⟩:=h;rfl
 obtain⟨p,r,a,b,rfl,hp,J,O⟩:=h;refine⟨_,(ac (ao (i:=2) lQ (ai fq (az (gB rfl) rfl T.b_min oj (aa (ai aI (ay aD (pv 0) ae) (ay aD (pv 0) ae)) (aa (ai aI (ay aD (pv 1) ae) (ay aD (pv 1) ae)) af))) (az (iQ rfl) rfl T.b_max om (aa (ay aD (pv 0) ae) (aa (ay aD (pv 1) ae) af))))) (ac (ao (i:=3) lQ (ai fq (az (gB rfl) rfl T.b_min oj (aa (ai aI (ay aD (pv 0) ae) (ay aD (pv 0) ae)) (aa (ai aI (ay aD (pv 1) ae) (ay aD (pv 1) ae)) af))) (az (iQ rfl) rfl T.b_max om (aa (ay aD (pv 0) ae) (aa (ay aD (pv 1) ae) af))))) (ac (bG (PW.pt (sZ (aH fF (pv 2) ae) (qH (aH fF (pv 3) ae)))) (ag (aB (az (Br rfl) rfl T.b_max om (aa (pv 2) (aa (pv 3) (aa ae af)))))) aO) (ag (aB ae))))),?_⟩;have B:=SqT.of (K:=K) hp;have G:=SqT.of (K:=K) J;refine⟨p,_,_,_,rfl,rfl,B,rfl,p,_,_,_,rfl,rfl,B,rfl,r,_,_,_,rfl,rfl,G,rfl,r,_,_,_,rfl,rfl,G,rfl,_,_,rfl,p,_,_,_,rfl,rfl,B,rfl,r,_,_,_,rfl,rfl,G,rfl,_,_,rfl,?_⟩;refine⟨p,_,_,_,rfl,rfl,B,rfl,p,_,_,_,rfl,rfl,B,rfl,r,_,_,_,rfl,rfl,G,rfl,r,_,_,_,rfl,rfl,G,rfl,_,_,rfl,p,_,_,_,rfl,rfl,B,rfl,r,_,_,_,rfl,rfl,G,rfl,_,_,rfl,cP ?_⟩;dsimp only;have ex:((if (b.x:Int) + b.w < (a.x:Int) + a.w then (b.x:Int) + b.w else (a.x:Int) + a.w) - if (b.x:Int) > a.x then (b.x:Int) else a.x)=dF a.x a.w b.x b.w:=rfl;have ey:((if (b.y:Int) + b.w < (a.y:Int) + a.w then (b.y:Int) + b.w else (a.y:Int) + a.w) - if (b.y:Int) > a.y then (b.y:Int) else a.y)=dF a.y a.w b.y b.w:=rfl;rw[ex,ey];have mt:=AU (a:=dF a.x a.w b.x b.w) (d:=dF a.y a.w b.y b.w);have U:=dk (q:=a) (r:=b);generalize dF a.x a.w b.x b.w=X at *;generalize dF a.y a.w b.y b.w=Y at *;refine⟨rfl,aA (cz (fun c =>?_) (fun c =>?_))⟩
 ·have c':X=0:=V.int.inj (JB c);refine⟨X,Y,0,rfl,O _ H (ak.refl H) ?_ (by unfold AV;rw[if_pos (Or.inl c')])⟩;rw[U,← mt];exact⟨fun h=>⟨.inl c',h⟩,fun h=>h.2⟩
 ·refine⟨rfl,aA (cz (fun d =>?_) (fun d =>?_))⟩
  ·have d':Y=0:=V.int.inj (JB d);refine⟨X,Y,0,rfl,O _ H (ak.refl H) ?_ (by unfold AV;rw[if_pos (Or.inr d')])⟩;rw[U,← mt];exact⟨fun h=>⟨.inr d',h⟩,fun h=>h.2⟩
  ·refine O 0 H (ak.refl H) ?_ (by unfold AV;rw[if_neg fun h=>h.elim (fun e=>c (Jd (Jz V.int e))) fun e=>d (Jd (Jz V.int e))]);rw[U,← mt];refine⟨fun h=>absurd h (by decide),fun h =>?_⟩;rcases h.1 with e | e
   ·exact absurd (Jd (Jz V.int e)) c
   ·exact absurd (Jd (Jz V.int e)) d
end
section
variable {P:Pg9}{w:Wd9}{K:Frag}{mg:Mg9}{base:Heap}{CX:CXT}{f:Addr}{fd:Fd9}
abbrev lX:Stmt:=top 10
theorem vZ:aE ["thing"] ["thing"] (aq lX):={}
def jN (K:Frag):Sp:=fun vs H Q _=>∃ x,vs=[x]∧((∃ i,x=.int i∧Q (.bl true) H)∨(∃ b,x=.bl b∧Q (.bl false) H)∨∃ t,kW K H x t∧kitOne K t (.type "int")=some false∧Q (.bl false) H)
theorem ww (T:Tx K mg)(F:bE K "is_whole" "is_whole" lX f fd .none):bF P w K mg base CX 1 f fd ["thing"] (jN K):=by
 refine F.ok vZ (fun vs H Q E h =>?_) (fun B A outer s H vs Q E J h =>?_)
 ·obtain⟨x,rfl,_⟩:=h;rfl
 obtain⟨x,rfl,h⟩:=h;refine⟨_,(ag (aB (xY (az (cV "int") rfl T.b_isinstance bv (aa (pv 0) (aa (gR T.b_int eU) af))) (xW (Gb (az (cV "bool") rfl T.b_isinstance bv (aa (pv 0) (aa (gR T.b_bool Aa) af)))))))),?_⟩
 rcases h with⟨i,rfl,q⟩|⟨b,rfl,q⟩|⟨t,ty,G,q⟩
 ·refine⟨_,_,_,rfl,.int i,C0,_,rfl,mR ?_⟩;exact⟨_,_,_,rfl,.int i,C3,_,rfl,q⟩
 ·refine⟨_,_,_,rfl,.bl b,Gx,_,rfl,mR ?_⟩;exact⟨_,_,_,rfl,.bl b,Gy,_,rfl,q⟩
 ·exact⟨_,_,_,rfl,ty,G,_,rfl,fS q⟩
abbrev lY:Stmt:=top 11
theorem v0:aE ["thing"] ["thing"] (aq lY):={}
def oE (K:Frag):Sp:=fun vs H Q _=>∃ i,vs=[.int i]∧(0≤i∧i≤40→Q (.bl true) H)∧(¬ (0≤i∧i≤40)→Q (.bl false) H)
theorem wx (T:Tx K mg)(q:bW CX)(F:bE K "is_level" "is_level" lY f fd .none)(B:Fok P w K mg base CX 1 "is_whole" ["thing"] [] (jN K)):bF P w K mg base CX 2 f fd ["thing"] (oE K):=by
 refine F.ok v0 (fun vs H Q E h =>?_) (fun G A outer s H vs Q E J h =>?_)
 ·obtain⟨x,rfl,_⟩:=h;rfl
 obtain⟨i,rfl,h1,h2⟩:=h;refine⟨_,(ag (aB (xY (aj B q J (aa (pv 0) af)) (xW (Ct Cy Cy ae (pv 0) (zh T.c_MOST)))))),?_⟩;refine⟨_,rfl,.inl ⟨i,rfl,_,rfl,mR ?_⟩⟩;refine⟨_,rfl,cz (fun c =>?_) (fun c =>?_)⟩
 ·have c':(0:Int)≤i:=JB c
  try dsimp only
  refine (cP ?_);show Q (.bl (decide (i≤40))) H;by_cases d:i≤40
  ·have e:decide (i≤40)=true:=Jd d;rw[e];exact h1 ⟨c',d⟩
  ·have e:decide (i≤40)=false:=JT d;rw[e];exact h2 fun z=>d z.2
 ·exact h2 fun z=>c (Jd z.1)
abbrev dA:Stmt:=top 14
theorem r9:aE ["level","least"] ["level","least"] (aq dA):={}
inductive kh  (vs:List V)(H:Hp)(Q:VK):Prop
 | mk (l m:Int) (h_0:vs=[.int l,.int m]) (h_1:0≤l) (h_2:l≤40) (h_3:m≤l) (h_4:Q .non H):kh  vs H Q
def dI:Sp:=fun vs H Q _=>kh  vs H Q
theorem lj (T:Tx K mg)(q:bW CX)(F:bE K "need_level" "need_level" dA f fd dV)(B:Fok P w K mg base CX 2 "is_level" ["thing"] [] (oE K)):bF P w K mg base CX 3 f fd ["level","least"] dI:=by
 refine F.ok r9 (fun vs H Q E h =>?_) (fun G A outer s H vs Q E J h =>?_)
 ·obtain⟨_,_,rfl,_⟩:=h;rfl
 obtain⟨l,m,rfl,O,h1,h2,U⟩:=h;refine⟨_,(ag (bG (PW.pt (sZ (eI (eG (aj B q J (aa (pv 0) af)))) (qH (aH jD (pv 0) (pv 1))))) (ag qK) aO)),?_⟩;refine⟨l,rfl,fun _ =>?_,fun z=>absurd ⟨O,h1⟩ z⟩;refine (aA (fS ?_));refine (mo (mo (cP (aA (cz (fun c =>?_) (fun _=>U))))));have c':l < m:=JB c;exact absurd c' (by lia)
abbrev lS:Stmt:=top 19
theorem g7:aE ["level","wide","step"] ["level"] (aq lS):={}
inductive nq  (vs:List V)(H:Hp)(Q:VK):Prop
 | mk (n:Nat) (h_0:vs=[.int n]) (h_1:n≤64) (h_2:Q (.int ((2 ^ n:Nat):Int)) H):nq  vs H Q
def gZ:Sp:=fun vs H Q _=>nq  vs H Q
theorem wp (T:Tx K mg)(F:bE K "width_of" "width_of" lS f fd .none):bF P w K mg base CX 1 f fd ["level"] gZ:=by
 refine F.ok g7 (fun vs H Q E h =>?_) (fun B A outer s H vs Q E J h =>?_)
 ·obtain⟨x,rfl,_⟩:=h;rfl
 obtain⟨n,rfl,O,G⟩:=h;refine⟨_,(ac (ao (i:=1) g7 ae) (ac (aR Jm rfl (bR rfl T.b_range (aa (pv 0) af)) (aY (i:=2) g7) (ag (ao (i:=1) g7 (ai bq (pv 1) ae)))) (ag (aB (pv 1))))),?_⟩;refine⟨_,rfl,by simp,by lia,bY (fun i σ H2=>H2=H∧∃ x v,x=((2 ^ i:Nat):Int)∧σ=[some (.int n),some (.int x),v]) ⟨rfl,1,none,rfl,rfl⟩ ?_ ?_⟩
 ·rintro i σ H2 hi ⟨rfl,x,v,rfl,rfl⟩;refine⟨.inr ⟨by decide,by decide⟩,rfl,_,_,?_,rfl⟩;rw[Kg,KA];rfl
 ·rintro σ H2 ⟨rfl,x,v,rfl,rfl⟩;have e:((n:Int)).toNat=n:=JU n
  try dsimp only
  refine (mo ?_);rw[e];exact G
abbrev je:Stmt:=top 20
theorem iq:aE ["x","y","level","wide","along"] ["x","y","level"] (aq je):={}
inductive kg  (vs:List V)(H:Hp)(Q:VK):Prop
 | mk (x y:Int) (n:Nat) (h_0:vs=[.int x,.int y,.int n]) (h_1:n≤40) (h_2:(0≤x∧x < ((2 ^ n:Nat):Int))) (h_3:(0≤y∧y < ((2 ^ n:Nat):Int))) (h_4:∀ H',ak H H'→Q .non H'):kg  vs H Q
def kX:Sp:=fun vs H Q _=>kg  vs H Q
theorem sf (T:Tx K mg)(q:bW CX)(F:bE K "need_place" "need_place" je f fd .none)(B:Fok P w K mg base CX 1 "width_of" ["level"] [] gZ)(G:Fok P w K mg base CX 1 "is_whole" ["thing"] [] (jN K)):
  bF P w K mg base CX 2 f fd ["x","y","level"] kX:=by
 refine F.ok iq (fun vs H Q E h =>?_) (fun Y A outer s H vs Q E O h =>?_)
 ·obtain⟨_,_,_,rfl,_⟩:=h;rfl
 obtain⟨x,y,n,rfl,hn,hx,hy,q'⟩:=h;refine⟨_,(ac (ao (i:=3) iq (aj B q O (aa (pv 2) af))) (ag (aR Jm rfl (xV (aF (av (pv 0) (av (pv 1) au)))) (aY (i:=4) iq) (ag (bG (PW.pt (sZ (eI (eG (aj G q O (aa (pv 4) af)))) (qH (eI (wd Cy jD ae (pv 4) (pv 3)))))) (ag qK) aO))))),?_⟩;refine⟨n,rfl,by lia,?_⟩;refine⟨(leZ rfl),fun p hp=>⟨p,rfl,⟨_,SqT.of ah⟩,vp (xs:=[.int x,.int y]) (fun i σ H2=>H2=upd H p (.tup [.int x,.int y])∧∃ v,σ=[some (.int x),some (.int y),some (.int n),some (.int ((2 ^ n:Nat):Int)),v]) ⟨rfl,none,rfl⟩ (fun i σ H2 _ h2=>by rw[h2.1];exact SqT.of ah) ?_ ?_⟩⟩
 ·rintro i u σ H2 J ⟨rfl,v,rfl⟩;obtain⟨a,rfl,U⟩:∃ a,u=V.int a∧(0≤a∧a < ((2 ^ n:Nat):Int)):=by
   rcases i with _|_|i
   ·exact⟨x,(Option.some.inj J).symm,hx⟩
   ·exact⟨y,(Option.some.inj J).symm,hy⟩
   ·cases J
  refine⟨_,rfl,.inl ⟨a,rfl,aA (fS ?_)⟩⟩;refine⟨_,rfl,cz (fun _ =>?_) (fun c=>absurd (Jd U.1) c)⟩;exact (mo (cP (aA (HJ U.2 ⟨rfl,_,rfl⟩))))
 ·rintro σ H2 ⟨rfl,v,rfl⟩;exact q' _ (ak.new hp _)
theorem pZ (x m:Nat):x / 2 ^ m / 2=x / 2 ^ (m + 1):=by rw[Nat.div_div_eq_div_mul,Kg]
abbrev nO:Stmt:=top 22
theorem fm:aE ["x","y","level","code","step"] ["x","y","level"] (aq nO):={}
inductive oR  (vs:List V)(H:Hp)(Q:VK):Prop
 | mk (x y n:Nat) (h_0:vs=[.int x,.int y,.int n]) (h_1:n≤40) (h_2:x < 2 ^ n) (h_3:y < 2 ^ n) (h_4:∀ H',ak H H'→Q (.str (txt (low n x y))) H'):oR  vs H Q
def qw:Sp:=fun vs H Q _=>oR  vs H Q
theorem yc (T:Tx K mg)(q:bW CX)(F:bE K "code_at" "code_at" nO f fd .none)(B:Fok P w K mg base CX 3 "need_level" ["level","least"] [.int 0] dI)(G:Fok P w K mg base CX 2 "need_place" ["x","y","level"] [] kX):
  bF P w K mg base CX 4 f fd ["x","y","level"] qw:=by
 refine F.ok fm (fun vs H Q E h =>?_) (fun U A outer s H vs Q E J h =>?_)
 ·obtain⟨_,_,_,rfl,_⟩:=h;rfl
 obtain⟨x,y,n,rfl,Y,hx,hy,q'⟩:=h;refine⟨_,(ac (ba (aj B q J (aa (pv 2) af))) (ac (ba (aj G q J (aa (pv 0) (aa (pv 1) (aa (pv 2) af))))) (ac (ao (i:=3) fm cG) (ac (aR Jm rfl (bR rfl T.b_range (aa (pv 2) af)) (aY (i:=4) fm) (ac (ao (i:=3) fm (ai cO (bL nj rfl T.b_str yE (aa (ai aI (ai bq (ai aN (pv 1) ae) ae) (ai aN (pv 0) ae)) af)) (pv 3))) (ac (ao (i:=0) fm (ai aL (pv 0) ae)) (ag (ao (i:=1) fm (ai aL (pv 1) ae)))))) (ag (aB (pv 3))))))),?_⟩;refine⟨(n:Int),0,rfl,by simp,by lia,by simp,?_⟩;refine⟨x,y,n,rfl,Y,⟨by simp,by exact_mod_cast hx⟩,⟨by simp,by exact_mod_cast hy⟩,fun H1 s1 =>?_⟩;refine⟨_,rfl,by simp,by lia,bY (fun i σ H2=>H2=H1∧∃ z a b v,z=txt (low i x y)∧a=((x / 2 ^ i:Nat):Int)∧b=((y / 2 ^ i:Nat):Int)∧σ=[some (.int a),some (.int b),some (.int n),some (.str z),v]) ⟨rfl,_,_,_,none,dO,by simp,by simp,rfl⟩ ?_ ?_⟩
 ·rintro i σ H2 hi ⟨rfl,z,a,b,v,rfl,rfl,rfl,rfl⟩;have hi':i < n:=by assumption
  have ed:((y / 2 ^ i:Nat):Int) % 2 * 2 + ((x / 2 ^ i:Nat):Int) % 2=((dgt x y i:Nat):Int):=by
   unfold dgt;generalize x / 2 ^ i=a;generalize y / 2 ^ i=b
   lia
  have O:=yz x y i;have lg:((dgt x y i:Nat):Int).natAbs.log2 < 1920:=by
   rw[Int.natAbs_natCast];exact four (P:=fun d=>d.log2 < 1920) (by decide +kernel) (by decide +kernel) (by decide +kernel) (by decide +kernel) O
  refine⟨(by show (0:Int) < 2;decide),.inr ⟨by decide,by decide⟩,(by show (0:Int) < 2;decide),((dgt x y i:Nat):Int),(by show [V.int _]=[V.int _];rw[ed]),lg,?_⟩;rw[yR O];refine⟨_,_,rfl,rfl,small (by rw[fA,uZ];show 1 + i≤1000;lia),?_⟩;refine⟨cm (by decide) (by decide),cm (by decide) (by decide),rfl,_,_,_,_,?_,?_,?_,rfl⟩
  ·rw[zk,CT]
  ·rw[← pZ];rfl
  ·rw[← pZ];rfl
 ·rintro σ H2 ⟨rfl,z,a,b,v,rfl,rfl,rfl,rfl⟩;have e:((n:Int)).toNat=n:=JU n
  try dsimp only
  refine (mo ?_);rw[e];exact q' _ s1
abbrev qB:Stmt:=top 21
theorem d9:aE ["code","level","x","y","sign","quarter","wide"] ["code","level"] (aq qB):={}
inductive rT  (vs:List V)(H:Hp)(Q:VK):Prop
 | mk (z:Str) (n:Nat) (h_0:vs=[.str z,.int n]) (h_1:IsC z) (h_2:z.length≤n) (h_3:n≤40) (h_4:∀ p H',ak H H'→H' p=some (.tup [.int ((cxs (dig z) * 2 ^ (n - z.length):Nat):Int),.int ((cys (dig z) * 2 ^ (n - z.length):Nat):Int),.int ((2 ^ (n - z.length):Nat):Int)])→Q (.ref p) H'):rT  vs H Q
def kE:Sp:=fun vs H Q _=>rT  vs H Q
theorem AN (T:Tx K mg)(q:bW CX)(F:bE K "corner" "corner" qB f fd .none)(G:Fok P w K mg base CX 2 "need_code" ["code"] [] fW)(B:Fok P w K mg base CX 3 "need_level" ["level","least"] [] dI)
  (J:Fok P w K mg base CX 1 "width_of" ["level"] [] gZ):bF P w K mg base CX 4 f fd ["code","level"] kE:=by
 refine F.ok d9 (fun vs H Q E h =>?_) (fun a0 A outer s H vs Q E O h =>?_)
 ·obtain⟨_,_,rfl,_⟩:=h;rfl
 obtain⟨z,n,rfl,hz,hl,hn,q'⟩:=h;refine⟨_,(ac (ba (aj G q O (aa (pv 0) af))) (ac (ba (aj B q O (aa (pv 1) (aa (az bC rfl T.b_len cW (aa (pv 0) af)) af)))) (ac (ao (i:=2) d9 ae) (ac (ao (i:=3) d9 ae) (ac (aR Jm rfl (nU (pv 0)) (aY (i:=4) d9) (ac (ao (i:=5) d9 (bL eQ rfl T.b_int eU (aa (pv 4) af))) (ac (ao (i:=2) d9 (ai aI (ai bq (pv 2) ae) (ai aN (pv 5) ae))) (ag (ao (i:=3) d9 (ai aI (ai bq (pv 3) ae) (ai aL (pv 5) ae))))))) (ac (ao (i:=6) d9 (aj J q O (aa (ai fq (pv 1) (az bC rfl T.b_len cW (aa (pv 0) af))) af))) (ag (aB (aF (av (ai bq (pv 2) (pv 6)) (av (ai bq (pv 3) (pv 6)) (av (pv 6) au)))))))))))),?_⟩;have hs:z.length≤sizeLine:=small (by lia);refine⟨z,rfl,hz,by lia,fun H1 s1 =>?_⟩;refine⟨_,_,rfl,⟨hs,rfl⟩,(n:Int),(z.length:Int),rfl,by simp,by lia,by lia,?_⟩;refine⟨z,rfl,gn (fun i σ H2=>H2=H1∧∃ x y U Y,x=((cxs ((dig z).take i):Nat):Int)∧y=((cys ((dig z).take i):Nat):Int)∧σ=[some (.str z),some (.int n),some (.int x),some (.int y),U,Y,none]) ⟨rfl,0,0,none,none,rfl,rfl,rfl⟩ ?_ ?_⟩
 ·rintro i σ H2 hi ⟨rfl,x,y,U,Y,rfl,rfl,rfl⟩;obtain⟨d,hd,e1,e2⟩:=kG hz hi;refine⟨_,(d:Int),rfl,by rw[e1];exact mS hd,by rw[e1];show 1≤640;decide,?_⟩;refine⟨.inr ⟨by decide,by decide⟩,(by show (0:Int) < 2;decide),?_⟩;refine⟨.inr ⟨by decide,by decide⟩,cm (by decide) (by decide),?_⟩;refine⟨rfl,_,_,_,_,?_,?_,rfl⟩
  ·rw[m_ hi,wW,e2];rfl
  ·rw[m_ hi,wU,e2];rfl
 ·rintro σ H2 ⟨rfl,x,y,U,Y,rfl,rfl,rfl⟩;have et:(dig z).take z.length=dig z:=Ji (by rw[cN];exact I_ _);rw[et];have e:(n:Int) - (z.length:Int)=((n - z.length:Nat):Int):=by lia
  refine⟨_,_,rfl,⟨hs,rfl⟩,n - z.length,(by show [V.int _]=[V.int _];rw[e]),by lia,?_⟩;have hw:=IE (k:=n - z.length) (by lia);refine⟨.inr hw,.inr hw,(leZ rfl),fun p hp =>?_⟩;refine q' p _ (s1.trans (ak.new hp _)) ?_;rw[ah,KA,KA]
end
theorem q8 (h:k < n):(low n x y).take (k + 1)=(low n x y).take k++[dgt x y (n - 1 - k)]:=by
 rw[Jw]
 congr 1
 simp[low,h]
theorem Ez (ds:List Nat)(k:Nat):pre (txt ds) k=txt (ds.take k):=by
 unfold pre txt;simp[List.map_take]
theorem zU (B:x < 2 ^ n):∀ k,k≤n→cxs ((low n x y).take k)=x / 2 ^ (n - k)
 | 0,_=>by rw[Lo,Nat.div_eq_of_lt B];rfl
 | k + 1,h=>by
  rw[q8 (by assumption),wW,zU B k (by lia)];have e:n - k=(n - (k + 1)) + 1:=by lia
  have G:n - 1 - k=n - (k + 1):=by lia
  rw[e,← pZ,G];unfold dgt
  lia
theorem zT (B:y < 2 ^ n):∀ k,k≤n→cys ((low n x y).take k)=y / 2 ^ (n - k)
 | 0,_=>by rw[Lo,Nat.div_eq_of_lt B];rfl
 | k + 1,h=>by
  rw[q8 (by assumption),wU,zT B k (by lia)];have e:n - k=(n - (k + 1)) + 1:=by lia
  have G:n - 1 - k=n - (k + 1):=by lia
  rw[e,← pZ,G];unfold dgt
  lia
section
variable {P:Pg9}{w:Wd9}{K:Frag}{mg:Mg9}{base:Heap}{CX:CXT}{f:Addr}{fd:Fd9}
abbrev nI:Stmt:=top 29
theorem fj:aE ["sheet","x","y","code","tree","signs"] ["sheet","x","y"] (aq nI):={}
inductive oO  (vs:List V)(H:Hp)(Q:VK):Prop
 | mk (v:V) (t:Tr) (n x y:Nat) (h_0:vs=[v,.int x,.int y]) (h_1:DT H v n t) (h_2:aQ n t) (h_3:n≤40) (h_4:x < 2 ^ n) (h_5:y < 2 ^ n) (h_6:∀ (i:Nat) (c:Int) H',ak H H'→i≤n→jK t ((low n x y).take i)=some (.col c)→Q (.str (txt ((low n x y).take i))) H'):oO  vs H Q
def lK:Sp:=fun vs H Q _=>oO  vs H Q
theorem x8 (T:Tx K mg)(q:bW CX)(F:bE K "leaf_at" "leaf_at" nI f fd .none)(B:Fok P w K mg base CX 4 "code_at" ["x","y","level"] [] qw):bF P w K mg base CX 5 f fd ["sheet","x","y"] lK:=by
 refine F.ok fj (fun vs H Q E h =>?_) (fun a1 A outer s H vs Q E hr h =>?_)
 ·obtain⟨_,_,_,_,_,rfl,_⟩:=h;rfl
 obtain⟨v,t,n,x,y,rfl,⟨p,vt,rfl,hp,ht⟩,gt,hn,hx,hy,q'⟩:=h;refine⟨_,(ac (ao (i:=3) fj (aj B q hr (aa (pv 1) (aa (pv 2) (aa (ay aD (pv 0) ae) af))))) (ac (ao (i:=4) fj (ay aD (pv 0) ae)) (ac (ao (i:=5) fj ae) (ac (jX Jm (eG (az (cV "tuple") rfl T.b_isinstance bv (aa (pv 4) (aa (gR T.b_tuple iR) af)))) (ac (ao (i:=4) fj (ay aD (pv 4) (bL eQ rfl T.b_int eU (aa (ay j7 (pv 3) (pv 5)) af)))) (ag (ao (i:=5) fj (ai aI (pv 5) ae))))) (ag (aB (c9 i8 (pv 3) fB (di (pv 5))))))))),?_⟩
 have zs:(txt (low n x y)).length≤sizeLine:=by rw[fA,uZ];exact small (by lia)
 refine⟨p,_,_,_,rfl,rfl,SqT.of hp,rfl,x,y,n,rfl,hn,hx,hy,fun H1 s1 =>?_⟩;refine⟨p,_,_,_,rfl,rfl,SqT.of (s1 _ _ hp),rfl,?_⟩;refine qf (fun σ H2=>H2=H1∧∃ (i:Nat) (v':V) (t':Tr),i≤n∧bS H1 v' t'∧jK t ((low n x y).take i)=some t'∧aQ (n - i) t'∧σ=[some (.ref p),some (.int x),some (.int y),some (.str (txt (low n x y))),some v',some (.int (i:Int))]) (fun σ H2=>match σ with | [_,_,_,_,_,some (.int i)]=>n - i.toNat | _=>0) ⟨rfl,0,vt,t,Je _,ht.up s1.tups,rfl,gt,rfl⟩ ?_ ?_
 ·rintro σ H2 ⟨rfl,i,v',t',hi,a0,J,G,rfl⟩;cases a0 with
  | col j =>
   refine⟨_,_,_,rfl,.int j,n8,aA (fS ?_)⟩;refine⟨_,rfl,_,rfl,zs,?_⟩;rw[d8,Ez];exact q' i j H2 s1 hi J
  | @four r xa xb xc xd ta tb tc td e ja jb jc jd =>
   have O:i < n:=by
    rcases KW i n with z|z
    ·exact z
    ·rw[show n - i=0 by lia]at G;exact G.elim
   have ed:(low n x y).take (i + 1)=(low n x y).take i++[dgt x y (n - 1 - i)]:=q8 O;have hd:dgt x y (n - 1 - i) < 4:=yz ..;have ga:(low n x y)[i]? = some (dgt x y (n - 1 - i)):=by simp[low,O]
   generalize dgt x y (n - 1 - i)=d at *;rw[show n - i=(n - (i + 1)) + 1 by lia]at G;obtain⟨g1,g2,g3,g4,_⟩:=G;have key:∃ U,atI [xa,xb,xc,xd] (d:Int)=some U∧bS H2 U (qk (.four ta tb tc td) d)∧aQ (n - (i + 1)) (qk (.four ta tb tc td) d):=by
    rcases d with _|_|_|_|d
    ·exact⟨xa,rfl,ja,g1⟩
    ·exact⟨xb,rfl,jb,g2⟩
    ·exact⟨xc,rfl,jc,g3⟩
    ·exact⟨xd,rfl,jd,g4⟩
    ·lia
   obtain⟨U,ex,kx,gx⟩:=key;have at':atI (txt (low n x y)).cps.toList (i:Int)=some (48 + d):=bV (by show (((low n x y).map (48 + ·)).toArray).toList[i]? = _;simp[ga]);refine⟨_,_,_,rfl,.tup e,n6,aA (mR ?_)⟩;refine⟨_,i,48 + d,rfl,rfl,zs,at',_,(d:Int),rfl,mS hd,by show (1:Nat)≤640;decide,r,_,_,U,rfl,rfl,SqT.of e,ex,?_⟩;refine⟨⟨rfl,i + 1,U,_,by assumption,kx,?_,gx,by simp⟩,?_⟩
   ·rw[ed,qU,J];rfl
   ·show n - ((i:Int) + 1).toNat < n - ((i:Int)).toNat
    lia
 ·rintro σ H2 Q1 Q2 k h;have Y:=h;obtain⟨_,e1,Y⟩:=aM Y;obtain⟨b,c,d,e2,e3,e4,Y⟩:=Y;obtain⟨_,f1,f2⟩:=fC Y;exact (aZ e1 ⟨b,c,d,e2,e3,e4,lZ f1 (k _ _ f2)⟩)
end
abbrev Pt:Type:=Int × Int
abbrev LP9:=List (Pt × Nat)
abbrev PD9:=Pt→Nat→Option Pt
def ux (d:Nat):Int:=if d=0 then 1 else if d=2 then -1 else 0
def uy (d:Nat):Int:=if d=1 then 1 else if d=3 then -1 else 0
def rtx (d:Nat):Int:=if d=1∨d=2 then -1 else 0
def rty (d:Nat):Int:=if d=2∨d=3 then -1 else 0
def go (a:Pt)(k:Nat)(d:Nat):Pt:=(a.1 + k * ux d,a.2 + k * uy d)
def cl (C:II9)(p:Pt)(d:Nat):Prop:=C (p.1 + rtx d) (p.2 + rty d)
def Bd (C:II9)(p:Pt)(d:Nat):Prop:=cl C p d∧¬ cl C p ((d + 3) % 4)
theorem de (h:d < 4):d=0∨d=1∨d=2∨d=3:=by lia
theorem mU (a:Pt)(d:Nat):go a 0 d=a:=by simp[go]
theorem rg (a:Pt)(k j d:Nat):go (go a k d) j d=go a (k + j) d:=by
 refine Prod.ext ?_ ?_<;>simp only[go,K6,LX]<;>lia
theorem rf (B:d < 4)(h:go a k d=go a j d):k=j:=by
 have h1:=Jz Prod.fst h;have h2:=Jz Prod.snd h;rcases de B with rfl | rfl | rfl | rfl<;>simp[go,ux,uy]at h1 h2<;>lia
theorem tG (h:go a k d=go b k d):a=b:=by
 have h1:=Jz Prod.fst h;have h2:=Jz Prod.snd h;simp only[go]at h1 h2;exact Prod.ext (by lia) (by lia)
theorem HK (B:d < 4)(h:go a 1 d=p):Bd C a d↔cl C p ((d + 1) % 4)∧¬ cl C p ((d + 2) % 4):=by
 subst h;unfold Bd cl;rcases de B with rfl | rfl | rfl | rfl<;>simp[go,ux,uy,rtx,rty,Mc]
structure Pcs (C:II9)(D:PD9):Prop where
 way:∀ {a d e},D a d=some e→d < 4
 len:∀ {a d e},D a d=some e→∃ l:Nat,0 < l∧e=go a l d∧∀ k < l,Bd C (go a k d) d
 all:∀ {p d},d < 4→Bd C p d→∃ a l k,D a d=some (go a l d)∧k < l∧p=go a k d
 one:∀ {a b d l m k j},D a d=some (go a l d)→D b d=some (go b m d)→k < l→j < m→go a k d=go b j d→a=b
def turn (C:II9)(p:Pt)(d:Nat)(e:Nat):Prop:=(¬ cl C p d∧e=(d + 1) % 4)∨(cl C p d∧¬ cl C p ((d + 3) % 4)∧e=d)∨(cl C p d∧cl C p ((d + 3) % 4)∧e=(d + 3) % 4)
section
variable {C:II9}{D:PD9}
theorem Pcs.last (h:Pcs C D)(e:D a d=some p):∃ l b,p=go a (l + 1) d∧b=go a l d∧go b 1 d=p∧(cl C p ((d + 1) % 4)∧¬ cl C p ((d + 2) % 4)):=by
 obtain⟨l,J,ep,G⟩:=h.len e;obtain⟨m,rfl⟩:∃ m,l=m + 1:=⟨l - 1,by lia⟩;have B:go (go a m d) 1 d=p:=by rw[rg];exact ep.symm
 exact⟨m,_,ep,rfl,B,(HK (h.way e) B).mp (G m (by simp))⟩
theorem Pcs.begins (h:Pcs C D)(B:d < 4)(hb:Bd C p d)(G:¬ (cl C p ((d + 1) % 4)∧¬ cl C p ((d + 2) % 4))∨∃ a,D a d=some p):(D p d).isSome=true:=by
 obtain⟨a,l,k,e,hk,ep⟩:=h.all B hb;by_cases k0:k=0
 ·subst k0;rw[ep,mU,e];rfl
 exfalso
 obtain⟨j,rfl⟩:∃ j,k=j + 1:=⟨k - 1,by lia⟩;have O:go (go a j d) 1 d=p:=by rw[rg];exact ep.symm
 rcases G with G|⟨b,J⟩
 ·obtain⟨l',_,e2,hB⟩:=h.len e;have e3:=rf B e2;exact G ((HK B O).mp (hB j (by lia)))
 ·obtain⟨m,b',U,e5,e6,_⟩:=h.last J;have Y:go a j d=go b m d:=by rw[← e5];exact tG (O.trans e6.symm)
  have e8:=h.one e (by rw[← U];exact J) (show j < l by lia) (show m < m + 1 by simp) Y;subst e8;rw[J]at e;have e9:=rf B (U.symm.trans (Option.some.inj e));have a0:=rf B Y
  lia
theorem Pcs.first (h:Pcs C D)(e:(D p d).isSome=true):d < 4∧Bd C p d:=by
 obtain⟨q,e⟩:=JG.mp e;obtain⟨l,B,_,G⟩:=h.len e
 have:=G 0 B
 rw[mU]at this;exact⟨h.way e,this⟩
def nx (D:PD9)(x:Pt × Nat):Pt × Nat:=match D x.1 x.2 with
 | none=>x
 | some p=>if (D p ((x.2 + 1) % 4)).isSome=true then (p,(x.2 + 1) % 4) else if (D p x.2).isSome=true then (p,x.2) else (p,(x.2 + 3) % 4)
theorem pS (e:D a d=some p):nx D (a,d)=if (D p ((d + 1) % 4)).isSome=true then (p,(d + 1) % 4) else if (D p d).isSome=true then (p,d) else (p,(d + 3) % 4):=by
 unfold nx;dsimp only;rw[e]
theorem kL (h:Pcs C D)(e:D a d=some p):∃ e',nx D (a,d)=(p,e')∧(D p e').isSome=true∧turn C p d e'∧e' < 4:=by
 have B:=h.way e;obtain⟨l,b,e1,e2,e3,G,J⟩:=h.last e;rw[pS e];have O:((d + 1) % 4 + 3) % 4=d:=by omega
 have Y:((d + 1) % 4 + 1) % 4=(d + 2) % 4:=by simp
 have m3:((d + 3) % 4 + 3) % 4=(d + 2) % 4:=by lia
 have m4:((d + 3) % 4 + 1) % 4=d:=by omega
 have m5:((d + 3) % 4 + 2) % 4=(d + 1) % 4:=by lia
 by_cases q1:(D p ((d + 1) % 4)).isSome=true
 ·rw[if_pos q1]
  have:=(h.first q1).2.2
  rw[O]at this;exact⟨_,rfl,q1,.inl ⟨this,rfl⟩,by lia⟩
 rw[if_neg q1];have cd:cl C p d:=Classical.byContradiction fun n=>q1 (h.begins (by lia) ⟨G,by rw[O];exact n⟩ (.inl fun k=>J (by rw[Y]at k;exact k.1)));by_cases q2:(D p d).isSome=true
 ·rw[if_pos q2];exact⟨_,rfl,q2,.inr (.inl ⟨cd,(h.first q2).2.2,rfl⟩),B⟩
 rw[if_neg q2];have U:cl C p ((d + 3) % 4):=Classical.byContradiction fun n=>q2 (h.begins B ⟨cd,n⟩ (.inr ⟨a,e⟩));refine⟨_,rfl,h.begins (by lia) ⟨U,by rw[m3];exact J⟩ (.inl fun k=>k.2 (by rw[m5];exact G)),.inr (.inr ⟨cd,U,rfl⟩),by lia⟩
theorem Aj (h:d < 4)(h':d' < 4)(U:cl C p ((d + 1) % 4))(Y:¬ cl C p ((d + 2) % 4))(b1:cl C p ((d' + 1) % 4))(b2:¬ cl C p ((d' + 2) % 4))(t:turn C p d e)(t':turn C p d' e):d=d':=by
 unfold turn at t t';rcases de h with rfl | rfl | rfl | rfl<;>rcases de h' with rfl | rfl | rfl | rfl<;>first
  | rfl
  | (exfalso
     simp only[Nat.reduceAdd,Nat.reduceMod]at U Y b1 b2 t t';generalize cl C p 0=c0 at *;generalize cl C p 1=c1 at *;generalize cl C p 2=c2 at *;generalize cl C p 3=c3 at *;rcases t with⟨B,G⟩ | ⟨B,t3,G⟩ | ⟨B,t3,G⟩<;>rcases t' with⟨J,O⟩ | ⟨J,u3,O⟩ | ⟨J,u3,O⟩<;>first | contradiction | lia)
theorem Gn (h:Pcs C D)(G:(D x.1 x.2).isSome=true)(J:(D y.1 y.2).isSome=true)(e:nx D x=nx D y):x=y:=by
 obtain⟨a,d⟩:=x;obtain⟨b,d'⟩:=y;obtain⟨p,ep⟩:=JG.mp G;obtain⟨q,B⟩:=JG.mp J;dsimp only at ep B;obtain⟨e1,O,_,U,_⟩:=kL h ep;obtain⟨e2,Y,_,t2,_⟩:=kL h B;rw[O,Y]at e;injection e with k1 k2;subst k1 k2;obtain⟨l,b1,f1,f2,f3,c1,c2⟩:=h.last ep;obtain⟨m,b2,g1,g2,g3,c3,c4⟩:=h.last B;have dd:=Aj (h.way ep) (h.way B) c1 c2 c3 c4 U t2;subst dd;have e7:go a l d=go b m d:=by rw[← f2,← g2];exact tG (f3.trans g3.symm)
 have:=h.one (by rw[← f1];exact ep) (by rw[← g1];exact B) (LK l) (LK m) e7
 rw[this]
end
def it {α:Type}(f:α→α):Nat→α→α
 | 0,a=>a
 | n + 1,a=>f (it f n a)
theorem n_ (f:α→α)(a:α)(i:Nat):∀ j,it f j (it f i a)=it f (i + j) a
 | 0=>rfl
 | j + 1=>by
  show f (it f j (it f i a))=f (it f (i + j) a);rw[n_ f a i j]
theorem n9 {α:Type}{f:α→α}{S:α→Prop}(B:∀ a,S a→S (f a)){a:α}(h:S a):∀ n,S (it f n a)
 | 0=>h
 | n + 1=>B _ (n9 B h n)
theorem C6 {α:Type}{f:α→α}{S:α→Prop}(B:∀ a,S a→S (f a))(hi:∀ a b,S a→S b→f a=f b→a=b){a b:α}(G:S a)(J:S b):∀ n,it f n a=it f n b→a=b
 | 0,e=>e
 | n + 1,e=>C6 B hi G J n (hi _ _ (n9 B G n) (n9 B J n) e)
theorem kM [DecidableEq α]:∀ {l S:List α},l.Nodup→(∀ x∈l,x∈S)→l.length≤S.length
 | [],_,_,_=>Je _
 | x::l,S,nd,h=>by
  obtain⟨J,O⟩:=Kn.mp nd;have B:=h x Jg
  have:=kM (l:=l) (S:=S.erase x) O fun y G=>(LQ (fun (e:y=x)=>J (by rw[← e];exact G))).mpr (h y (Ja _ G))
  rw[List.length_erase_of_mem B]at this
  have:=Ly B
  simp only[Jv]
  lia
theorem HF {P:Nat→Prop}{n:Nat}(h:P n):∃ m,P m∧m≤n∧∀ k < m,¬ P k:=by
 induction n using Nat.strongRecOn with
 | ind n ih =>
  by_cases c:∃ k,k < n∧P k
  ·obtain⟨k,B,G⟩:=c;obtain⟨m,h1,h2,J⟩:=ih k B G;exact⟨m,h1,by lia,J⟩
  ·exact⟨n,h,I_ _,fun k B G=>c ⟨k,B,G⟩⟩
theorem Hr {α:Type}[DecidableEq α]{f:α→α}{S:List α}(G:∀ a∈S,f a∈S)(hi:∀ a b,a∈S→b∈S→f a=f b→a=b){a:α}(J:a∈S):
  ∃ N,0 < N∧N≤S.length∧(it f N a=a∧∀ i j,i < j→j < N→it f i a≠it f j a):=by
 have mem:∀ n,it f n a∈S:=n9 (S:=(· ∈ S)) G J;have back:∀ i j,i < j→it f i a=it f j a→it f (j - i) a=a:=fun i j B e=>by
  have:it f i (it f (j - i) a)=it f i a:=by rw[n_,show j - i + i=j by lia];exact e.symm
  exact C6 (S:=(· ∈ S)) G hi (mem _) J i this
 have ex:∃ i j,i < j∧j≤S.length∧it f i a=it f j a:=Classical.byContradiction fun O=>by
  have nd:((List.range (S.length + 1)).map fun k=>it f k a).Nodup:=by
   unfold List.Nodup;rw[JN]
   have:(List.range (S.length + 1)).Pairwise fun x y=>x < y∧y≤S.length:=by
    rw[Km];intro i j hi hj B;simp at hi hj ⊢
    lia
   exact this.imp fun {x y} h e=>O ⟨x,y,h.1,h.2,e⟩
  have:=kM (S:=S) nd fun x U=>by
   obtain⟨k,_,rfl⟩:=I9.mp U;exact mem k
  simp at this
  lia
 obtain⟨i,j,B,hj,e⟩:=ex;have Y:0 < j - i∧it f (j - i) a=a:=⟨by lia,back i j B e⟩;obtain⟨N,⟨h1,h2⟩,h3,h4⟩:=HF (P:=fun n=>0 < n∧it f n a=a) Y;refine⟨N,h1,by lia,h2,fun i j B a0 e =>?_⟩;exact h4 (j - i) (by lia) ⟨by lia,back i j B e⟩
def axd (d:Nat):Bool:=decide (d=0∨d=2)
def sgd (d:Nat):Bool:=decide (d=0∨d=3)
def InS (q:Sq)(x y:Int):Prop:=(q.x:Int)≤x∧x < q.x + q.w∧(q.y:Int)≤y∧y < q.y + q.w
def tlo (q:Sq)(d:Nat):Int:=if axd d then q.x else q.y
def dG (L:List Sq)(q:Sq)(d:Nat):List Sq:=L.filter fun r=>dM (axd d) (sgd d) q r.x r.y r.w
def bD (L:List Sq)(q:Sq)(d:Nat):List (Int × Int):=if dG L q d=[] then [(tlo q d,tlo q d + q.w)] else ((dG L q d).filter fun r=>decide (r.c≠q.c)).map fun r=>(max (tlo q d) (tlo r d),min (tlo q d + q.w) (tlo r d + r.w))
def bd (q:Sq)(d:Nat)(be:Int × Int):Pt × Pt :=
 if d=0 then ((be.1,q.y),(be.2,q.y)) else if d=1 then ((q.x + q.w,be.1),(q.x + q.w,be.2)) else if d=2 then ((be.2,q.y + q.w),(be.1,q.y + q.w)) else ((q.x,be.2),(q.x,be.1))
def gen (q:Sq)(d:Nat)(be:Int × Int):NK × Pt:=(((bd q d be).1,(d:Int)),(bd q d be).2)
def G1 (L:List Sq)(q:Sq)(d:Nat):List (NK × Pt):=(bD L q d).map (gen q d)
def GL (L M:List Sq):List (NK × Pt):=M.flatMap fun q=>(List.range 4).flatMap fun d=>G1 L q d
theorem ju:p∈GL L M↔∃ q∈M,∃ d,d < 4∧∃ B∈bD L q d,p=gen q d B:=by
 unfold GL G1;simp only[LM,I9,Ke];constructor
 ·rintro⟨q,G,d,J,B,O,rfl⟩;exact⟨q,G,d,J,B,O,rfl⟩
 ·rintro⟨q,G,d,J,B,O,rfl⟩;exact⟨q,G,d,J,B,O,rfl⟩
def rcx (q:Sq)(d:Nat)(t:Int):Int:=if d=0∨d=2 then t else if d=1 then q.x + q.w - 1 else q.x
def rcy (q:Sq)(d:Nat)(t:Int):Int:=if d=1∨d=3 then t else if d=2 then q.y + q.w - 1 else q.y
def lcx (q:Sq)(d:Nat)(t:Int):Int:=if d=0∨d=2 then t else if d=1 then q.x + q.w else q.x - 1
def lcy (q:Sq)(d:Nat)(t:Int):Int:=if d=1∨d=3 then t else if d=2 then q.y + q.w else q.y - 1
structure Lnd (L M:List Sq)(W:Int)(col:Int):Prop where
 pos:∀ q∈L,0 < q.w
 apart:∀ q∈L,∀ r∈L,∀ x y,InS q x y→InS r x y→q=r
 cover:∀ x y,0≤x→x < W→0≤y→y < W→∃ q∈L,InS q x y
 inside:∀ q∈L,(q.x:Int) + q.w≤W∧(q.y:Int) + q.w≤W
 sub:∀ q∈M,q∈L
 colour:∀ q∈M,q.c=col
 closed:∀ q∈M,∀ r∈L,∀ d,d < 4→dM (axd d) (sgd d) q r.x r.y r.w=true→r.c=col→r∈M
def CM (M:List Sq)(x y:Int):Prop:=∃ q∈M,InS q x y
theorem jo (B:d < 4):dM (axd d) (sgd d) q r.x r.y r.w=true ↔
  (if d=0 then r.y + r.w=q.y else if d=1 then r.x=q.x + q.w else if d=2 then r.y=q.y + q.w else r.x + r.w=q.x)∧tlo q d < tlo r d + r.w∧tlo r d < tlo q d + q.w:=by
 unfold dM;rw[JV];unfold fV;rcases de B with rfl | rfl | rfl | rfl<;>simp[axd,sgd,nC,tC',tlo]<;>omega
theorem lin {q r:Sq}{d:Nat}{t:Int}(O:d < 4)(hl:dM (axd d) (sgd d) q r.x r.y r.w=true)(h1:tlo r d≤t)(h2:t < tlo r d + r.w):InS r (lcx q d t) (lcy q d t):=by
 have hl:=((jo O).mp hl).1;unfold InS;rcases de O with rfl | rfl | rfl | rfl<;>simp[lcx,lcy,tlo,axd]at hl h1 h2 ⊢<;>lia
theorem rin {q:Sq}{d:Nat}{t:Int}(O:d < 4)(h1:tlo q d≤t)(h2:t < tlo q d + q.w):InS q (rcx q d t) (rcy q d t):=by
 unfold InS;rcases de O with rfl | rfl | rfl | rfl<;>simp[rcx,rcy,tlo,axd]at h1 h2 ⊢<;>lia
section
variable {L M:List Sq}{W col:Int}
theorem Lnd.lies (h:Lnd L M W col)(U:q∈L)(J:r∈L)(O:d < 4)(Y:tlo q d≤t∧t < tlo q d + q.w)(hi:InS r (lcx q d t) (lcy q d t)):r∈dG L q d∧tlo r d≤t∧t < tlo r d + r.w:=by
 have hw:=h.pos q U;have B:=rin O Y.1 Y.2
 have G:¬ InS r (rcx q d t) (rcy q d t):=fun c=>by
  have e:=h.apart q U r J _ _ B c;subst e;unfold InS at hi;rcases de O with rfl | rfl | rfl | rfl<;>simp[lcx,lcy]at hi<;>omega
 have a0:∀ x y,InS q x y→¬ InS r x y:=fun x y hx c=>by
  have e:=h.apart q U r J _ _ hx c;subst e;exact G B
 have rw':=h.pos r J;unfold dG;rw[JH,jo O];unfold InS at hi G B;rcases de O with rfl | rfl | rfl | rfl<;>simp[lcx,lcy,rcx,rcy,tlo,axd]at hi G Y ⊢<;>refine⟨⟨J,?_⟩,?_⟩<;>lia
theorem Lnd.bare (h:Lnd L M W col)(Y:q∈M)(O:d < 4)(U:be∈bD L q d):be.1 < be.2∧∀ t,be.1≤t→t < be.2→tlo q d≤t∧t < tlo q d + q.w∧CM M (rcx q d t) (rcy q d t)∧¬ CM M (lcx q d t) (lcy q d t):=by
 have hL:=h.sub q Y;have hw:=h.pos q hL;have rc:∀ t,tlo q d≤t→t < tlo q d + q.w→CM M (rcx q d t) (rcy q d t):=fun t h1 h2=>⟨q,Y,rin O h1 h2⟩
 unfold bD at U
 split at U
 ·rename_i e
  have:=Jc.mp U
  subst this;refine⟨by dsimp only;lia,fun t h1 h2=>⟨h1,h2,rc t h1 h2,?_⟩⟩;rintro⟨r,hr,hi⟩
  have:=(h.lies hL (h.sub r hr) O ⟨h1,h2⟩ hi).1
  rw[e]at this;cases this
 ·obtain⟨r,hr,rfl⟩:=I9.mp U;obtain⟨B,a0⟩:=JH.mp hr;have G:r∈L:=(JH.mp B).1;have hl:=(jo O).mp (JH.mp B).2;have a1:r.c≠q.c:=JB a0;have a3:=h.pos r G;refine⟨by dsimp only;omega,fun t h1 h2 =>?_⟩;dsimp only at h1 h2;have k1:=Int.le_trans (Int.le_max_left ..) h1;have k2:=Int.lt_of_lt_of_le h2 (Int.min_le_left ..);refine⟨k1,k2,rc t k1 k2,?_⟩;rintro⟨r',J,hi⟩;have a2:=lin O (JH.mp B).2 (Int.le_trans (Int.le_max_right ..) h1) (Int.lt_of_lt_of_le h2 (Int.min_le_right ..));have e:=h.apart r' (h.sub r' J) r G _ _ hi a2;subst e;exact a1 ((h.colour r' J).trans (h.colour q Y).symm)
theorem Lnd.part_one (h:Lnd L M W col)(hq:q∈M)(h4:d < 4)(U:be∈bD L q d)(B:be'∈bD L q d)(ht:be.1≤t∧t < be.2)(G:be'.1≤t∧t < be'.2):be=be':=by
 have hL:=h.sub q hq;unfold bD at U B
 split at U
 ·rename_i e
  rw[if_pos e]at B;rw[Jc.mp U,Jc.mp B]
 ·rename_i e
  rw[if_neg e]at B;obtain⟨r,Y,rfl⟩:=I9.mp U;obtain⟨r',a0,rfl⟩:=I9.mp B;have go:∀ r,r∈(dG L q d).filter (fun r=>decide (r.c≠q.c))→max (tlo q d) (tlo r d)≤t→t < min (tlo q d + q.w) (tlo r d + r.w)→r∈L∧InS r (lcx q d t) (lcy q d t):=fun r Y h1 h2=>by
   have J:=JH.mp (JH.mp Y).1;exact⟨J.1,lin h4 J.2 (Int.le_trans (Int.le_max_right ..) h1) (Int.lt_of_lt_of_le h2 (Int.min_le_right ..))⟩
  obtain⟨a1,a2⟩:=go r Y ht.1 ht.2;obtain⟨b1,b2⟩:=go r' a0 G.1 G.2;rw[h.apart r a1 r' b1 _ _ a2 b2]
theorem Lnd.part_of (h:Lnd L M W col)(G:q∈M)(B:d < 4)(h1:tlo q d≤t)(h2:t < tlo q d + q.w)(Y:¬ CM M (lcx q d t) (lcy q d t)):∃ be∈bD L q d,be.1≤t∧t < be.2:=by
 have J:=h.sub q G;have hw:=h.pos q J;obtain⟨i1,i2⟩:=h.inside q J;unfold bD;by_cases e:dG L q d=[]
 ·rw[if_pos e];exact⟨_,Jc.mpr rfl,h1,h2⟩
 ·rw[if_neg e];obtain⟨o,ho⟩:=List.exists_mem_of_ne_nil _ e;obtain⟨O,o2⟩:=JH.mp ho;have ol:=(jo B).mp o2;obtain⟨j1,j2⟩:=h.inside o O;have ow:=h.pos o O;obtain⟨r,U,hi⟩:∃ r∈L,InS r (lcx q d t) (lcy q d t):=by
   refine h.cover _ _ ?_ ?_ ?_ ?_<;>rcases de B with rfl | rfl | rfl | rfl<;>simp[lcx,lcy,tlo,axd]at ol h1 h2 ⊢<;>lia
  obtain⟨k1,k2,k3⟩:=h.lies J U B ⟨h1,h2⟩ hi;have hc:r.c≠q.c:=fun c=>Y ⟨r,h.closed q G r U d B (JH.mp k1).2 (c.trans (h.colour q G)),hi⟩;exact⟨_,I9.mpr ⟨r,JH.mpr ⟨k1,Jd hc⟩,rfl⟩,by dsimp only;lia,by dsimp only;lia⟩
def jJ (d:Nat)(be:Int × Int)(k:Nat):Int:=if d=0∨d=1 then be.1 + k else be.2 - 1 - k
theorem rh (G:d < 4)(B:Int × Int)(k:Nat):(go (bd q d B).1 k d).1 + rtx d=rcx q d (jJ d B k)∧(go (bd q d B).1 k d).2 + rty d=rcy q d (jJ d B k)∧(go (bd q d B).1 k d).1 + rtx ((d + 3) % 4)=lcx q d (jJ d B k)∧(go (bd q d B).1 k d).2 + rty ((d + 3) % 4)=lcy q d (jJ d B k):=by
 rcases de G with rfl|rfl|rfl|rfl<;>simp[go,ux,uy,rtx,rty,bd,rcx,rcy,lcx,lcy,jJ]<;>lia
theorem pU (B:d < 4)(h:be.1 < be.2):(bd q d be).2=go (bd q d be).1 (be.2 - be.1).toNat d:=by
 have e:((be.2 - be.1).toNat:Int)=be.2 - be.1:=by lia
 rcases de B with rfl|rfl|rfl|rfl<;>refine Prod.ext ?_ ?_<;>simp[go,ux,uy,bd,e]<;>lia
theorem t_ (h:k < (be.2 - be.1).toNat):be.1≤jJ d be k∧jJ d be k < be.2:=by
 unfold jJ
 split<;>lia
theorem GG (h:Lnd L M W col)(G:q∈M)(B:d < 4)(J:be∈bD L q d)(O:k < (be.2 - be.1).toNat):Bd (CM M) (go (bd q d be).1 k d) d:=by
 obtain⟨U,Y,e3,e4⟩:=rh (q:=q) B be k;obtain⟨u1,u2⟩:=t_ (d:=d) O;obtain⟨_,_,c1,c2⟩:=(h.bare G B J).2 _ u1 u2;unfold Bd cl;rw[U,Y,e3,e4];exact⟨c1,c2⟩
theorem vj (h:Lnd L M W col)(O:q∈M)(G:q'∈M)(B:d < 4)(U:be∈bD L q d)(J:be'∈bD L q' d)(hk:k < (be.2 - be.1).toNat)(hj:j < (be'.2 - be'.1).toNat)(e:go (bd q d be).1 k d=go (bd q' d be').1 j d):q=q'∧be=be':=by
 obtain⟨Y,e2,_,_⟩:=rh (q:=q) B be k;obtain⟨f1,f2,_,_⟩:=rh (q:=q') B be' j;rw[e]at Y e2;have g1:rcx q d (jJ d be k)=rcx q' d (jJ d be' j):=Y.symm.trans f1;have g2:rcy q d (jJ d be k)=rcy q' d (jJ d be' j):=e2.symm.trans f2;obtain⟨u1,u2⟩:=t_ (d:=d) hk;obtain⟨v1,v2⟩:=t_ (d:=d) hj;have w1:=h.pos q (h.sub q O);have w2:=h.pos q' (h.sub q' G);obtain⟨a1,a2,_,_⟩:=(h.bare O B U).2 _ u1 u2;obtain⟨b1,b2,_,_⟩:=(h.bare G B J).2 _ v1 v2;have i1:InS q (rcx q d (jJ d be k)) (rcy q d (jJ d be k)):=by
  unfold InS;rcases de B with rfl | rfl | rfl | rfl<;>simp[rcx,rcy,tlo,axd]at a1 a2 ⊢<;>lia
 have i2:InS q' (rcx q d (jJ d be k)) (rcy q d (jJ d be k)):=by
  rw[g1,g2];unfold InS;rcases de B with rfl | rfl | rfl | rfl<;>simp[rcx,rcy,tlo,axd]at b1 b2 ⊢<;>lia
 have eq:=h.apart q (h.sub q O) q' (h.sub q' G) _ _ i1 i2;subst eq;have et:jJ d be k=jJ d be' j:=by
  rcases de B with rfl|rfl|rfl|rfl<;>simp[rcx,rcy]at g1 g2<;>omega
 exact⟨rfl,h.part_one O B U J ⟨u1,u2⟩ (et▸⟨v1,v2⟩)⟩
def DG (L M:List Sq)(a:Pt)(d:Nat):Option Pt:=((GL L M).find? fun p=>decide (p.1=(a,(d:Int)))).map (·.2)
theorem ou (h:DG L M a d=some e):((a,(d:Int)),e)∈GL L M:=by
 obtain⟨p,h1,rfl⟩:=JQ.mp h;have h2:=LW h1;have B:p.1=(a,(d:Int)):=JB h2;rw[← B];exact KZ h1
theorem rX (h:DG L M a d=some e):d < 4∧∃ q∈M,∃ B∈bD L q d,a=(bd q d B).1∧e=(bd q d B).2:=by
 obtain⟨q,J,d',O,B,U,G⟩:=ju.mp (ou h);unfold gen at G;simp only[Prod.mk.injEq]at G
 have:d=d':=by lia
 subst this;exact⟨O,q,J,B,U,G.1.1,G.2⟩
theorem go0 (a:Pt)(d:Nat):go a 0 d=a:=mU a d
theorem yJ (h:Lnd L M W col)(h1:(k,e)∈GL L M)(h2:(k,e')∈GL L M):e=e':=by
 obtain⟨q,Y,d,J,be,hb,O⟩:=ju.mp h1;obtain⟨q',B,d',a0,a1,G,U⟩:=ju.mp h2;unfold gen at O U;simp only[Prod.mk.injEq]at O U;obtain⟨rfl,rfl⟩:=O;obtain⟨e3,rfl⟩:=U;simp only[Prod.mk.injEq]at e3
 have:d=d':=by lia
 subst this;have l1:=(h.bare Y J hb).1;have l2:=(h.bare B J G).1;obtain⟨rfl,rfl⟩:=vj h Y B J hb G (k:=0) (j:=0) (by lia) (by lia) (by rw[go0,go0];exact e3.1);rfl
theorem FR (h:Lnd L M W col)(G:q∈M)(J:d < 4)(O:be∈bD L q d):DG L M (bd q d be).1 d=some (bd q d be).2:=by
 have B:gen q d be∈GL L M:=ju.mpr ⟨q,G,d,J,be,O,rfl⟩;cases e:DG L M (bd q d be).1 d with
 | none =>
  have:=(Option.map_eq_none_iff.mp e)
  have:=L1.mp this _ B
  exact absurd (Jd rfl) this
 | some p=>rw[yJ h (ou e) B]
theorem Ft {q:Sq}{p:Pt}{d:Nat}(G:d < 4){t:Int}(O:t=if d=0 then p.1 else if d=1 then p.2 else if d=2 then p.1 - 1 else p.2 - 1)(U:if d=0 then p.2=q.y else if d=1 then p.1=q.x + q.w else if d=2 then p.2=q.y + q.w else p.1=q.x){B:Int × Int}(h1:B.1≤t)(h2:t < B.2):∃ k,k < (B.2 - B.1).toNat∧p=go (bd q d B).1 k d:=by
 obtain⟨k,J⟩:∃ k:Nat,k=(if d=0∨d=1 then t - B.1 else B.2 - 1 - t).toNat:=⟨_,rfl⟩;refine⟨k,?_,Prod.ext ?_ ?_⟩
 ·rcases de G with rfl|rfl|rfl|rfl<;>simp at J ⊢<;>lia
 ·rcases de G with rfl|rfl|rfl|rfl<;>simp[go,ux,bd]at J O U ⊢<;>lia
 ·rcases de G with rfl|rfl|rfl|rfl<;>simp[go,uy,bd]at J O U ⊢<;>lia
theorem pcs (h:Lnd L M W col):Pcs (CM M) (DG L M) where
 way:=fun e=>(rX e).1
 len:=fun {a d e} he=>by
  obtain⟨B,q,J,G,O,rfl,rfl⟩:=rX he;have Y:=(h.bare J B O).1;exact⟨(G.2 - G.1).toNat,by lia,pU B Y,fun k hk=>GG h J B O hk⟩
 all:=fun {p d} B O=>by
  obtain⟨⟨q,J,hi⟩,hn⟩:=O;have hL:=h.sub q J;have hw:=h.pos q hL;have a0:¬ InS q (p.1 + rtx ((d + 3) % 4)) (p.2 + rty ((d + 3) % 4)):=fun c=>hn ⟨q,J,c⟩;unfold cl CM at hn;obtain⟨t,et⟩:∃ t,t=if d=0 then p.1 else if d=1 then p.2 else if d=2 then p.1 - 1 else p.2 - 1:=⟨_,rfl⟩
  have key:tlo q d≤t∧t < tlo q d + q.w∧p.1 + rtx ((d + 3) % 4)=lcx q d t∧p.2 + rty ((d + 3) % 4)=lcy q d t∧(if d=0 then p.2=q.y else if d=1 then p.1=q.x + q.w else if d=2 then p.2=q.y + q.w else p.1=q.x):=by
   unfold InS at hi a0;subst et;rcases de B with rfl | rfl | rfl | rfl<;>simp[rtx,rty,tlo,axd,lcx,lcy]at hi a0 ⊢<;>lia
  obtain⟨t1,t2,t3,t4,t6⟩:=key;have t5:∀ G:Int × Int,G.1≤t→t < G.2→∃ k,k < (G.2 - G.1).toNat∧p=go (bd q d G).1 k d:=fun G h1 h2=>Ft B et t6 h1 h2;rw[t3,t4]at hn;obtain⟨G,O,b1,b2⟩:=h.part_of J B t1 t2 hn;obtain⟨k,hk,ep⟩:=t5 G b1 b2;have Y:=(h.bare J B O).1;exact⟨_,_,k,(FR h J B O).trans (by rw[pU B Y]),hk,ep⟩
 one:=fun {a b d l m k j} ha O hk hj e=>by
  obtain⟨B,q,J,G,a1,rfl,e1⟩:=rX ha;obtain⟨_,q',a2,a3,U,rfl,e2⟩:=rX O;have Y:=(h.bare J B a1).1;have l2:=(h.bare a2 B U).1;rw[pU B Y]at e1;rw[pU B l2]at e2;have n1:=rf B e1;have n2:=rf B e2;obtain⟨rfl,rfl⟩:=vj h J a2 B a1 U (k:=k) (j:=j) (by lia) (by lia) e;rfl
end
theorem yV:∀ (ds:List Nat) (n:Nat),ds.length≤n→sqX n ds=cxs ds * 2 ^ (n - ds.length)
 | [],n,_=>by show 0=cxs [] * 2 ^ (n - 0);rw[show cxs []=0 from rfl];simp
 | d::ds,n,h=>by
  rw[Jv]at h;obtain⟨k,rfl⟩:∃ k,n=k + 1 + ds.length:=⟨n - 1 - ds.length,by lia⟩;have B:=yV ds (k + ds.length) (by simp);have G:cxs (d::ds)=d % 2 * 2 ^ ds.length + cxs ds:=by
   have:=qb [d] ds
   rw[LH]at this;rw[this];simp[cxs]
  show d % 2 * 2 ^ (k + 1 + ds.length - 1) + sqX (k + 1 + ds.length - 1) ds=_;rw[show k + 1 + ds.length - 1=k + ds.length by simp,B,G,Jv,show k + 1 + ds.length - (ds.length + 1)=k by lia,show k + ds.length - ds.length=k by simp,Kk,Kx,← KM,Nat.add_comm ds.length k]
theorem yU:∀ (ds:List Nat) (n:Nat),ds.length≤n→sqY n ds=cys ds * 2 ^ (n - ds.length)
 | [],n,_=>by show 0=cys [] * 2 ^ (n - 0);rw[show cys []=0 from rfl];simp
 | d::ds,n,h=>by
  rw[Jv]at h;obtain⟨k,rfl⟩:∃ k,n=k + 1 + ds.length:=⟨n - 1 - ds.length,by omega⟩;have B:=yU ds (k + ds.length) (by simp);have G:cys (d::ds)=d / 2 * 2 ^ ds.length + cys ds:=by
   have:=qa [d] ds
   rw[LH]at this;rw[this];simp[cys]
  show d / 2 * 2 ^ (k + 1 + ds.length - 1) + sqY (k + 1 + ds.length - 1) ds=_;rw[show k + 1 + ds.length - 1=k + ds.length by simp,B,G,Jv,show k + 1 + ds.length - (ds.length + 1)=k by lia,show k + ds.length - ds.length=k by simp,Kk,Kx,← KM,Nat.add_comm ds.length k]
def Ic (L:List Sq)(z z':List Nat):Prop:=Bz (fU (cE L)) (gW L) z z'
structure a_ (L:List Sq)(A:List Nat→LN9)(zs:LN9):Prop where
 ez:zs=L.map (·.z)
 hB:L.Pairwise ff
 len:zs.length≤1500
 near:∀ z z',z'∈A z↔Ic L z z'
section
variable {L:List Sq}{A:List Nat→LN9}{zs:LN9}
theorem a_.cl (C:a_ L A zs):∀ z∈zs,∀ y∈A z,y∈zs:=fun z _ y G=>by
 obtain⟨dd,B,_,h⟩:=(C.near z y).mp G;obtain⟨q1,h1,J,h2,rfl,_⟩:=kQ B;rw[C.ez];rcases h with⟨_,e⟩|⟨_,e⟩
 ·rw[e];exact I9.mpr ⟨J,h2,rfl⟩
 ·rw[e];exact I9.mpr ⟨q1,h1,rfl⟩
theorem a_.col (C:a_ L A zs)(h:y∈A z):cF (cE L) (ky y)=cF (cE L) (ky z):=by
 obtain⟨d,_,B,h⟩:=(C.near z y).mp h;have e:cF (cE L) (ky d.1)=cF (cE L) (ky d.2):=JB B;rcases h with⟨rfl,rfl⟩|⟨rfl,rfl⟩
 ·exact e.symm
 ·exact e
theorem a_.end_ (C:a_ L A zs)(B:z∈zs):∃ k,(bg A z k).length=k∧iB A z=bg A z k:=by
 obtain⟨k,G,e⟩:=Fq (A:=A) (z:=z) (N:=1500) fun k=>JA (BI.bfs C.cl B k).len C.len;exact⟨k,e,uY e G⟩
theorem a_.bi (C:a_ L A zs)(B:z∈zs):BI zs (iB A z):=by
 obtain⟨k,_,e⟩:=C.end_ B;rw[e];exact BI.bfs C.cl B k
theorem a_.closed (C:a_ L A zs)(B:z∈zs):∀ m∈iB A z,∀ y∈A m.1,y∈(iB A z).map (·.1):=by
 obtain⟨k,O,e⟩:=C.end_ B;rw[e];intro m G y J;obtain⟨i,hi⟩:=Ks G;exact rK A z k i m (by have:=(IZ.mp hi).1;lia) hi y J
theorem a_.first (C:a_ L A zs)(B:z∈zs):z∈(iB A z).map (·.1):=by
 obtain⟨k,_,e⟩:=C.end_ B;rw[e];exact I9.mpr ⟨_,Jh (xo A z k),rfl⟩
theorem a_.reach (C:a_ L A zs)(B:z∈zs)(S:List Nat→Prop)(G:S z)(J:∀ x y,S x→y∈A x→S y):∀ m∈iB A z,S m.1:=by
 obtain⟨k,_,e⟩:=C.end_ B;rw[e];exact tW A z S G J k
end
def cZ (L:List Sq)(z:List Nat):Sq:=(L.find? fun q=>decide (q.z=z)).getD ⟨[],0,0,0,0⟩
theorem kC (h:L.Pairwise ff)(B:q∈L):cZ L q.z=q:=by
 unfold cZ;cases e:L.find? fun r=>decide (r.z=q.z) with
 | none=>exact absurd (Jd rfl) (L1.mp e q B)
 | some r =>
  have G:=LW e;have J:r.z=q.z:=by simpa using G
  exact sG h (KZ e) B J
theorem iI:∀ (t:Tr) (p:List Nat) (x y k:Nat),aQ k t→∀ i j:Nat,x≤i→i < x + 2 ^ k→y≤j→j < y + 2 ^ k→∃ q∈sqs p t x y k,q.x≤i∧i < q.x + q.w∧q.y≤j∧j < q.y + q.w
 | .col c,p,x,y,k,_,i,j,h1,h2,h3,h4=>⟨⟨p,c,x,y,2 ^ k⟩,Jc.mpr rfl,h1,h2,h3,h4⟩
 | .four a b c d,p,x,y,0,g,_,_,_,_,_,_=>g.elim
 | .four a b c d,p,x,y,k + 1,⟨ga,gb,gc,gd,_⟩,i,j,h1,h2,h3,h4=>by
  have U:2 ^ (k + 1)=2 ^ k + 2 ^ k:=by rw[Kg];lia
  rw[U]at h2 h4;have A:=iI a (p++[0]) x y k ga i j;have B:=iI b (p++[1]) (x + 2 ^ k) y k gb i j;have C:=iI c (p++[2]) x (y + 2 ^ k) k gc i j;have D:=iI d (p++[3]) (x + 2 ^ k) (y + 2 ^ k) k gd i j;show ∃ q∈sqs (p++[0]) a x y k++(sqs (p++[1]) b (x + 2 ^ k) y k++(sqs (p++[2]) c x (y + 2 ^ k) k++sqs (p++[3]) d (x + 2 ^ k) (y + 2 ^ k) k)),_;simp only[Jj];generalize 2 ^ k=K at *;rcases KW i (x + K) with J | J<;>rcases KW j (y + K) with O | O
  ·obtain⟨q,G,h⟩:=A h1 J h3 O;exact⟨q,.inl G,h⟩
  ·obtain⟨q,G,h⟩:=C h1 J O (by lia);exact⟨q,.inr (.inr (.inl G)),h⟩
  ·obtain⟨q,G,h⟩:=B J (by lia) h3 O;exact⟨q,.inr (.inl G),h⟩
  ·obtain⟨q,G,h⟩:=D J (by lia) O (by lia);exact⟨q,.inr (.inr (.inr G)),h⟩
theorem kT {L:List Sq}(h:L.Pairwise ff){q r:Sq}(O:q∈L)(U:r∈L):q=r∨Sep q r∨Sep r q:=by
 induction L with
 | nil=>cases O
 | cons p L ih =>
  obtain⟨h1,h2⟩:=Ky.mp h;rcases Jr.mp O with Y|G
  ·rcases Jr.mp U with J|B
   ·exact .inl (Y.trans J.symm)
   ·exact .inr (.inl (Y▸(h1 r B).1))
  ·rcases Jr.mp U with J|B
   ·exact .inr (.inr (J▸(h1 q G).1))
   ·exact ih h2 G B
theorem yg (O:d < 4)(B:0 < q.w)(G:0 < r.w)(h:dM (axd d) (sgd d) q r.x r.y r.w=true):aV q r=true∧aV r q=true:=by
 have J:∀ {q r:Sq},0 < q.w→0 < r.w→gQ q r=true∨j9 q r=true→aV q r=true∧aV r q=true:=fun {q r} B G h=>by
  have t:aV q r=true:=by
   rw[sR B G (h.imp (fun h=>Mj (fo.mp h).1.symm) fun h=>Mj (gA.mp h).1.symm)];rcases h with h | h<;>simp[h]
  exact⟨t,by rw[nE];exact t⟩
 have h':=(jo O).mp h;rcases de O with rfl | rfl | rfl | rfl
 ·exact (J G B (.inr (gA.mpr (by simp[tlo,axd]at h';lia)))).symm
 ·exact J B G (.inl h)
 ·exact J B G (.inr h)
 ·exact (J G B (.inl (fo.mpr (by simp[tlo,axd]at h';lia)))).symm
def aJ (L:List Sq)(A:List Nat→LN9)(z:List Nat):List Sq:=(iB A z).map fun m=>cZ L m.1
theorem mO {L:List Sq}{A:List Nat→LN9}{zs:LN9}(C:a_ L A zs){q0:Sq}(h0:q0∈L)(q:Sq):q∈aJ L A q0.z↔q∈L∧q.z∈(iB A q0.z).map (·.1):=by
 have J:=C.hB;have z0:q0.z∈zs:=by rw[C.ez];exact I9.mpr ⟨q0,h0,rfl⟩
 unfold aJ;constructor
 ·intro G;obtain⟨m,B,rfl⟩:=I9.mp G;have O:=(C.bi z0).sub m B;rw[C.ez]at O;obtain⟨r,U,Y⟩:=I9.mp O;rw[← Y,kC J U];exact⟨U,Y▸I9.mpr ⟨m,B,rfl⟩⟩
 ·rintro⟨G,hz⟩;obtain⟨m,B,em⟩:=I9.mp hz;exact I9.mpr ⟨m,B,by rw[em,kC J G]⟩
theorem nZ {t:Tr}{n:Nat}(gt:aQ n t){A:List Nat→LN9}{zs:LN9}(C:a_ (sqs [] t 0 0 n) A zs){q0:Sq}(h0:q0∈sqs [] t 0 0 n):Lnd (sqs [] t 0 0 n) (aJ (sqs [] t 0 0 n) A q0.z) ((2 ^ n:Nat):Int) q0.c∧q0∈aJ (sqs [] t 0 0 n) A q0.z:=by
 have G:=fh t [] 0 0 n gt;have U:=iI t [] 0 0 n gt;obtain⟨L,eL⟩:∃ L,L=sqs [] t 0 0 n:=⟨_,rfl⟩;rw[← eL]at C h0 G U ⊢;have Y:=C.hB;have z0:q0.z∈zs:=by rw[C.ez];exact I9.mpr ⟨q0,h0,rfl⟩
 have O:∀ q,q∈aJ L A q0.z↔q∈L∧q.z∈(iB A q0.z).map (·.1):=mO C h0;refine⟨⟨fun q J=>(G q J).2.2.2.2,fun q J r hr x y i j =>?_,fun x y h1 h2 h3 h4 =>?_,fun q J =>?_,fun q J=>((O q).mp J).1,fun q J =>?_,fun q J r hr d h4 hl hc =>?_⟩,(O q0).mpr ⟨h0,C.first z0⟩⟩
 ·rcases kT Y J hr with e|e|e
  ·exact e
  ·unfold Sep at e;unfold InS at i j
   lia
  ·unfold Sep at e;unfold InS at i j
   lia
 ·obtain⟨q,J,k1,k2,k3,k4⟩:=U x.toNat y.toNat (Je _) (by lia) (Je _) (by lia);exact⟨q,J,by unfold InS;lia⟩
 ·obtain⟨_,i2,_,i4,_⟩:=G q J;omega
 ·obtain⟨B,a0⟩:=(O q).mp J;obtain⟨m,hm,em⟩:=I9.mp a0
  have:=C.reach z0 (fun y=>cF (cE L) (ky y)=cF (cE L) (ky q0.z)) rfl (fun x y h1 h2=>(C.col h2).trans h1) m hm
  rw[em,cC Y B,cC Y h0]at this;injection this with this;injection this
 ·obtain⟨B,a0⟩:=(O q).mp J;obtain⟨m,hm,em⟩:=I9.mp a0;refine (O r).mpr ⟨hr,C.closed z0 m hm r.z ?_⟩;rw[em];have qc:q.c=q0.c:=by
   have:=C.reach z0 (fun y=>cF (cE L) (ky y)=cF (cE L) (ky q0.z)) rfl (fun x y h1 h2=>(C.col h2).trans h1) m hm
   rw[em,cC Y B,cC Y h0]at this;injection this with this;injection this
  have cc:cF (cE L) (ky q.z)=cF (cE L) (ky r.z):=by rw[cC Y B,cC Y hr,hc,qc]
  obtain⟨t1,t2⟩:=yg h4 (G q B).2.2.2.2 (G r hr).2.2.2.2 hl;obtain⟨i,hi⟩:=Ks B;obtain⟨j,hj⟩:=Ks hr;rw[C.near];rcases L7 i j with c|c|c
  ·exact⟨_,m9 hi hj c t1,Jd cc,.inl ⟨rfl,rfl⟩⟩
  ·subst c;rw[hi]at hj;cases hj
   have:=(jo h4).mp hl
   have w:=(G q B).2.2.2.2
   exfalso
   rcases de h4 with rfl|rfl|rfl|rfl<;>simp at this<;>lia
  ·exact⟨_,m9 hj hi c t2,Jd cc.symm,.inr ⟨rfl,rfl⟩⟩
def PtV (H:Hp)(u:V)(p:Int × Int):Prop:=∃ a,u=.ref a∧H a=some (.tup [.int p.1,.int p.2])
theorem PtV.up (h:PtV H u p)(s:bQ H H'):PtV H' u p:=by
 obtain⟨a,e,k⟩:=h;exact⟨a,e,s _ _ k⟩
abbrev jG (H:Hp):List V→List (Int × Int)→Prop:=Paired (PtV H)
theorem jG.up (h:jG H us ps)(s:bQ H H'):jG H' us ps:=Paired.mapP h fun _ _ k=>k.up s
theorem fi (ok:pf q [] t 0 0 n):IsC (txt q.z)∧(txt q.z).length≤n∧cxs (dig (txt q.z)) * 2 ^ (n - (txt q.z).length)=q.x∧cys (dig (txt q.z)) * 2 ^ (n - (txt q.z).length)=q.y∧2 ^ (n - (txt q.z).length)=q.w:=by
 obtain⟨w,B,G,_,J,ex,O,U⟩:=ok;rw[Ku]at B;subst B;rw[gr,fA];exact⟨ug G,J,by rw[ex];simp,by rw[O];simp,U.symm⟩
def BV (d:Nat):Str:=if d=0 then "up" else if d=1 then "right" else if d=2 then "down" else "left"
theorem Ed (B:d < 4):∃ (s1 s2:Str) (dx dy:Int),Hg[d]? = some (.str (BV d))∧Dir (BV d) s1 s2 dx dy∧dig s2=eK (axd d) (sgd d)∧dx=(if axd d then 0 else if sgd d then -1 else 1)∧dy=(if axd d then (if sgd d then -1 else 1) else 0):=by
 rcases de B with rfl|rfl|rfl|rfl
 ·exact⟨_,_,_,_,rfl,.inl ⟨rfl,rfl,rfl,rfl,rfl⟩,by decide +kernel,rfl,rfl⟩
 ·exact⟨_,_,_,_,rfl,.inr (.inl ⟨rfl,rfl,rfl,rfl,rfl⟩),by decide +kernel,rfl,rfl⟩
 ·exact⟨_,_,_,_,rfl,.inr (.inr (.inl ⟨rfl,rfl,rfl,rfl,rfl⟩)),by decide +kernel,rfl,rfl⟩
 ·exact⟨_,_,_,_,rfl,.inr (.inr (.inr ⟨rfl,rfl,rfl,rfl,rfl⟩)),by decide +kernel,rfl,rfl⟩
theorem BJ {d:Nat}(B:d < 4)(q:Sq):atI [V.int (q.x:Int),V.int (q.y:Int),V.int (q.w:Int)] ((d:Int) % 2)=some (V.int (tlo q d)):=by
 rcases de B with rfl|rfl|rfl|rfl<;>rfl
section
variable {P:Pg9}{w:Wd9}{K:Frag}{mg:Mg9}{base:Heap}{CX:CXT}{f:Addr}{fd:Fd9}
abbrev jj:Stmt:=top 39
theorem bT:aE ["sheet","code","way","colours","square","begin","end","others","parts","other","near","start"] ["sheet","code","way","colours"] (aq jj):={}
inductive ko  (vs:List V)(H:Hp)(Q:VK):Prop
 | mk (ps cd:Addr) (n:Nat) (v:V) (t:Tr) (q:Sq) (d:Nat) (h_0:vs=[.ref ps,sV q.z,.int (d:Int),.ref cd]) (h_1:H ps=some (.tup [.int (n:Int),v])) (h_2:bS H v t) (h_3:aQ n t) (h_4:n≤40) (h_5:cnt t≤1500) (h_6:q∈sqs [] t 0 0 n) (h_7:d < 4) (h_8:H cd=some (.dK (cE (sqs [] t 0 0 n)))) (h_9:∀ l us H',ak H H'→H l=none→H' l=some (.lst us)→jG H' us (bD (sqs [] t 0 0 n) q d)→Q (.ref l) H'):ko  vs H Q
def kZ:Sp:=fun vs H Q _=>ko  vs H Q
theorem sr (T:Tx K mg)(Y:Yx K mg)(U:Ty P w K mg)(q:bW (CXe P w))(F:bE K "bare_parts" "bare_parts" jj f fd .none)(G:Fok P w K mg base (CXe P w) 4 "corner" ["code","level"] [] kE)(B:Fok P w K mg base (CXe P w) 43 "beyond_leaf" ["sheet","code","side"] [] (gF Y)):
  bF P w K mg base (CXe P w) 44 f fd ["sheet","code","way","colours"] kZ:=by
 refine F.ok bT (fun vs H Q E h =>?_) (fun c7 A outer s H vs Q E hr h =>?_)
 ·obtain⟨_,_,_,_,_,_,_,rfl,_⟩:=h;rfl
 obtain⟨ps,cd,n,v,t,sq,d,rfl,a2,ht,gt,hn,hc,hq,h4,a5,q'⟩:=h;obtain⟨aS,a0,kS⟩:=U.sides;refine⟨_,(ac (ao (i:=4) bT (aj G q hr (aa (pv 1) (aa (ay aD (pv 0) ae) af)))) (ac (ao (i:=5) bT (ay aD (pv 4) (ai aN (pv 2) ae))) (ac (ao (i:=6) bT (ai aI (pv 5) (ay aD (pv 4) ae))) (ac (ao (i:=7) bT (aj B q hr (aa (pv 0) (aa (pv 1) (aa (ay aD (kJ (v:=.ref _) rfl a0 rfl) (pv 2)) af))))) (ac (bG (aH fF (az bC rfl T.b_len cW (aa (pv 7) af)) ae) (ag (aB (aP (av (aF (av (pv 5) (av (pv 6) au))) au)))) aO) (ac (ao (i:=8) bT (aP au)) (ac (aR Jm rfl (bO (pv 7)) (aY (i:=9) bT) (ag (bG (aH qP (hU hr.dic (pv 3) (pv 9) (fun _ _=>rfl)) (hU hr.dic (pv 3) (pv 1) (fun _ _=>rfl))) (ac (ao (i:=10) bT (aj G q hr (aa (pv 9) (aa (ay aD (pv 0) ae) af)))) (ac (ao (i:=11) bT (ay aD (pv 10) (ai aN (pv 2) ae))) (ag (ba (bn (pv 8) (aa (aF (av (az (iQ rfl) rfl T.b_max om (aa (pv 5) (aa (pv 11) af))) (av (az (gB rfl) rfl T.b_min oj (aa (pv 6) (aa (ai aI (pv 11) (ay aD (pv 10) ae)) af))) au))) af)))))) aO))) (ag (aB (pv 8)))))))))),?_⟩;obtain⟨L,eL⟩:∃ L,L=sqs [] t 0 0 n:=⟨_,rfl⟩;have hB:L.Pairwise ff:=by rw[eL];exact dv t [] 0 0 n gt
 have lc:L.length=cnt t:=by rw[eL];exact eu t [] 0 0 n
 have ok:=fL t [] 0 0 n gt sq hq;obtain⟨ic,il,cx,cy,cw⟩:=fi ok;refine⟨ps,_,_,_,rfl,rfl,SqT.of a2,rfl,txt sq.z,n,rfl,ic,il,hn,fun p1 H1 s1 w1 =>?_⟩;rw[cx,cy,cw]at w1;refine⟨(by show (0:Int) < 2;decide),p1,_,_,_,rfl,rfl,SqT.of w1,BJ h4 sq,?_⟩;refine⟨p1,_,_,_,rfl,rfl,SqT.of w1,rfl,cP ?_⟩;obtain⟨b1,b2,dx,dy,b4,hd,e2,ex,ey⟩:=Ed h4;refine⟨aS,_,_,_,rfl,rfl,kS.sq,bV b4,ps,n,v,.str (BV d),t,txt sq.z,rfl,s1 _ _ a2,ht.up s1.tups,gt,hn,by lia,ic,by lia,DL (K:=K) gt ok hd e2 ex ey fun lo H2 s2 c8 u2 =>?_⟩;rw[og,← eL]at u2;obtain⟨O,eO⟩:∃ O,O=dG L sq d:=⟨_,rfl⟩;have u2':H2 lo=some (.lst (O.map fun r=>sV r.z)):=by rw[u2,eO,JE];rfl
 have lO:O.length≤1500:=by
  have h1:=Kj (fun r:Sq=>dM (axd d) (sgd d) sq r.x r.y r.w) L;rw[eO];unfold dG
  lia
 have J:=s1.trans s2;have c6:=J _ _ a2;have a6:=J _ _ a5;rw[← eL]at a6 q';have b5:sq∈L:=by rw[eL];exact hq
 refine⟨_,_,rfl,.inl ⟨_,SqL.of u2',rfl⟩,rfl,aA (cz (fun c0 =>?_) (fun c0 =>?_))⟩
 ·have e0:O=[]:=by
   have:=JB c0
   injection this with this;rw[I0]at this;exact JP (by lia)
  refine⟨(leZ rfl),fun pt b6=>⟨(leZ rfl),fun l hl =>?_⟩⟩;have s3:=ak.new b6 (.tup [.int (tlo sq d),.int (tlo sq d + (sq.w:Int))]);have w3:upd H2 pt (.tup [.int (tlo sq d),.int (tlo sq d + (sq.w:Int))]) pt=some (.tup [.int (tlo sq d),.int (tlo sq d + (sq.w:Int))]):=ah;generalize upd H2 pt (.tup [.int (tlo sq d),.int (tlo sq d + (sq.w:Int))])=H3 at *;have s4:=ak.new hl (.lst [.ref pt]);refine q' l _ _ ((J.trans s3).trans s4) ((J.trans s3).free hl) ah ?_;unfold bD;rw[if_pos (by rw[← eO];exact e0)];exact .cons ⟨pt,rfl,s4 _ _ w3⟩ .nil
 have n0:¬ dG L sq d=[]:=fun e=>c0 (by
  rw[eO,e];exact Jd rfl)
 refine⟨(leZ rfl),nw fun lp H3 a7 s3 w3 =>?_⟩;have u3:=s3 _ _ u2';have a8:H lp=none:=J.free a7;have hlo':lo≠lp:=fun z=>by rw[z,a7]at u2';cases u2'
 have b7:=J.trans s3;have Od:∀ i r,O[i]? = some r→r∈L:=fun i r h=>by
  rw[eO]at h;exact (JH.mp (Jh h)).1
 refine⟨lo,rfl,⟨_,SqL.of u3⟩,cM (xs:=O.map fun r=>sV r.z) (fun (i:Nat) σ H4=>ak H H4∧(∀ b o,b≠lp→H3 b=some o→H4 b=some o)∧(∃ us,H4 lp=some (.lst us)∧jG H4 us (((O.take i).filter fun r=>decide (r.c≠sq.c)).map fun r=>(max (tlo sq d) (tlo r d),min (tlo sq d + sq.w) (tlo r d + r.w)))∧us.length≤i∧i≤O.length)∧∃ o9 a3 a4:OW9,σ=[some (.ref ps),some (sV sq.z),some (.int (d:Int)),some (.ref cd),some (.ref p1),some (.int (tlo sq d)),some (.int (tlo sq d + (sq.w:Int))),some (.ref lo),some (.ref lp),o9,a3,a4])
  ⟨b7,fun _ _ _ e=>e,⟨[],w3,.nil,I_ _,Je _⟩,_,_,_,rfl⟩ (fun i σ H4 _ h=>SqL.of (h.2.1 _ _ hlo' u3)) ?_ ?_⟩
 ·rintro i u σ H4 hu ⟨s4,k4,⟨us,w4,hP,l4,li⟩,o9,a3,a4,rfl⟩;rw[JL]at hu;obtain⟨r,er,rfl⟩:=JQ.mp hu;have hi:=(IZ.mp er).1;have a9:=Od i r er;have et:O.take (i + 1)=O.take i++[r]:=by rw[Jw,er];rfl
  rw[et,KJ];have a1:=s4 _ _ a5;rw[← eL]at a1;refine⟨cd,_,rfl,cC hB a9▸ot.k (k:=ky r.z) a1,cd,_,rfl,cC hB b5▸ot.k (k:=ky sq.z) a1,rfl,aA (cz (fun c1 =>?_) (fun c1 =>?_))⟩
  rotate_left
  ·have c1':r.c=sq.c:=Classical.byContradiction fun n=>c1 (by
    show (!decide (V.int r.c=V.int sq.c))=true;rw[JT (fun e=>n (V.int.inj e))];rfl)
   rw[show [r].filter (fun r=>decide (r.c≠sq.c))=[] by simp[c1'],J_];exact⟨s4,k4,⟨us,w4,hP,by lia,by assumption⟩,_,_,_,rfl⟩
  have c1':r.c≠sq.c:=fun e=>by
   have c2:(!decide (V.int r.c=V.int sq.c))=true:=c1;rw[e,Jd rfl]at c2;cases c2
  rw[show [r].filter (fun r=>decide (r.c≠sq.c))=[r] by simp[c1'],Jn];have b8:=fL t [] 0 0 n gt r (by rw[← eL];exact a9);obtain⟨jc,jl,b9,c3,c4⟩:=fi b8;refine⟨ps,_,_,_,rfl,rfl,SqT.of (s4 _ _ a2),rfl,txt r.z,n,rfl,jc,jl,hn,fun p5 H5 s5 w5 =>?_⟩;rw[b9,c3,c4]at w5;have b0:=s5 _ _ w4;refine⟨(by show (0:Int) < 2;decide),p5,_,_,_,rfl,rfl,SqT.of w5,BJ h4 r,?_⟩;refine⟨.inl ⟨rfl,_,SqL.of b0⟩,_,_,rfl,p5,_,_,_,rfl,rfl,SqT.of w5,rfl,_,_,rfl,(leZ rfl),fun p6 c5 =>?_⟩;generalize e6:upd H5 p6 _=H6;have s6:ak H5 H6:=e6▸ak.new c5 _;have w6:H6 p6=some (.tup [.int (max (tlo sq d) (tlo r d)),.int (min (tlo sq d + sq.w) (tlo r d + r.w))]):=by
   rw[← e6,ah,← fQ,← fR];rfl
  have b3:=s6 _ _ b0;refine⟨lp,us,_,rfl,rfl,b3,Jt (by lia:us.length < 5000) (by decide),?_⟩;have t7:bQ H6 (upd H6 lp (.lst (us++[.ref p6]))):=cY b3 (by intro xs q;cases q);refine⟨ak.set ((s4.trans s5).trans s6) a8 _,fun b o hb e=>by rw[aG hb];exact (s5.trans s6) _ _ (k4 b o hb e),⟨us++[.ref p6],ah,cA (hP.up ((s5.trans s6).tups.trans t7)) (.cons ⟨p6,rfl,t7 _ _ w6⟩ .nil),by rw[I8,Kd];lia,by assumption⟩,_,_,_,rfl⟩
 ·rintro σ H4 ⟨s4,k4,⟨us,w4,hP,l4,li⟩,o9,a3,a4,rfl⟩;rw[Ji (by rw[I0];exact I_ _)]at hP;refine (q' lp us H4 s4 a8 w4 ?_);unfold bD;rw[if_neg n0,← eO];exact hP
abbrev gO:Stmt:=top 40
theorem dW:aE ["square","way","begin","end","x","y","wide"] ["square","way","begin","end"] (aq gO):={}
inductive iZ  (vs:List V)(H:Hp)(Q:VK):Prop
 | mk (p:Addr) (q:Sq) (d:Nat) (b e:Int) (h_0:vs=[.ref p,.int (d:Int),.int b,.int e]) (h_1:H p=some (.tup [.int (q.x:Int),.int (q.y:Int),.int (q.w:Int)])) (h_2:d < 4) (h_3:∀ r p1 p2 H',ak H H'→H' r=some (.tup [.ref p1,.ref p2])→H' p1=some (.tup [.int (bd q d (b,e)).1.1,.int (bd q d (b,e)).1.2])→H' p2=some (.tup [.int (bd q d (b,e)).2.1,.int (bd q d (b,e)).2.2])→Q (.ref r) H'):iZ  vs H Q
def jB:Sp:=fun vs H Q _=>iZ  vs H Q
theorem mj {H:Hp}{Q:VK}{a b c e:Int}(h:∀ r B p2 H',ak H H'→H' r=some (.tup [.ref B,.ref p2])→H' B=some (.tup [.int a,.int b])→H' p2=some (.tup [.int c,.int e])→Q (.ref r) H')(B p2 r:Addr)(h1:H B=none)(h2:upd H B (.tup [.int a,.int b]) p2=none)(O:upd (upd H B (.tup [.int a,.int b])) p2 (.tup [.int c,.int e]) r=none):
  Q (.ref r) (upd (upd (upd H B (.tup [.int a,.int b])) p2 (.tup [.int c,.int e])) r (.tup [.ref B,.ref p2])):=by
 have U:=ak.new h1 (.tup [.int a,.int b]);have J:=ak.new h2 (.tup [.int c,.int e]);have G:=ak.new O (.tup [.ref B,.ref p2]);exact h r B p2 _ ((U.trans J).trans G) ah (G _ _ (J _ _ ah)) (G _ _ ah)
theorem oZ (T:Tx K mg)(F:bE K "ends_of_part" "ends_of_part" gO f fd .none):bF P w K mg base CX 1 f fd ["square","way","begin","end"] jB:=by
 refine F.ok dW (fun vs H Q E h =>?_) (fun a0 A outer s H vs Q E hr h =>?_)
 ·obtain⟨_,_,_,_,_,rfl,_⟩:=h;rfl
 obtain⟨p,q,d,b,e,rfl,Y,h4,U⟩:=h;refine⟨_,(ac (ao (i:=4) dW (ay aD (pv 0) ae)) (ac (ao (i:=5) dW (ay aD (pv 0) ae)) (ac (ao (i:=6) dW (ay aD (pv 0) ae)) (ac (bG (aH fF (pv 1) ae) (ag (aB (aF (av (aF (av (pv 2) (av (pv 5) au))) (av (aF (av (pv 3) (av (pv 5) au))) au))))) aO) (ac (bG (aH fF (pv 1) ae) (ag (aB (aF (av (aF (av (ai aI (pv 4) (pv 6)) (av (pv 2) au))) (av (aF (av (ai aI (pv 4) (pv 6)) (av (pv 3) au))) au))))) aO) (ac (bG (aH fF (pv 1) ae) (ag (aB (aF (av (aF (av (pv 3) (av (ai aI (pv 5) (pv 6)) au))) (av (aF (av (pv 2) (av (ai aI (pv 5) (pv 6)) au))) au))))) aO) (ag (aB (aF (av (aF (av (pv 4) (av (pv 3) au))) (av (aF (av (pv 4) (av (pv 2) au))) au))))))))))),?_⟩;refine⟨p,_,_,_,rfl,rfl,SqT.of Y,rfl,p,_,_,_,rfl,rfl,SqT.of Y,rfl,p,_,_,_,rfl,rfl,SqT.of Y,rfl,?_⟩;have G:2≤sizeLine:=by decide
 refine⟨rfl,aA (cz (fun c0 =>?_) (fun c0=>⟨rfl,aA (cz (fun c1 =>?_) (fun c1=>⟨rfl,aA (cz (fun c2 =>?_) (fun c2 =>?_))⟩))⟩))⟩
 ·have J:d=0:=by have:=V.int.inj (JB c0);lia
  subst J;exact⟨G,fun B h1=>⟨G,fun p2 h2=>⟨G,fun r O=>mj (fun r B p2 H'=>U r B p2 H') B p2 r h1 h2 O⟩⟩⟩
 ·have J:d=1:=by have:=V.int.inj (JB c1);lia
  subst J;exact⟨G,fun B h1=>⟨G,fun p2 h2=>⟨G,fun r O=>mj (fun r B p2 H'=>U r B p2 H') B p2 r h1 h2 O⟩⟩⟩
 ·have J:d=2:=by have:=V.int.inj (JB c2);lia
  subst J;exact⟨G,fun B h1=>⟨G,fun p2 h2=>⟨G,fun r O=>mj (fun r B p2 H'=>U r B p2 H') B p2 r h1 h2 O⟩⟩⟩
 ·have n0:d≠0:=fun e=>c0 (by rw[e];exact Jd rfl);have n1:d≠1:=fun e=>c1 (by rw[e];exact Jd rfl);have n2:d≠2:=fun e=>c2 (by rw[e];exact Jd rfl);have J:d=3:=by lia
  subst J;exact⟨G,fun B h1=>⟨G,fun p2 h2=>⟨G,fun r O=>mj (fun r B p2 H'=>U r B p2 H') B p2 r h1 h2 O⟩⟩⟩
def PN (H:Hp)(G:List (NK × Pt))(e:NE):Prop:=∃ p∈G,p.1=e.1∧PtV H e.2.2 p.2
structure Pcd (P:Pg9)(w:Wd9)(H:Hp)(a:Addr)(xs:List NE)(G:List (NK × Pt)):Prop where
 dn:DN P w H a xs
 ent:∀ e∈xs,PN H G e
 all:∀ p∈G,(nkV xs p.1).isSome=true
 len:xs.length≤G.length
theorem PN.up (h:PN H G e)(s:bQ H H')(g:∀ p∈G,p∈G'):PN H' G' e:=by
 obtain⟨p,h1,h2,B⟩:=h;exact⟨p,g p h1,h2,B.up s⟩
theorem Pcd.up (h:Pcd P w H a xs G)(s:ak H H'):Pcd P w H' a xs G:=⟨h.dn.up s,fun e B=>(h.ent e B).up s.tups fun _ h=>h,h.all,h.len⟩
theorem zm:(nkV (dj xs k a v) k').isSome=(decide (k=k') || (nkV xs k').isSome):=by
 unfold dj
 split
 ·rename_i h
  by_cases e:k=k'
  ·subst e;rw[Jd rfl,Bool.true_or];obtain⟨u,B⟩:=JG.mp h;obtain⟨b,G⟩:=mL B;unfold nkV;rw[Kc,LA];exact⟨(k,b,v),I9.mpr ⟨(k,b,u),G,by simp⟩,by simp⟩
  ·rw[JT e,Bool.false_or];unfold nkV;rw[Kc,Kc,Mv,Kc]
   congr 2
   funext x
   by_cases c:x.1=k<;>simp[c]
 ·unfold nkV;rw[Kc,Kc,List.find?_append];by_cases e:k=k'<;>simp[e,KI]
theorem Pcd.put (h:Pcd P w H a xs G)(Y:H c=some (.tup [.int p.2.1,.int p.2.2]))(hH:H'=upd H a (dN P w a (dj xs p.1 b (.ref c))))(D:DN P w H' a (dj xs p.1 b (.ref c))):Pcd P w H' a (dj xs p.1 b (.ref c)) (G++[p]):=by
 have O:bQ H H':=fun d ys e=>by
  rw[hH,aG fun z=>by rw[z,h.dn.at_]at e;exact nomatch e];exact e
 refine⟨D,fun e J =>?_,fun p' B =>?_,?_⟩
 ·have me:PN H' (G++[p]) (p.1,b,.ref c):=⟨p,by simp,rfl,c,rfl,O _ _ Y⟩;unfold dj at J
  split at J
  ·obtain⟨e',U,rfl⟩:=I9.mp J;by_cases c1:e'.1=p.1
   ·rw[if_pos c1];exact⟨p,by simp,c1.symm,c,rfl,O _ _ Y⟩
   ·rw[if_neg c1];exact (h.ent e' U).up O fun _ h=>JS _ h
  ·rcases Jj.mp J with J|J
   ·exact (h.ent e J).up O fun _ h=>JS _ h
   ·rw[Jc.mp J];exact me
 ·rw[zm];rcases Jj.mp B with B | B
  ·rw[h.all p' B,Bool.or_true]
  ·rw[Jc.mp B,Jd rfl,Bool.true_or]
 ·have:=za xs p.1 b (.ref c)
  have:=h.len
  rw[I8,Kd]
  lia
end
theorem DZ (h:q∈L):(G1 L q d).length≤L.length:=by
 unfold G1 bD dG;rw[I0]
 split
 ·have:=Ly h
  simp only[Kd]
  assumption
 ·rw[I0];exact JA (Kj _ _) (Kj _ _)
theorem rq {α β:Type}{f:α→List β}{c:Nat}:∀ {l:List α},(∀ x∈l,(f x).length≤c)→(l.flatMap f).length≤l.length * c
 | [],_=>by simp
 | x::l,h=>by
  have h1:=h x Jg;have h2:=rq (f:=f) (l:=l) fun y B=>h y (Ja _ B);rw[L_,I8,Jv,Kk]
  lia
theorem DY {L:List Sq}{q:Sq}(h:q∈L)(j:Nat):((List.range j).flatMap (G1 L q)).length≤j * L.length:=by
 have:=rq (f:=G1 L q) (c:=L.length) (l:=List.range j) fun d _=>DZ h
 rwa [K4]at this
theorem vI {L M:List Sq}(h:∀ q∈M,q∈L):(GL L M).length≤M.length * (4 * L.length):=rq fun q B=>DY (h q B) 4
theorem Fy (L M:List Sq)(q:Sq):GL L (M++[q])=GL L M++(List.range 4).flatMap (G1 L q):=by
 unfold GL;rw[KQ];simp
theorem xQ (f:Nat→List α)(k:Nat):(List.range (k + 1)).flatMap f=(List.range k).flatMap f++f k:=by
 rw[Kt,KQ];simp
section
variable {P:Pg9}{w:Wd9}{K:Frag}{mg:Mg9}{base:Heap}{CX:CXT}{f:Addr}{fd:Fd9}
abbrev gI:Stmt:=top 41
theorem bw:aE ["sheet","codes","colours","pieces","code","square","way","begin","end","ends"] ["sheet","codes"] (aq gI):={}
inductive iU  (P:Pg9)(w:Wd9)(vs:List V)(H:Hp)(Q:VK):Prop
 | mk (ps lc:Addr) (n:Nat) (v:V) (t:Tr) (M:List Sq) (h_0:vs=[.ref ps,.ref lc]) (h_1:H ps=some (.tup [.int (n:Int),v])) (h_2:bS H v t) (h_3:aQ n t) (h_4:n≤40) (h_5:cnt t≤1500) (h_6:H lc=some (.lst (M.map fun q=>sV q.z))) (h_7:(∀ q∈M,q∈sqs [] t 0 0 n)) (h_8:M.length≤1500) (h_9:∀ d xs H',ak H H'→H d=none→Pcd P w H' d xs (GL (sqs [] t 0 0 n) M)→Q (.ref d) H'):iU P w vs H Q
def jz  (P:Pg9)(w:Wd9):Sp:=fun vs H Q _=>iU P w vs H Q
theorem oW (T:Tx K mg)(q:bW (CXe P w))(F:bE K "pieces_round" "pieces_round" gI f fd .none)(J:Fok P w K mg base (CXe P w) 43 "leaves" ["sheet"] [] kD)(O:Fok P w K mg base (CXe P w) 4 "corner" ["code","level"] [] kE)(G:Fok P w K mg base (CXe P w) 44 "bare_parts" ["sheet","code","way","colours"] [] kZ)(B:Fok P w K mg base (CXe P w) 1 "ends_of_part" ["square","way","begin","end"] [] jB):
  bF P w K mg base (CXe P w) 45 f fd ["sheet","codes"] (jz P w):=by
 refine F.ok bw (fun vs H Q E h =>?_) (fun e0 A outer s H vs Q E hr h =>?_)
 ·obtain⟨_,_,_,_,_,_,rfl,_⟩:=h;rfl
 obtain⟨ps,lc,n,v,t,M,rfl,a3,ht,gt,hn,hc,b0,hM,lM,q'⟩:=h;refine⟨_,(ac (ao (i:=2) bw (bL (rH rfl) rfl T.b_dict z_ (aa (aj J q hr (aa (pv 0) af)) af))) (ac (ao (i:=3) bw wj) (ac (aR Jm rfl (bO (pv 1)) (aY (i:=4) bw) (ac (ao (i:=5) bw (aj O q hr (aa (pv 4) (aa (ay aD (pv 0) ae) af)))) (ag (aR Jm rfl (bR rfl T.b_range (aa ae af)) (aY (i:=6) bw) (ag (aR Jm rfl (bO (aj G q hr (aa (pv 0) (aa (pv 4) (aa (pv 6) (aa (pv 2) af)))))) (iz rfl (aW (aY (i:=7) bw) (aW (aY (i:=8) bw) dC))) (ac (ao (i:=9) bw (aj B q hr (aa (pv 5) (aa (pv 6) (aa (pv 7) (aa (pv 8) af)))))) (ag (wf hr.nest (pv 3) (aF (av (ay aD (pv 9) ae) (av (pv 6) au))) (ay aD (pv 9) ae) (mq rfl)))))))))) (ag (aB (pv 3)))))),?_⟩;obtain⟨L,eL⟩:∃ L,L=sqs [] t 0 0 n:=⟨_,rfl⟩;have hB:L.Pairwise ff:=by rw[eL];exact dv t [] 0 0 n gt
 have lL:L.length=cnt t:=by rw[eL];exact eu t [] 0 0 n
 have eS:lvs [] t=L.map fun q=>(q.z,q.c):=by rw[eL];exact hZ t [] 0 0 n
 have c1:∀ q∈L,pf q [] t 0 0 n:=by rw[eL];exact fL t [] 0 0 n gt
 rw[← eL]at hM q';refine⟨.ref ps,t,n,rfl,⟨ps,v,rfl,a3,ht⟩,gt,hn,by lia,fun l us H1 s1 hl u1 b1 =>?_⟩;rw[eS]at b1;obtain⟨as,c2,b2⟩:=nV b1;have hpr':nn H1 as (cE L):=by
  unfold cE;rw[JE]at b2;exact b2
 refine⟨l,as,cE L,rfl,SqL.of (by rw[u1,c2]),hpr',md hB,nw fun dc H2 e1 s2 u2 =>?_⟩;refine fun dp a4 =>?_;have s3:=ak.new a4 (dN P w dp []);have u3:upd H2 dp (dN P w dp []) dp=some (dN P w dp []):=ah;have u2':=s3 _ _ u2;have c3:dc≠dp:=fun z=>by rw[z,a4]at u2;cases u2
 have b3:=s1.trans s2;have b4:H dp=none:=b3.free a4
 change BN _ _ _ _ (upd H2 dp (dN P w dp []))
 generalize upd H2 dp (dN P w dp [])=H3 at *;have b5:=b3.trans s3;refine⟨lc,rfl,⟨_,SqL.of (b5 _ _ b0)⟩,cM (xs:=M.map fun q=>sV q.z) (fun (i:Nat) σ H4=>i≤M.length∧ak H H4∧H4 dc=some (.dK (cE L))∧(∃ xs,Pcd P w H4 dp xs (GL L (M.take i)))∧∃ o4 o5 o6 U Y o9:OW9,σ=[some (.ref ps),some (.ref lc),some (.ref dc),some (.ref dp),o4,o5,o6,U,Y,o9])
  ⟨Je _,b5,u2',⟨[],⟨u3,fun e he=>absurd he (by simp)⟩,fun e he=>absurd he (by simp),fun p hp=>absurd hp (by simp[GL]),Je _⟩,_,_,_,_,_,_,rfl⟩ (fun i σ H4 _ h=>SqL.of (h.2.1 _ _ b0)) ?_ ?_⟩
 ·rintro i u σ H4 hu ⟨_,s4,d4,⟨xs,c4⟩,o4,o5,o6,U,Y,o9,rfl⟩;rw[JL]at hu;obtain⟨sq,er,rfl⟩:=JQ.mp hu;have hi:=(IZ.mp er).1;have c5:=Jh er;have a2:=hM sq c5;have et:M.take (i + 1)=M.take i++[sq]:=by rw[Jw,er];rfl
  have lG:(GL L (M.take i)).length≤1500 * 6000:=by
   have h1:=vI (L:=L) (M:=M.take i) fun q hq=>hM q (KB hq);have h2:(M.take i).length≤1499:=by rw[JO];lia
   have h3:(M.take i).length * (4 * L.length)≤1499 * (4 * 1500):=KY h2 (by lia)
   lia
  have lG':(GL L (M.take i)).length + 4 * 1500≤9000000:=by
   have h1:=vI (L:=L) (M:=M.take i) fun q hq=>hM q (KB hq);have h2:(M.take i).length≤1499:=by rw[JO];lia
   have h3:(M.take i).length * (4 * L.length)≤1499 * (4 * 1500):=KY h2 (by lia)
   lia
  obtain⟨jc,jl,c7,c9,d0⟩:=fi (c1 sq a2);refine⟨ps,_,_,_,rfl,rfl,SqT.of (s4 _ _ a3),rfl,txt sq.z,n,rfl,jc,jl,hn,fun p5 H5 s5 w5 =>?_⟩;rw[c7,c9,d0]at w5;refine⟨4,rfl,by decide,by decide,bY (n:=4) (fun (k:Nat) σ H6=>k≤4∧ak H H6∧H6 dc=some (.dK (cE L))∧H6 p5=some (.tup [.int (sq.x:Int),.int (sq.y:Int),.int (sq.w:Int)])∧(∃ xs,Pcd P w H6 dp xs (GL L (M.take i)++(List.range k).flatMap (G1 L sq)))∧∃ o6 U Y o9:OW9,σ=[some (.ref ps),some (.ref lc),some (.ref dc),some (.ref dp),some (sV sq.z),some (.ref p5),o6,U,Y,o9])
   ⟨Je _,s4.trans s5,s5 _ _ d4,w5,⟨xs,by simpa using c4.up s5⟩,_,_,_,_,rfl⟩ ?_ ?_⟩
  ·rintro k σ H6 hk ⟨_,s6,d6,w6,⟨a5,c6⟩,o6,U,Y,o9,rfl⟩;rw[show (0:Int) + (k:Int)=k from K9 _];refine⟨ps,dc,n,v,t,sq,k,rfl,s6 _ _ a3,ht.up s6.tups,gt,hn,hc,by rw[← eL];exact a2,hk,by rw[← eL];exact d6,fun lb ub H7 s7 b6 u7 a6 =>?_⟩;rw[← eL]at a6;have e2:ub.length=(bD L sq k).length:=Paired.length a6;have e3:(bD L sq k).length≤1500:=by
    have:=DZ (d:=k) a2
    unfold G1 at this;rw[I0]at this
    lia
   have l6:=DY a2 k;have b7:lb≠dp:=fun z=>by rw[z,c6.dn.at_]at b6;cases b6
   refine⟨lb,rfl,⟨_,SqL.of u7⟩,cM (xs:=ub) (fun (j:Nat) σ H8=>j≤ub.length∧ak H H8∧(∀ b o,b≠dp→H7 b=some o→H8 b=some o)∧(∃ xs,Pcd P w H8 dp xs (GL L (M.take i)++(List.range k).flatMap (G1 L sq)++((bD L sq k).take j).map (gen sq k)))∧∃ U Y o9:OW9,σ=[some (.ref ps),some (.ref lc),some (.ref dc),some (.ref dp),some (sV sq.z),some (.ref p5),some (.int (k:Int)),U,Y,o9])
    ⟨Je _,s6.trans s7,fun _ _ _ e=>e,⟨a5,by simpa using c6.up s7⟩,_,_,_,rfl⟩ (fun j σ H8 _ h=>SqL.of (h.2.2.1 _ _ b7 u7)) ?_ ?_⟩
   ·rintro j u8 σ H8 b8 ⟨_,s8,k8,⟨a0,c8⟩,U,Y,o9,rfl⟩;have hj:=(IZ.mp b8).1;obtain⟨be,d1,pb,rfl,a7⟩:=bB a6 b8;have d2:pb≠dp:=fun z=>by
     have:=s7 _ _ c6.dn.at_
     rw[z,this]at a7;exact nomatch a7
    have d3:(bD L sq k).take (j + 1)=(bD L sq k).take j++[be]:=by rw[Jw,d1];rfl
    refine⟨pb,_,rfl,SqT.of (k8 _ _ d2 a7),rfl,_,_,rfl,_,_,rfl,rfl,?_⟩;have a8:p5≠dp:=fun z=>by rw[z,c6.dn.at_]at w6;exact nomatch w6
    refine⟨p5,sq,k,be.1,be.2,rfl,k8 _ _ a8 (s7 _ _ w6),hk,fun r p1 p2 H9 s9 wr w1 w2 =>?_⟩;refine⟨r,_,_,_,rfl,rfl,SqT.of wr,rfl,r,_,_,_,rfl,rfl,SqT.of wr,rfl,(leZ rfl),fun pk d5 =>?_⟩;generalize b9:upd H9 pk _=c0;have a1:ak H9 c0:=b9▸ak.new d5 _;have d7:c0 pk=some (.tup [.ref p1,.int (k:Int)]):=by rw[← b9];exact ah
    have a9:=c8.up (s9.trans a1);have d8:=a9.len;rw[I8,I8,I0,JO]at d8;refine⟨dp,pk,(gen sq k be).1,a0,rfl,rfl,a9.dn,⟨p1,d7,a1 _ _ w1⟩,rfl,Jt (by
     have h1:k * L.length≤3 * 1500:=KY (by lia) (by lia)
     lia:a0.length < 9000001) (by decide),fun d9 =>?_⟩
    refine⟨hj,ak.set ((s8.trans s9).trans a1) b4 _,fun b o hb e=>by rw[aG hb];exact (s9.trans a1) _ _ (k8 b o hb e),⟨dj a0 (gen sq k be).1 pk (.ref p2),?_⟩,_,_,_,rfl⟩;rw[d3,Jn,← Jx];exact a9.put (p:=gen sq k be) (a1 _ _ w2) rfl d9
   ·rintro σ H8 ⟨_,s8,k8,⟨a0,c8⟩,U,Y,o9,rfl⟩;rw[show (bD L sq k).take ub.length=bD L sq k from Ji (by lia)]at c8;have a8:p5≠dp:=fun z=>by rw[z,c6.dn.at_]at w6;exact nomatch w6
    refine⟨hk,s8,k8 _ _ c3 (s7 _ _ d6),k8 _ _ a8 (s7 _ _ w6),⟨a0,?_⟩,_,_,_,_,rfl⟩;rw[xQ,← Jx];exact c8
  ·rintro σ H6 ⟨_,s6,d6,w6,⟨a5,c6⟩,o6,U,Y,o9,rfl⟩;refine⟨hi,s6,d6,⟨a5,?_⟩,_,_,_,_,_,_,rfl⟩;rw[et,Fy];exact c6
 ·rintro σ H4 ⟨_,s4,d4,⟨xs,c4⟩,o4,o5,o6,U,Y,o9,rfl⟩;rw[I0,Kq]at c4;exact (q' dp xs H4 s4 b4 c4)
end
def dH (x:Pt × Nat):NK:=(x.1,(x.2:Int))
theorem vP (h:dH x=dH y):x=y:=by
 have h1:=Jz Prod.fst h;have h2:=Jz Prod.snd h;simp only[dH]at h1 h2;exact Prod.ext h1 (by lia)
section
variable {P:Pg9}{w:Wd9}{H:Hp}{a:Addr}{xs:List NE}{L M:List Sq}{W col:Int}
theorem Pcd.get (h:Pcd P w H a xs (GL L M))(J:Lnd L M W col)(O:DG L M x.1 x.2=some e):∃ c,nkV xs (dH x)=some (.ref c)∧H c=some (.tup [.int e.1,.int e.2]):=by
 have B:=ou O;obtain⟨v,G⟩:=JG.mp (h.all _ B);obtain⟨b,U⟩:=mL G;obtain⟨p,Y,ep,c,ec,hc⟩:=h.ent _ U;have e1:p.2=e:=yJ J (k:=p.1) Y (by rw[ep];exact B);subst e1;exact⟨c,by rw[← ec];exact G,hc⟩
theorem Pcd.has (h:Pcd P w H a xs (GL L M))(x:Pt × Nat):(nkV xs (dH x)).isSome=(DG L M x.1 x.2).isSome:=by
 rw[Ki];constructor
 ·intro B;obtain⟨v,G⟩:=JG.mp B;obtain⟨b,J⟩:=mL G;obtain⟨p,O,ep,_⟩:=h.ent _ J;unfold DG;rw[Kc,LA];exact⟨p,O,Jd ep⟩
 ·intro B;obtain⟨e,U⟩:=JG.mp B;exact h.all _ (ou U)
end
def fe (L M:List Sq):LP9:=(GL L M).map fun p=>(p.1.1,p.1.2.toNat)
theorem bZ:x∈fe L M↔(DG L M x.1 x.2).isSome=true:=by
 constructor
 ·intro h;obtain⟨p,B,rfl⟩:=I9.mp h;obtain⟨q,O,d,U,G,Y,rfl⟩:=ju.mp B;unfold DG;rw[Kc,LA];exact⟨gen q d G,B,Jd (by simp[gen])⟩
 ·intro h;obtain⟨e,J⟩:=JG.mp h;exact I9.mpr ⟨_,ou J,by simp⟩
theorem yd (h:Lnd L M W col)(B:(DG L M x.1 x.2).isSome=true):(DG L M (nx (DG L M) x).1 (nx (DG L M) x).2).isSome=true:=by
 obtain⟨p,ep⟩:=JG.mp B;obtain⟨G,h1,h2,_⟩:=kL (pcs h) (a:=x.1) (d:=x.2) ep;have h1':nx (DG L M) x=(p,G):=h1;rw[h1'];exact h2
theorem nR (h:Lnd L M W col)(G:(DG L M x.1 x.2).isSome=true):∃ N,0 < N∧N≤(GL L M).length∧(it (nx (DG L M)) N x=x∧∀ i j,i < j→j < N→it (nx (DG L M)) i x≠it (nx (DG L M)) j x):=by
 obtain⟨N,h1,h2,J⟩:=Hr (f:=nx (DG L M)) (S:=fe L M) (fun a B=>bZ.mpr (yd h (bZ.mp B))) (fun a b B O e=>Gn (pcs h) (bZ.mp B) (bZ.mp O) e) (bZ.mpr G);unfold fe at h2;rw[I0]at h2;exact⟨N,h1,h2,J⟩
theorem C8 (h:Lnd L M W col)(B:(DG L M x.1 x.2).isSome=true)(i:Nat):(DG L M (it (nx (DG L M)) i x).1 (it (nx (DG L M)) i x).2).isSome=true :=
 n9 (S:=fun y:Pt × Nat=>(DG L M y.1 y.2).isSome=true) (fun _ h'=>yd h h') B i
theorem CL (h:iE H k a):Dat H (.ref a) (.tuple [.tuple [.int k.1.1,.int k.1.2],.int k.2]):=by
 obtain⟨b,h1,h2⟩:=h;exact .tup h1 (.cons (.tup h2 (.cons (.int _) (.cons (.int _) .nil))) (.cons (.int _) .nil))
theorem CK (k l:NK):PyData.eqv (.tuple [.tuple [.int k.1.1,.int k.1.2],.int k.2]) (.tuple [.tuple [.int l.1.1,.int l.1.2],.int l.2])=decide (k=l):=by
 rw[Ki,JV];simp[PyData.eqv,PyData.eqvAll,Prod.ext_iff]
theorem tw (k:NK):SeqAt.shaped (.tuple [.tuple [.int k.1.1,.int k.1.2],.int k.2])=true:=by
 rfl
section
variable {P:Pg9}{w:Wd9}{K:Frag}{mg:Mg9}{base:Heap}{CX:CXT}{f:Addr}{fd:Fd9}
abbrev gJ:Stmt:=top 42
theorem dR:aE ["pieces","piece","point","way","onward"] ["pieces","piece"] (aq gJ):={}
inductive iV  (P:Pg9)(w:Wd9)(vs:List V)(H:Hp)(Q:VK):Prop
 | mk (dp a:Addr) (xs:List NE) (L M:List Sq) (W col:Int) (x:Pt × Nat) (h_0:vs=[.ref dp,.ref a]) (h_1:Pcd P w H dp xs (GL L M)) (h_2:Lnd L M W col) (h_3:iE H (dH x) a) (h_4:(DG L M x.1 x.2).isSome=true) (h_5:∀ r H',ak H H'→iE H' (dH (nx (DG L M) x)) r→Q (.ref r) H'):iV P w vs H Q
def jA  (P:Pg9)(w:Wd9):Sp:=fun vs H Q _=>iV P w vs H Q
theorem oX (T:Tx K mg)(F:bE K "piece_behind" "piece_behind" gJ f fd .none):bF P w K mg base CX 1 f fd ["pieces","piece"] (jA P w):=by
 refine F.ok dR (fun vs H Q E h =>?_) (fun a4 A outer s H vs Q E hr h =>?_)
 ·obtain⟨_,_,_,_,_,_,_,_,rfl,_⟩:=h;rfl
 obtain⟨dp,a,xs,L,M,W,col,⟨b,d⟩,rfl,hc,hl,hk,hx,q'⟩:=h;refine⟨_,(ac (ao (i:=2) dR (Cs hr.nest (pv 0) (pv 1) (fun _ _=>rfl))) (ac (ao (i:=3) dR (ay aD (pv 1) ae)) (ac (aR Jm rfl (xV (aF (av (ai aN (ai aI (pv 3) ae) ae) (av (pv 3) au)))) (aY (i:=4) dR) (ag (bG (aH (Gh hr.nest) (aF (av (pv 2) (av (pv 4) au))) (pv 0) (by with_unfolding_all rfl)) (ag (aB (aF (av (pv 2) (av (pv 4) au))))) aO))) (ag (aB (aF (av (pv 2) (av (ai aN (ai aI (pv 3) ae) ae) au)))))))),?_⟩;obtain⟨e,Y⟩:=JG.mp hx;obtain⟨c,hv,O⟩:=hc.get hl (x:=(b,d)) Y;have h4:=(pcs hl).way Y;obtain⟨bb,k1,k2⟩:=id hk;refine⟨dp,a,dH (b,d),xs,.ref c,rfl,rfl,hc.dn,hk,hv,?_⟩;refine⟨a,_,_,_,rfl,rfl,SqT.of k1,rfl,?_⟩;have m1:((d:Int) + 1) % 4=(((d + 1) % 4:Nat):Int):=by rfl
 have m3:((d:Int) + 3) % 4=(((d + 3) % 4:Nat):Int):=by rfl
 have z2:2≤sizeLine:=by decide
 refine⟨(by show (0:Int) < 4;decide),z2,fun pt a1 =>?_⟩;have w1:upd H pt (.tup [.int (((d:Int) + 1) % 4),.int (d:Int)]) pt=some (.tup [.int (((d:Int) + 1) % 4),.int (d:Int)]):=ah;have s1:=ak.new a1 (.tup [.int (((d:Int) + 1) % 4),.int (d:Int)]);refine⟨pt,rfl,⟨_,SqT.of w1⟩,vp (xs:=[.int (((d:Int) + 1) % 4),.int (d:Int)]) (fun (i:Nat) σ H2=>i≤2∧ak (upd H pt (.tup [.int (((d:Int) + 1) % 4),.int (d:Int)])) H2∧(0 < i→¬ (DG L M e ((d + 1) % 4)).isSome=true)∧(1 < i→¬ (DG L M e d).isSome=true)∧∃ o4:OW9,σ=[some (.ref dp),some (.ref a),some (.ref c),some (.int (d:Int)),o4])
  ⟨Je _,ak.refl _,fun h=>absurd h (KO _),fun h=>absurd h (by decide),none,rfl⟩ (fun i σ H2 _ h=>SqT.of (h.2.1 _ _ w1)) ?_ ?_⟩
 ·rintro i u σ H2 hu ⟨_,s2,n0,n1,o4,rfl⟩;have B:=s1.trans s2;have a5:=hc.up B;obtain⟨g,a2,G,a6,a3⟩:∃ g:Nat,u=.int (g:Int)∧(g=if i=0 then (d + 1) % 4 else d)∧i < 2∧((DG L M e g).isSome=true→nx (DG L M) (b,d)=(e,g)):=by
   rcases i with _|_|i
   ·refine⟨(d + 1) % 4,?_,rfl,by decide,fun h =>?_⟩
    ·rw[← m1];exact (Option.some.inj hu).symm
    ·rw[pS Y,if_pos h]
   ·refine⟨d,(Option.some.inj hu).symm,rfl,by decide,fun h =>?_⟩;rw[pS Y,if_neg (n0 (by decide)),if_pos h]
   ·exact absurd hu (by simp)
  subst a2;refine⟨z2,nw fun p3 H3 a7 s3 w3 =>?_⟩;have J:=B.trans s3;have a0:=hc.up J;have has:=a0.has (e,g);refine⟨dp,p3,dH (e,g),xs,rfl,rfl,a0.dn,⟨c,w3,J _ _ O⟩,aA (cz (fun c1 =>?_) (fun c1 =>?_))⟩
  ·have c1':(nkV xs (dH (e,g))).isSome=true:=c1;rw[has]at c1';refine⟨z2,fun p4 U =>?_⟩;have s4:=ak.new U (.tup [.ref c,.int (g:Int)]);refine q' p4 _ (J.trans s4) ?_;rw[a3 c1'];exact⟨c,ah,(J.trans s4) _ _ O⟩
  ·have c1':¬ (nkV xs (dH (e,g))).isSome=true:=c1;rw[has]at c1';have c2:¬ (DG L M e g).isSome=true:=c1';refine⟨by assumption,s2.trans s3,fun _ =>?_,fun h1 =>?_,_,rfl⟩
   ·rcases i with _|i
    ·rw[if_pos rfl]at G;rw[← G];exact c2
    ·exact n0 (LD _)
   ·have i1:i=1:=by lia
    rw[i1]at G;rw[if_neg (by decide)]at G;rw[← G];exact c2
 ·rintro σ H2 ⟨_,s2,n0,n1,o4,rfl⟩;have B:=s1.trans s2;refine⟨(by show (0:Int) < 4;decide),z2,fun p4 U =>?_⟩;show Q (.ref p4) (upd H2 p4 (.tup [.ref c,.int (((d:Int) + 3) % 4)]));rw[m3];have s4:=ak.new U (.tup [.ref c,.int (((d + 3) % 4:Nat):Int)]);refine q' p4 _ (B.trans s4) ?_;rw[pS Y,if_neg (n0 (LD 1)),if_neg (n1 (LK 1))];exact⟨c,ah,(B.trans s4) _ _ O⟩
def RkV (H:Hp)(u:V)(x:Pt × Nat):Prop:=∃ a,u=.ref a∧iE H (dH x) a
theorem RkV.up (h:RkV H u x)(s:bQ H H'):RkV H' u x:=by
 obtain⟨a,e,k⟩:=h;exact⟨a,e,k.up s⟩
def bI (D:PD9)(x:Pt × Nat)(N:Nat):LP9:=(List.range N).map fun i=>it (nx D) i x
theorem xN (D:PD9)(x:Pt × Nat)(N:Nat):bI D x (N + 1)=bI D x N++[it (nx D) N x]:=by
 unfold bI;rw[Kt,Jn];rfl
def Per (D:PD9)(x:Pt × Nat)(N:Nat):Prop:=0 < N∧it (nx D) N x=x∧∀ i j,i < j→j < N→it (nx D) i x≠it (nx D) j x
abbrev jO:Stmt:=top 43
theorem fX:aE ["pieces","first","ring","piece"] ["pieces","first"] (aq jO):={}
inductive lH  (P:Pg9)(w:Wd9)(vs:List V)(H:Hp)(Q:VK):Prop
 | mk (dp a:Addr) (xs:List NE) (L M:List Sq) (W col:Int) (x:Pt × Nat) (h_0:vs=[.ref dp,.ref a]) (h_1:Pcd P w H dp xs (GL L M)) (h_2:Lnd L M W col) (h_3:iE H (dH x) a) (h_4:(DG L M x.1 x.2).isSome=true) (h_5:(GL L M).length≤9000000) (h_6:∀ N l us H',Per (DG L M) x N→N≤(GL L M).length→ak H H'→H l=none→H' l=some (.lst us)→Paired (RkV H') us (bI (DG L M) x N)→Q (.ref l) H'):lH P w vs H Q
def my  (P:Pg9)(w:Wd9):Sp:=fun vs H Q _=>lH P w vs H Q
theorem uQ (T:Tx K mg)(q:bW CX)(F:bE K "ring_from" "ring_from" jO f fd .none)(B:Fok P w K mg base CX 1 "piece_behind" ["pieces","piece"] [] (jA P w)):bF P w K mg base CX 2 f fd ["pieces","first"] (my P w):=by
 refine F.ok fX (fun vs H Q E h =>?_) (fun a9 A outer s H vs Q E hr h =>?_)
 ·obtain⟨_,_,_,_,_,_,_,_,rfl,_⟩:=h;rfl
 obtain⟨dp,a,xs,L,M,W,col,x,rfl,hc,hl,hk,hx,hG,q'⟩:=h;refine⟨_,(ac (ao (i:=2) fX (aP (av (pv 1) au))) (ac (ao (i:=3) fX (aj B q hr (aa (pv 0) (aa (pv 1) af)))) (ac (jX Jm (aH (uN hr) (pv 3) (pv 1)) (ac (ba (bn (pv 2) (aa (pv 3) af))) (ag (ao (i:=3) fX (aj B q hr (aa (pv 0) (aa (pv 3) af))))))) (ag (aB (pv 2)))))),?_⟩;obtain⟨N,hN,a1,G⟩:=nR hl hx;refine⟨(leZ rfl),fun l U =>?_⟩;have s1:=ak.new U (.lst [.ref a]);have w1:upd H l (.lst [.ref a]) l=some (.lst [.ref a]):=ah
 change BN _ _ _ _ (upd H l (.lst [.ref a]))
 generalize upd H l (.lst [.ref a])=H1 at *;have b0:dp≠l:=fun z=>by
  have:=hc.dn.at_
  rw[z,U]at this;cases this
 refine⟨dp,a,xs,L,M,W,col,x,rfl,hc.up s1,hl,hk.up fun b ys e=>s1 _ _ e,hx,fun r H2 s2 a2 =>?_⟩;refine⟨fun m σ J=>∃ (k:Nat) (us:List V) (r:Addr),m + k=N∧0 < k∧k≤N∧ak H J∧J l=some (.lst us)∧Paired (RkV J) us (bI (DG L M) x k)∧iE J (dH (it (nx (DG L M)) k x)) r∧σ=[some (.ref dp),some (.ref a),some (.ref l),some (.ref r)],⟨N - 1,1,[.ref a],r,by lia,by decide,hN,s1.trans s2,s2 _ _ w1,.cons ⟨a,rfl,hk.up fun b ys e=>(s1.trans s2) _ _ e⟩ .nil,a2,rfl⟩,?_⟩;rintro m σ J ⟨k,us,O,hm,a3,b1,s3,w3,hP,Y,rfl⟩;have a0:=Paired.length hP;unfold bI at a0;rw[I0,K4]at a0;have a4:=hk.up fun b ys e=>s3 _ _ e;refine⟨_,_,CL Y,CL a4,tw _,tw _,aA (cz (fun c =>?_) (fun c =>?_))⟩
 rotate_left
 ·have e1:it (nx (DG L M)) k x=x:=by
   have c':¬ (!PyData.eqv _ _)=true:=c;rw[CK]at c';cases hh:decide (dH (it (nx (DG L M)) k x)=dH x) with
   | true=>exact vP (JB hh)
   | false=>rw[hh]at c';exact absurd rfl c'
  have ek:k=N:=by
   rcases KW k N with h|h
   ·exact absurd e1.symm (G.2 0 k a3 h)
   ·lia
  subst ek;exact (q' k l us J ⟨hN,G.1,G.2⟩ a1 s3 U w3 hP)
 have ne:it (nx (DG L M)) k x≠x:=fun e=>by
  have c':(!PyData.eqv _ _)=true:=c;rw[CK,e,Jd rfl]at c';cases c'
 have a5:k < N:=by
  rcases KW k N with h|h
  ·exact h
  ·exact absurd (show it (nx (DG L M)) k x=x by rw[show k=N by lia];exact G.1) ne
 refine⟨fun σ' H4=>∃ (us:List V) (r:Addr),ak H H4∧H4 l=some (.lst us)∧Paired (RkV H4) us (bI (DG L M) x (k + 1))∧iE H4 (dH (it (nx (DG L M)) (k + 1) x)) r∧σ'=[some (.ref dp),some (.ref a),some (.ref l),some (.ref r)],fun σ' H4 ⟨us,r,h1,h2,h3,h4,h5⟩=>⟨m - 1,by lia,k + 1,us,r,by lia,LD _,a5,h1,h2,h3,h4,h5⟩,?_⟩;refine⟨.inl ⟨rfl,_,SqL.of w3⟩,l,us,_,rfl,rfl,w3,Jt (by lia:us.length < 9000001) (by decide),?_⟩;have t4:bQ J (upd J l (.lst (us++[.ref O]))):=cY w3 (by intro xs q;cases q);have s4:ak H (upd J l (.lst (us++[.ref O]))):=ak.set s3 U _;have w4:upd J l (.lst (us++[.ref O])) l=some (.lst (us++[.ref O])):=ah;have a6:Paired (RkV (upd J l (.lst (us++[.ref O])))) (us++[.ref O]) (bI (DG L M) x (k + 1)):=by
  rw[xN];exact cA (Paired.mapP hP fun _ _ h=>h.up t4) (.cons ⟨O,rfl,Y.up t4⟩ .nil)
 have a7:=Y.up t4;generalize upd J l (.lst (us++[.ref O]))=H4 at *;refine⟨dp,O,xs,L,M,W,col,it (nx (DG L M)) k x,rfl,hc.up s4,hl,a7,C8 hl hx k,fun r5 H5 s5 a8 =>?_⟩;exact⟨us++[.ref O],r5,s4.trans s5,s5 _ _ w4,Paired.mapP a6 fun _ _ h=>h.up s5.tups,a8,rfl⟩
end
theorem EX (gt:aQ n t)(G:∀ d∈z,d < 4)(h:jK t z=some (.col c)):∃ q∈sqs [] t 0 0 n,q.z=z∧q.c=c:=by
 have go:∀ (z:List Nat) (t:Tr) (p:List Nat) (x y k:Nat),aQ k t→(∀ d∈z,d < 4)→jK t z=some (.col c)→∃ q∈sqs p t x y k,q.z=p++z∧q.c=c:=by
  intro z
  induction z with
  | nil =>
   intro t p x y k _ _ h;have e:t=.col c:=Option.some.inj h;subst e;exact⟨⟨p,c,x,y,2 ^ k⟩,Jc.mpr rfl,by simp,rfl⟩
  | cons d z ih =>
   intro t p x y k g G h;cases t with
   | col i=>cases h
   | four a b cc dd =>
    rcases k with _|k
    ·exact g.elim
    have U:=G d Jg;have h4':∀ e∈z,e < 4:=fun e O=>G e (Ja _ O);have J:=g.q d;have app:∀ e,p++[e]++z=p++e::z:=fun e=>by simp
    show ∃ q∈sqs (p++[0]) a x y k++(sqs (p++[1]) b (x + 2 ^ k) y k++(sqs (p++[2]) cc x (y + 2 ^ k) k++sqs (p++[3]) dd (x + 2 ^ k) (y + 2 ^ k) k)),_;rcases d with _ | _ | _ | _ | d
    ·obtain⟨q,h1,h2,B⟩:=ih a (p++[0]) x y k J h4' h;exact⟨q,JS _ h1,by rw[h2,app],B⟩
    ·obtain⟨q,h1,h2,B⟩:=ih b (p++[1]) (x + 2 ^ k) y k J h4' h;exact⟨q,JD _ (JS _ h1),by rw[h2,app],B⟩
    ·obtain⟨q,h1,h2,B⟩:=ih cc (p++[2]) x (y + 2 ^ k) k J h4' h;exact⟨q,JD _ (JD _ (JS _ h1)),by rw[h2,app],B⟩
    ·obtain⟨q,h1,h2,B⟩:=ih dd (p++[3]) (x + 2 ^ k) (y + 2 ^ k) k J h4' h;exact⟨q,JD _ (JD _ (JD _ h1)),by rw[h2,app],B⟩
    ·lia
 obtain⟨q,h1,h2,B⟩:=go z t [] 0 0 n gt G h;exact⟨q,h1,by rw[h2];rfl,B⟩
theorem Cz {L:List Sq}(h:L.Pairwise ff){q r:Sq}(B:q∈L)(G:r∈L){x y:Nat}(a:q.x≤x∧x < q.x + q.w∧q.y≤y∧y < q.y + q.w)(b:r.x≤x∧x < r.x + r.w∧r.y≤y∧y < r.y + r.w):q=r:=by
 rcases kT h B G with e|e|e
 ·exact e
 ·unfold Sep at e
  lia
 ·unfold Sep at e
  lia
theorem zx {t:Tr}{n X Y:Nat}(gt:aQ n t)(xn:X < 2 ^ n)(yn:Y < 2 ^ n){L:List Sq}(eL:L=sqs [] t 0 0 n){q0:Sq}(U:q0∈L)(ins:q0.x≤X∧X < q0.x + q0.w∧q0.y≤Y∧Y < q0.y + q0.w){i:Nat}{c:Int}(hi:i≤n)(B:jK t ((low n X Y).take i)=some (.col c)):(low n X Y).take i=q0.z:=by
 obtain⟨z,G⟩:∃ z,z=(low n X Y).take i:=⟨_,rfl⟩;rw[← G]at B ⊢;have z4:∀ e∈z,e < 4:=fun e he=>by
  rw[G]at he;have he':=KB he;unfold low at he';obtain⟨i',_,rfl⟩:=I9.mp he';exact yz _ _ _
 have hB:L.Pairwise ff:=by rw[eL];exact dv t [] 0 0 n gt
 obtain⟨q1,J,e1,_⟩:=EX gt z4 B;obtain⟨w1,e2,_,_,hl,ex,ey,ew⟩:=fL t [] 0 0 n gt q1 J;rw[Ku]at e2;have O:w1=z:=by rw[← e2,e1]
 have lz:z.length=i:=by rw[G,JO,uZ];lia
 have cx:cxs z=X / 2 ^ (n - i):=by rw[G];exact zU xn i hi
 have cy:cys z=Y / 2 ^ (n - i):=by rw[G];exact zT yn i hi
 rw[O,lz,KH]at ex ey;rw[O,lz]at ew;rw[cx]at ex;rw[cy]at ey;have pp:=Kw (n - i);have m1:=Mk X (2 ^ (n - i));have m2:=Nat.mod_lt X pp;have m3:=Mk Y (2 ^ (n - i));have m4:=Nat.mod_lt Y pp;rw[LF]at m1 m3
 have:q1=q0:=Cz hB (by rw[eL];exact J) U (x:=X) (y:=Y) ⟨by lia,by lia,by lia,by lia⟩ ins
 rw[← e1,this]
theorem EC (h:Per D x N)(h':Per D x N'):N=N':=by
 rcases L7 N N' with c|c|c
 ·exact absurd (h.2.1).symm (h'.2.2 0 N h.1 c)
 ·exact c
 ·exact absurd (h'.2.1).symm (h.2.2 0 N' h'.1 c)
noncomputable def per (D:PD9)(x:Pt × Nat):Nat:=open Classical in if h:∃ N,Per D x N then Classical.choose h else 0
theorem Cm (h:Per D x N):per D x=N:=by
 have B:∃ N,Per D x N:=⟨N,h⟩;unfold per;rw[dif_pos B];exact EC (Classical.choose_spec B) h
noncomputable def cL (D:PD9)(x:Pt × Nat):LP9:=bI D x (per D x)
def prv (N i:Nat):Nat:=if i=0 then N - 1 else i - 1
def dL (R:LP9)(i:Nat):Pt × Nat:=(R[i]?).getD ((0,0),0)
def cU (R:LP9)(i:Nat):Bool:=decide ((dL R i).2≠(dL R (prv R.length i)).2)
def iC (R:LP9)(j:Nat):List Pt:=((List.range j).filter (cU R)).map fun i=>(dL R i).1
def iD (R:LP9):List Pt:=iC R R.length
noncomputable def jM (D:PD9)(x:List (List Pt) × LP9)(k:Pt × Nat):List (List Pt) × LP9:=open Classical in if k∈x.2 then x else (x.1++[iD (cL D k)],x.2++cL D k)
noncomputable def aK (D:PD9)(ys:LP9):List (List Pt) × LP9:=ys.foldl (jM D) ([],[])
theorem fY (D:PD9)(ys:LP9)(k:Pt × Nat):aK D (ys++[k])=jM D (aK D ys) k:=by
 unfold aK;rw[K5];rfl
def RgV (H0:Hp)(lt:Addr)(H:Hp)(u:V)(ps:List Pt):Prop:=∃ l us,u=.ref l∧l≠lt∧H0 l=none∧H l=some (.lst us)∧jG H us ps
theorem RgV.keep (h:RgV H0 lt H u ps)(h1:∀ b xs,b≠lt→H b=some (.lst xs)→H' b=some (.lst xs))(t:bQ H H'):RgV H0 lt H' u ps:=by
 obtain⟨l,us,e,B,G,J,O⟩:=h;exact⟨l,us,e,B,G,h1 l us B J,O.up t⟩
structure Gon (P:Pg9)(w:Wd9)(H:Hp)(dg:Addr)(L M:List Sq)(gs:LP9)(xs:List NE):Prop where
 dn:DN P w H dg xs
 nd:(xs.map (·.1)).Nodup
 sub:∀ e∈xs,∃ x∈fe L M,e.1=dH x
 has:∀ x,(nkV xs (dH x)).isSome=true↔x∈gs
theorem zc (xs:List NE)(k:NK)(a:Addr)(v:V):(dj xs k a v).map (·.1)=if (nkV xs k).isSome=true then xs.map (·.1) else xs.map (·.1)++[k]:=by
 unfold dj
 split
 ·rw[JE];refine Jk fun e _ =>?_;by_cases c:e.1=k<;>simp[c]
 ·simp
theorem CN (h:¬ (nkV xs k).isSome=true):k∉xs.map (·.1):=fun B=>by
 obtain⟨e,G,J⟩:=I9.mp B;apply h
 unfold nkV;rw[Kc,LA];exact⟨e,G,Jd J⟩
section
variable {P:Pg9}{w:Wd9}{H H':Hp}{dg b:Addr}{L M:List Sq}{gs:LP9}{xs:List NE}
theorem Gon.len (h:Gon P w H dg L M gs xs):xs.length≤(GL L M).length:=by
 have:=kM (S:=(fe L M).map dH) h.nd fun k B=>by
  obtain⟨e,G,rfl⟩:=I9.mp B;obtain⟨x,J,ex⟩:=h.sub e G;rw[ex];exact I9.mpr ⟨x,J,rfl⟩
 unfold fe at this
 rwa [I0,I0,I0]at this
theorem Gon.up (h:Gon P w H dg L M gs xs)(s:ak H H'):Gon P w H' dg L M gs xs:=⟨h.dn.up s,h.nd,h.sub,h.has⟩
theorem Gon.keep (h:Gon P w H dg L M gs xs)(h1:H' dg=H dg)(t:bQ H H'):Gon P w H' dg L M gs xs:=⟨h.dn.keep h1 t,h.nd,h.sub,h.has⟩
theorem Gon.put (h:Gon P w H dg L M gs xs)(U:x∈fe L M)(D:DN P w H' dg (dj xs (dH x) b v)):Gon P w H' dg L M (gs++[x]) (dj xs (dH x) b v):=by
 refine⟨D,?_,fun e Y =>?_,fun y =>?_⟩
 ·rw[zc]
  split
  ·exact h.nd
  ·rename_i c
   rw[K3];refine⟨h.nd,by simp,fun a O b hb e =>?_⟩;rw[e,Jc.mp hb]at O;exact CN c O
 ·have B:e.1∈(dj xs (dH x) b v).map (·.1):=I9.mpr ⟨e,Y,rfl⟩;rw[zc]at B;have G:e.1∈xs.map (·.1)→∃ x∈fe L M,e.1=dH x:=fun B=>by
   obtain⟨e',J,ee⟩:=I9.mp B;obtain⟨y,hy,ey⟩:=h.sub e' J;exact⟨y,hy,ee.symm.trans ey⟩
  split at B
  ·exact G B
  ·rcases Jj.mp B with B|B
   ·exact G B
   ·exact⟨x,U,Jc.mp B⟩
 ·rw[zm,Bool.or_eq_true,h.has,Jj,Jc,JV];constructor
  ·rintro (e | e)
   ·exact .inr (vP e).symm
   ·exact .inl e
  ·rintro (e | e)
   ·exact .inr e
   ·exact .inl (by rw[e])
end
theorem Eg (s:cq T H H')(t:fT T H')(h:H' b=none):H b=none:=by
 cases e:H b with
 | none=>rfl
 | some o =>
  by_cases hm:b∈T.map (·.1)
  ·obtain⟨p,m,G⟩:=I9.mp hm;obtain⟨q,B,_⟩:=t p m;rw[G,h]at B;cases B
  ·have:=s _ _ e hm
   rw[h]at this;cases this
def kx (e:NE):Pt × Nat:=(e.1.1,e.1.2.toNat)
theorem G4 (h:p∈GL L M):dH (p.1.1,p.1.2.toNat)=p.1:=by
 obtain⟨q,_,d,_,B,_,rfl⟩:=ju.mp h;unfold dH gen;exact Prod.ext rfl (by simp)
theorem Cg (hi:i < us.length)(h:us[prv us.length i]? = some v):atI us ((i:Int) - 1)=some v:=by
 unfold prv at h;by_cases c:i=0
 ·subst c;rw[if_pos rfl]at h;have e:us=us.take (us.length - 1)++[v]:=by
   have B:us.length - 1 < us.length:=by omega
   rw[Jy B]at h;have h1:=List.take_append_getElem B;rw[Option.some.inj h,show us.length - 1 + 1=us.length by lia,Kq]at h1;exact h1.symm
  rw[e];exact DQ _ v
 ·rw[if_neg c]at h;rw[show (i:Int) - 1=((i - 1:Nat):Int) by lia];exact bV h
theorem oI (R:LP9)(j:Nat):iC R (j + 1)=iC R j++(if cU R j=true then [(dL R j).1] else []):=by
 unfold iC;rw[Kt,KJ,Jn]
 congr 1
 by_cases h:cU R j=true
 ·simp[h]
 ·simp[h]
theorem Fj {P:Pg9}{w:Wd9}{a b:Addr}{qual:Str}{xs:List NE}:oJ a qual≠dN P w a xs:=fun e=>by
 have G:∀ n:Nat,∃ h:Heap,h.objs.size=n:=fun n=>by
  induction n with
  | zero=>exact⟨{},rfl⟩
  | succ n ih =>
   obtain⟨h,B⟩:=ih;exact⟨h.push { cls:=.none,data:=.fields #[] },by rw[PyProof.Rows.size_push',B]⟩
 obtain⟨h,B⟩:=G a;have J:(h.push { cls:=.none,data:=.fields #[.none,.str qual 0] }).CodeRec (.ref a) qual:=⟨a,_,_,0,rfl,by rw[← B];exact Ju _ rfl,rfl,rfl⟩;have O:(h.push { cls:=.none,data:=.fields #[.none,.str qual 0] }).get? a=some { cls:=.none,data:=.fields #[.none,.str qual 0] }:=by rw[← B];exact Ju _ rfl
 unfold oJ dN at e;injection e with e;have U:=(congrFun e (h.push { cls:=.none,data:=.fields #[.none,.str qual 0] })).mp J;obtain⟨_,_,o,es,ep,k1,_,k3,_⟩:=U;rw[O]at k1;cases k1;exact nomatch k3
theorem Al {P:Pg9}{w:Wd9}{T:AS9}{H H':Hp}{tl dg:Addr}{us:List V}{xs:List NE}(t:fT T H)(h1:H tl=some (.lst us))(h2:H dg=some (dN P w dg xs))(k:∀ b o,b≠tl→b≠dg→H b=some o→H' b=some o):fT T H':=fun q J=>by
 obtain⟨ps,B,O,U⟩:=t q J;refine⟨ps,k _ _ (fun z=>by rw[z,h1]at B;cases B) (fun z=>by rw[z,h2]at B;exact nomatch B) B,O,fun pos Y e =>?_⟩;obtain⟨c',e1,G⟩:=U pos Y e;refine⟨c',e1,k _ _ (fun z=>by rw[z,h1]at G;exact nomatch G) (fun z =>?_) G⟩;rw[z,h2]at G;exact Fj (b:=dg) (Option.some.inj G).symm
abbrev xS:Str:=("rings" : Str) ++ ".<locals>." ++ "<lambda>"
section
variable {P:Pg9}{w:Wd9}{K:Frag}{mg:Mg9}{base:Heap}{CX:CXT}{f:Addr}{fd:Fd9}
abbrev i_:Stmt:=top 44
theorem fD:aE ["sheet","x","y","first","pieces","gone","told","piece","ring","part"] ["sheet","x","y"] (aq i_):={}
inductive tZ  (P:Pg9)(w:Wd9)(Tb:AS9)(vs:List V)(H:Hp)(Q:VK):Prop
 | mk (ps:Addr) (n x y:Nat) (v:V) (t:Tr) (q0:Sq) (h_0:vs=[.ref ps,.int (x:Int),.int (y:Int)]) (h_1:H ps=some (.tup [.int (n:Int),v])) (h_2:bS H v t) (h_3:aQ n t) (h_4:n≤40) (h_5:cnt t≤1500) (h_6:q0∈sqs [] t 0 0 n) (h_7:(q0.x≤x∧x < q0.x + q0.w∧q0.y≤y∧y < q0.y + q0.w)) (h_8:fT Tb H) (h_9:∀ A zs ys l us H',a_ (sqs [] t 0 0 n) A zs→(∀ k,k∈ys↔k∈fe (sqs [] t 0 0 n) (aJ (sqs [] t 0 0 n) A q0.z))→ys.Pairwise (fun a b=>ltI (b.1.2,b.1.1) (a.1.2,a.1.1)=false)→cq Tb H H'→fT Tb H'→H l=none→H' l=some (.lst us)→Paired (RgV H l H') us (aK (DG (sqs [] t 0 0 n) (aJ (sqs [] t 0 0 n) A q0.z)) ys).1→us.length≤9000000→Q (.ref l) H'):tZ P w Tb vs H Q
def mw  (P:Pg9)(w:Wd9)(Tb:AS9):Sp:=fun vs H Q _=>tZ P w Tb vs H Q
theorem CF (T:Tx K mg)(q:bW (CXe P w))(F:Fz K "rings" "rings" i_ f fd .none Pa)(KX:K.In base)(hB:nA mg base)(hT:(Pa,xS)∈Tb)(j7:(Tb.map (·.1)).Nodup)(c0:Fok P w K mg base (CXe P w) 5 "leaf_at" ["sheet","x","y"] [] lK)(G:Fok P w K mg base (CXe P w) 45 "alike_around" ["sheet"] [] fP)(J:Fok P w K mg base (CXe P w) 1 "members_from" ["around","first"] [] fM)(O:Fok P w K mg base (CXe P w) 45 "pieces_round" ["sheet","codes"] [] (jz P w))(b0:Fok P w K mg base (CXe P w) 2 "ring_from" ["pieces","first"] [] (my P w)):
  bF P w K mg base (CXe P w) 50 f fd ["sheet","x","y"] (mw P w Tb):=by
 refine F.ok KX fD (fun vs H Q E h =>?_) (fun c A outer s H vs Q E hC hr h =>?_)
 ·obtain⟨_,_,_,_,_,_,_,rfl,_⟩:=h;rfl
 obtain⟨ps,n,x,y,v,t,q0,rfl,f8,ht,gt,hn,hc,e0,ins,j8,q'⟩:=h;refine⟨_,(ac (ao (i:=3) fD (aj c0 q hr (aa (pv 0) (aa (pv 1) (aa (pv 2) af))))) (ac (ao (i:=4) fD (aj O q hr (aa (pv 0) (aa (iM (N':=["code","other"]) [] [] [] 2 {} (bO (aj J q hr (aa (aj G q hr (aa (pv 0) af)) (aa (pv 3) af)))) (fun _ _ _ _ _=>(pP (K:=K) (n:=2) rfl (aW (hJ (i:=0)) (aW (hJ (i:=1)) dC)))) (fun _ _ _ _ _=>(pv 0))) af)))) (ac (ao (i:=5) fD wj) (ac (ao (i:=6) fD (aP au)) (ac (aR Jm rfl (bO (Cp hr T.b_sorted hB hC rfl hT j7 rfl (by exact⟨rfl,rfl,rfl,by decide +kernel,by decide +kernel,by decide +kernel,by decide +kernel,by decide +kernel⟩) (aa (pv 4) af))) (aY (i:=7) fD) (ag (bG (aH (AI hr.nest) (pv 7) (pv 5) (by with_unfolding_all rfl)) (ac (xT (i:=8) fD.nd rfl (Or.inr rfl) (aj b0 q hr (aa (pv 4) (aa (pv 7) af)))) (ac (ba (bn (pv 6) (aa (s_ (N':=["at","ring"]) ["ring"] ["ring"] [8] 1 {} (bR rfl T.b_range (aa (az bC rfl T.b_len cW (aa (pv 8) af)) af)) (fun _ _ _ _ _=>(hJ (i:=0))) (fun _ _ _ _ _=>(aH qP (ay (kO (K:=K)) (ay (mQ (K:=K)) (pv 1) (pv 0)) ae) (ay (kO (K:=K)) (ay (mQ (K:=K)) (pv 1) (ai fq (pv 0) ae)) ae))) (fun _ _ _ _ _=>(ay (kO (K:=K)) (ay (mQ (K:=K)) (pv 1) (pv 0)) ae))) af))) (ag (aR Jm rfl (bO (pv 8)) (aY (i:=9) fD) (ag (wf hr.nest (pv 5) (pv 9) k_ (mq rfl))))))) aO))) (ag (aB (pv 6)))))))),?_⟩
 obtain⟨L,eL⟩:∃ L,L=sqs [] t 0 0 n:=⟨_,rfl⟩;have i2:L.Pairwise ff:=by rw[eL];exact dv t [] 0 0 n gt
 have lL:L.length=cnt t:=by rw[eL];exact eu t [] 0 0 n
 obtain⟨_,f2,_,f4,_⟩:=fh t [] 0 0 n gt q0 e0;have xn:x < 2 ^ n:=by lia
 have yn:y < 2 ^ n:=by lia
 refine⟨.ref ps,t,n,x,y,rfl,⟨ps,v,rfl,f8,ht⟩,gt,hn,xn,yn,fun i cc H1 s1 hi i3 =>?_⟩;rw[zx gt xn yn eL (by rw[eL];exact e0) ins hi i3];have hz:q0.z∈L.map (·.z):=I9.mpr ⟨q0,by rw[eL];exact e0,rfl⟩;refine⟨[],rfl,ps,n,v,t,rfl,s1 _ _ f8,ht.up s1.tups,gt,hn,hc,fun da lo A H2 s2 q4 ar j9 hN _ =>?_⟩;rw[← eL]at ar hN;have Cx:a_ L A (L.map (·.z)):=⟨rfl,i2,by rw[I0];lia,hN⟩;refine⟨da,q0.z,L.map (·.z),lo,A,rfl,ar,hz,by rw[I0];lia,Cx.cl,j9,fun lm um k H3 s3 q5 i4 hM hk =>?_⟩;have bi:=BI.bfs Cx.cl hz k;have bl:=bi.len;rw[I0]at bl;have em:=uY hk (by lia);rw[← em]at hM bl hk
 clear em
 obtain⟨R,eR⟩:∃ R,R=iB A q0.z:=⟨_,rfl⟩;rw[← eR]at hM bl hk;have q6:=Paired.length hM;obtain⟨M,eM⟩:∃ M,M=aJ L A q0.z:=⟨_,rfl⟩;obtain⟨d1,i5⟩:=nZ gt (q0:=q0) (by rw[← eL];exact Cx) e0;rw[← eL,← eM]at d1 i5;have Mz:M.map (fun q=>sV q.z)=R.map fun m=>sV m.1:=by
  rw[eM,eR];unfold aJ;rw[JE];refine Jk fun m hm =>?_;have mz:=(Cx.bi hz).sub m hm;obtain⟨r,f9,er⟩:=I9.mp mz;show sV (cZ L m.1).z=sV m.1;rw[← er,kC i2 f9]
 have lM:M.length≤1500:=by
  have h1:=Jz List.length Mz;rw[I0,I0]at h1
  lia
 refine⟨lm,rfl,⟨_,SqL.of i4⟩,gX um (fun D (j:Nat) ys H'=>ak H3 H'∧H' D=some (.lst ys)∧j≤um.length∧ys=(R.take j).map fun m=>sV m.1) (JA (by lia:um.length≤2000) (by decide)) (fun D j ys H' h=>SqL.of (h.1 _ _ i4))
  (fun D j ys H' h=>⟨h.2.1,by rw[h.2.2.2,I0,JO];lia⟩) (fun D hD=>⟨ak.new hD _,ah,Je _,rfl⟩) ?_ ?_ ?_ ?_⟩
 ·rintro D j u ys H4 hu hD ⟨c1,c2,c3,c4⟩;obtain⟨mm,k0,pm,rfl,k1⟩:=bB hM hu;refine⟨pm,_,rfl,SqT.of (c1 _ _ k1),rfl,_,_,rfl,_,_,rfl,rfl,rfl,c2,ak.set c1 hD _,ah,(IZ.mp hu).1,?_⟩;rw[Jw,k0,c4,Jn];rfl
 rotate_left
 ·rintro x σ H' R R' k ⟨a,xs,e1,h1,h2,y1,r1,f1,y2,r2,f2,f6,h⟩;exact⟨a,xs,e1,h1,h2,y1,r1,f1,y2,r2,f2,f6,k _ _ h⟩
 ·intro σ H' R R' k U;obtain⟨_,e,h⟩:=aM U;exact (aZ e (k _ _ h))
 rintro D q7 H4 hD ⟨c1,uD,c3,c4⟩;rw[Ji (by lia),← Mz]at c4;subst c4;have g0:=s1.trans (s2.trans (s3.trans c1));refine⟨ps,D,n,v,t,M,rfl,g0 _ _ f8,ht.up g0.tups,gt,hn,hc,uD,fun r f9=>by rw[← eL];exact d1.sub r f9,lM,fun dp xs H5 s5 q8 pc =>?_⟩;rw[← eL]at pc;have g1:=g0.trans s5;have lG:(GL L M).length≤9000000:=by
  have h1:=vI (L:=L) (M:=M) d1.sub;have h2:M.length * (4 * L.length)≤1500 * (4 * 1500):=KY lM (by lia)
  lia
 refine fun dg g2 =>?_;have s6:=ak.new g2 (dN P w dg []);have u6:upd H5 dg (dN P w dg []) dg=some (dN P w dg []):=ah
 change BN _ _ _ _ (upd H5 dg (dN P w dg []))
 generalize upd H5 dg (dN P w dg [])=H6 at *;refine⟨(leZ rfl),fun tl i6 =>?_⟩;have s7:=ak.new i6 (.lst []);have u7:upd H6 tl (.lst []) tl=some (.lst []):=ah
 change BN _ _ _ _ (upd H6 tl (.lst []))
 generalize upd H6 tl (.lst [])=H7 at *;have i7:=g1.trans (s6.trans s7);have c5:=pc.up (s6.trans s7);have g3:=i7.tabs j8;refine⟨dp,xs,rfl,c5.dn,g3,fun S es H8 sT i8 nS uS pm pw =>?_⟩;have g4:∀ {b:Addr} {o:HO},H7 b=some o→(∀ qs,o≠.tbl qs)→H8 b=some o:=fun e h=>sT.keep g3 e h;have t8:bQ H7 H8:=sT.tups g3;have Y:Pcd P w H8 dp xs (GL L M):=⟨c5.dn.keep (by rw[c5.dn.at_];exact g4 c5.dn.at_ (by intro qs z;cases z)) t8,fun e he=>(c5.ent e he).up t8 fun _ h=>h,c5.all,c5.len⟩;have d2:=g4 (s7 _ _ u6) (by intro qs z;cases z);have u8:=g4 u7 (by intro qs z;cases z);have i9:cq Tb H H8:=i7.toT.trans sT;obtain⟨Dg,eD⟩:∃ Dg,Dg=DG L M:=⟨_,rfl⟩;obtain⟨ks,d3⟩:∃ ks,ks=es.map kx:=⟨_,rfl⟩;have q9:ks.length=es.length:=by rw[d3,I0]
 have r0:es.length≤9000000:=by
  have h1:=pm.length_eq;have h2:=Y.len
  lia
 have j0:∀ e∈es,dH (kx e)=e.1∧kx e∈fe L M∧iE H8 e.1 e.2.1:=fun e he=>by
  have hx:=pm.mem_iff.mp he;obtain⟨p,hp,ep,_⟩:=Y.ent e hx;have h1:=G4 hp;rw[ep]at h1;refine⟨h1,?_,(Y.dn.keys e hx).1⟩;unfold fe;refine I9.mpr ⟨p,hp,?_⟩;rw[ep];rfl
 have e9:dg≠tl:=fun z=>by rw[z,u8]at d2;exact nomatch d2
 have k2:dp≠dg:=fun z=>by
  have h1:=pc.dn.at_
  rw[z,g2]at h1;cases h1
 have k3:dp≠tl:=fun z=>by
  have h1:=Y.dn.at_
  rw[z,u8]at h1;exact nomatch h1
 have k4:S≠tl:=fun z=>by rw[z,u7]at nS;cases nS
 have k5:S≠dg:=fun z=>by rw[z,s7 _ _ u6]at nS;cases nS
 have j1:H tl=none:=(g1.trans s6).free i6;have k6:H dg=none:=g1.free g2;have k7:∀ {H9:Hp},(∀ b o,b≠tl→b≠dg→H8 b=some o→H9 b=some o)→Pcd P w H9 dp xs (GL L M)∧bQ H8 H9:=fun {H9} k=>by
  have tp:bQ H8 H9:=fun b ys e=>k b _ (fun z=>by rw[z,u8]at e;cases e) (fun z=>by rw[z,d2]at e;exact nomatch e) e;exact⟨⟨Y.dn.keep (by rw[Y.dn.at_];exact k _ _ k3 k2 Y.dn.at_) tp,fun e he=>(Y.ent e he).up tp fun _ h=>h,Y.all,Y.len⟩,tp⟩
 refine⟨S,rfl,⟨_,SqL.of uS⟩,cM (xs:=es.map fun e=>V.ref e.2.1) (fun (i:Nat) σ H9=>i≤es.length∧(∀ b o,b≠tl→b≠dg→H8 b=some o→H9 b=some o)∧(∃ gx,Gon P w H9 dg L M (aK Dg (ks.take i)).2 gx)∧(∃ us,H9 tl=some (.lst us)∧Paired (RgV H tl H9) us (aK Dg (ks.take i)).1∧us.length≤i)∧∃ o7 o8 o9:OW9,σ=[some (.ref ps),some (.int (x:Int)),some (.int (y:Int)),some (sV q0.z),some (.ref dp),some (.ref dg),some (.ref tl),o7,o8,o9])
  ⟨Je _,fun _ _ _ _ e=>e,⟨[],⟨d2,fun e he=>absurd he (by simp)⟩,List.nodup_nil,fun e he=>absurd he (by simp),fun z=>by simp[nkV,aK]⟩,⟨[],u8,by exact .nil,I_ _⟩,_,_,_,rfl⟩ (fun i σ H9 _ h=>SqL.of (h.2.1 _ _ k4 k5 uS)) ?_ ?_⟩
 ·rintro i u σ H9 hu ⟨_,k9,⟨gx,g9⟩,⟨us,w9,hR,lu⟩,o7,o8,o9,rfl⟩;rw[JL]at hu;obtain⟨e,ee,rfl⟩:=JQ.mp hu;have hi:=(IZ.mp ee).1;obtain⟨ek,ed,k8⟩:=j0 e (Jh ee);obtain⟨l0,t9⟩:=k7 k9;have j2:=k8.up t9;have et:ks.take (i + 1)=ks.take i++[kx e]:=by rw[Jw,d3,JL,ee];rfl
  rw[et,fY];generalize aK Dg (ks.take i)=X at *;refine⟨dg,e.2.1,e.1,gx,rfl,rfl,g9.dn,j2,aA (cz (fun c1 =>?_) (fun c1 =>?_))⟩
  rotate_left
  ·have c1':¬ (!(nkV gx e.1).isSome)=true:=c1;have l1:kx e∈X.2:=(g9.has (kx e)).mp (by
    rw[ek];cases hh:(nkV gx e.1).isSome with
    | true=>rfl
    | false=>rw[hh]at c1';exact absurd rfl c1')
   have eX:jM Dg X (kx e)=X:=by unfold jM;rw[if_pos l1]
   rw[eX];exact⟨hi,k9,⟨gx,g9⟩,⟨us,w9,hR,by lia⟩,_,_,_,rfl⟩
  have l2:kx e∉X.2:=fun h=>by
   have c1':(!(nkV gx e.1).isSome)=true:=c1;have h1:=(g9.has (kx e)).mpr h;rw[ek]at h1;rw[h1]at c1';cases c1'
  have eX:jM Dg X (kx e)=(X.1++[iD (cL Dg (kx e))],X.2++cL Dg (kx e)):=by unfold jM;rw[if_neg l2]
  rw[eX];refine⟨dp,e.2.1,xs,L,M,_,_,kx e,rfl,l0,d1,(by rw[ek];exact j2),bZ.mp ed,lG,fun N lr ur g5 f0 r3 e3 e4 e5 d4 =>?_⟩;rw[← eD]at f0 d4;have g6:cL Dg (kx e)=bI Dg (kx e) N:=by unfold cL;rw[Cm f0]
  rw[← g6]at d4;have g7:(cL Dg (kx e)).length=N:=by rw[g6];unfold bI;rw[I0,K4]
  have r4:=Paired.length d4;have l3:∀ z∈cL Dg (kx e),z∈fe L M:=fun z hz=>by
   rw[g6]at hz;unfold bI at hz;obtain⟨j,_,rfl⟩:=I9.mp hz;rw[eD];exact bZ.mpr (C8 d1 (bZ.mp ed) j)
  generalize cL Dg (kx e)=Rg at *;have g8:=e3 _ _ w9;have h0:=g9.up e3;have f3:∀ (j:Nat),j < N→∃ (a b:Addr),ur[j]? = some (.ref a)∧g5 a=some (.tup [.ref b,.int ((dL Rg j).2:Int)])∧g5 b=some (.tup [.int (dL Rg j).1.1,.int (dL Rg j).1.2]):=fun j hj=>by
   obtain⟨u1,j3⟩:∃ u1,ur[j]? = some u1:=⟨ur[j]'(by lia),Jy _⟩;obtain⟨z,e6,a,e1,b,h1,h2⟩:=bB d4 j3;have ez:dL Rg j=z:=by unfold dL;rw[e6];rfl
   rw[ez,j3,e1];exact⟨a,b,rfl,h1,h2⟩
  have eN:((ur.length:Int)).toNat=N:=by rw[JU];lia
  refine⟨.inl ⟨rfl,_,SqL.of g8⟩,[.ref lr],rfl,_,_,rfl,.inl ⟨_,SqL.of e5,rfl⟩,_,rfl,by simp,by lia,vB (fun D (j:Nat) ys H'=>j≤N∧ak g5 H'∧H' D=some (.lst ys)∧ys.length≤j∧jG H' ys (iC Rg j)) (by rw[eN];exact JA (by lia:N≤9000000) (by decide)) (fun D j ys H' h=>⟨h.2.2.1,h.2.2.2.1⟩) (fun D hD=>⟨Je _,ak.new hD _,ah,I_ _,by exact .nil⟩) ?_ ?_ (fun _ _ _ _ _ k h=>k _ _ h) ?_ ?_⟩
  ·rintro D j ys a0 hj hD ⟨_,B,d5,l4,d6⟩;rw[eN]at hj;rw[show (0:Int) + (j:Int)=j from K9 _];obtain⟨a1,b1,x1,x2,x3⟩:=f3 j hj;obtain⟨a2,b2,y1,y2,y3⟩:=f3 (prv N j) (by unfold prv;split<;>lia);have c6:=B _ _ e5;have yy:atI ur ((j:Int) - 1)=some (.ref a2):=Cg (by lia) (by rw[show ur.length=N by lia];exact y1);refine⟨rfl,lr,_,_,_,rfl,rfl,SqL.of c6,bV x1,a1,_,_,_,rfl,rfl,SqT.of (B _ _ x2),rfl,lr,_,_,_,rfl,rfl,SqL.of c6,yy,a2,_,_,_,rfl,rfl,SqT.of (B _ _ y2),rfl,rfl,aA (cz (fun c2 =>?_) (fun c2 =>?_))⟩
   ·have ic:cU Rg j=true:=by
     have c2':(!decide (V.int ((dL Rg j).2:Int)=V.int ((dL Rg (prv N j)).2:Int)))=true:=c2;unfold cU;rw[g7];refine Jd fun e =>?_;rw[e,Jd rfl]at c2';cases c2'
    refine⟨lr,_,_,_,rfl,rfl,SqL.of c6,bV x1,a1,_,_,_,rfl,rfl,SqT.of (B _ _ x2),rfl,d5,hj,ak.set B hD _,ah,by rw[I8,Kd];lia,?_⟩;rw[oI,if_pos ic];have c7:bQ a0 (upd a0 D (.lst (ys++[.ref b1]))):=cY d5 (by intro xs q;cases q);exact cA (d6.up c7) (.cons ⟨b1,rfl,c7 _ _ (B _ _ x3)⟩ .nil)
   ·have ic:¬ cU Rg j=true:=fun h=>by
     have c2':¬ (!decide (V.int ((dL Rg j).2:Int)=V.int ((dL Rg (prv N j)).2:Int)))=true:=c2;unfold cU at h;rw[g7]at h;have h':=JB h;refine c2' ?_;rw[JT fun e=>h' (by have:=V.int.inj e;lia)];rfl
    rw[oI,if_neg ic,J_];exact⟨hj,B,d5,by lia,d6⟩
  rotate_left
  ·intro σ H' R R' k U;obtain⟨_,e1,U⟩:=aM U;obtain⟨_,e2,U⟩:=aM U;obtain⟨h1,h2,h3,h4,h5,h6,h7,h8,h9,l5,l6,l7,l8,l9,m0,m1,m2⟩:=U;exact (aZ e1 (aZ e2 ⟨h1,h2,h3,h4,h5,h6,h7,h8,h9,l5,l6,l7,l8,l9,m0,m1,k _ _ m2⟩))
  ·intro σ H' R R' k U;obtain⟨_,a1,U⟩:=aM U;obtain⟨_,a3,U⟩:=aM U;obtain⟨a4,a5,a6,a7,a8,a9,m3,m4,m5,m6,m7,m8,m9,n0,n1,n2,U⟩:=U;obtain⟨_,b1,U⟩:=aM U;obtain⟨_,b3,U⟩:=aM U;obtain⟨_,_,b6,b7,U⟩:=gh U;obtain⟨b8,b9,n3,n4,n5,n6,n7,n8,n9,o0,o1,o2,o3,o4,o5,o6,r1,U⟩:=U;obtain⟨_,v2,h⟩:=fC U;exact (aZ a1 (aZ a3 (⟨a4,a5,a6,a7,a8,a9,m3,m4,m5,m6,m7,m8,m9,n0,n1,n2,aZ b1 (aZ b3 (nW b6 b7 ⟨b8,b9,n3,n4,n5,n6,n7,n8,n9,o0,o1,o2,o3,o4,o5,o6,r1,lZ v2 (k _ _ h)⟩))⟩)))
  rintro D cs a0 hD ⟨_,B,d5,l4,d6⟩;rw[eN,← g7]at d6;have p11':jG a0 cs (iD Rg):=d6;have f5:=B _ _ g8;have i0:D≠tl:=fun z=>by rw[z,g8]at hD;cases hD
  have d7:H9 D=none:=e3.free hD;have p0:H8 D=none:=by
   cases e8:H8 D with
   | none=>rfl
   | some o =>
    have:=k9 D o i0 (fun z=>by rw[z,g9.dn.at_]at d7;cases d7) e8
    rw[d7]at this;cases this
  have p1:H D=none:=Eg i9 i8 p0;have d8:=e3.trans B;refine⟨tl,us,_,rfl,rfl,f5,Jt (by lia:us.length < 9000001) (by decide),?_⟩;have c7:bQ a0 (upd a0 tl (.lst (us++[.ref D]))):=cY f5 (by intro xs q;cases q);have c9:∀ b o,b≠tl→a0 b=some o→upd a0 tl (.lst (us++[.ref D])) b=some o:=fun b o hb e=>by rw[aG hb];exact e
  have p2:upd a0 tl (.lst (us++[.ref D])) tl=some (.lst (us++[.ref D])):=ah;generalize upd a0 tl (.lst (us++[.ref D]))=d9 at *;have j4:bQ H9 d9:=d8.tups.trans c7;have i1:=(h0.up B).keep (H':=d9) (by rw[(h0.up B).dn.at_];exact c9 _ _ e9 (h0.up B).dn.at_) c7;have j5:lr≠tl:=fun z=>by rw[z,w9]at e4;cases e4
  have p3:lr≠dg:=fun z=>by rw[z,g9.dn.at_]at e4;cases e4
  have Dg':D≠dg:=fun z=>by rw[z,g9.dn.at_]at d7;cases d7
  refine⟨lr,rfl,⟨_,SqL.of (c9 _ _ j5 (B _ _ e5))⟩,cM (xs:=ur) (fun (j:Nat) σ c8=>j≤ur.length∧(∀ b o,b≠dg→d9 b=some o→c8 b=some o)∧(∃ gx,Gon P w c8 dg L M (X.2++Rg.take j) gx)∧∃ o9:OW9,σ=[some (.ref ps),some (.int (x:Int)),some (.int (y:Int)),some (sV q0.z),some (.ref dp),some (.ref dg),some (.ref tl),some (.ref e.2.1),some (.ref lr),o9])
   ⟨Je _,fun _ _ _ e=>e,⟨gx,by simpa using i1⟩,_,rfl⟩ (fun j σ c8 _ h=>SqL.of (h.2.1 _ _ p3 (c9 _ _ j5 (B _ _ e5)))) ?_ ?_⟩
  ·rintro j r5 σ c8 f7 ⟨_,b4,⟨b5,d0⟩,o9,rfl⟩;have hj:=(IZ.mp f7).1;obtain⟨z,e6,a1,rfl,na⟩:=bB d4 f7;have e7:bQ d9 c8:=fun b ys e=>b4 b _ (fun z=>by rw[z,i1.dn.at_]at e;exact nomatch e) e;have j6:=na.up (B.tups.trans (c7.trans e7));have gl:=d0.len;refine⟨dg,a1,dH z,b5,rfl,rfl,d0.dn,j6,rfl,Jt (by lia:b5.length < 9000001) (by decide),fun p4 =>?_⟩;refine⟨hj,fun b o hb e=>by rw[aG hb];exact b4 b o hb e,⟨dj b5 (dH z) a1 (.bl true),?_⟩,_,rfl⟩;rw[Jw,e6,← Jx];exact d0.put (l3 z (Jh e6)) p4
  ·rintro σ c8 ⟨_,b4,⟨b5,d0⟩,o9,rfl⟩;rw[Ji (by lia)]at d0;have e7:bQ d9 c8:=fun b ys e=>b4 b _ (fun z=>by rw[z,i1.dn.at_]at e;exact nomatch e) e;refine⟨hi,fun b o h1 h2 e=>b4 b o h2 (c9 b o h1 (d8 _ _ (k9 b o h1 h2 e))),⟨b5,d0⟩,⟨us++[.ref D],b4 _ _ (Ne.symm e9) p2,cA (Paired.mapP hR fun _ _ h=>h.keep (fun b xs hb e=>b4 b _ (fun z=>by rw[z,g9.dn.at_]at e;exact nomatch e) (c9 b _ hb (d8 _ _ e))) (j4.trans e7)) (.cons ⟨D,cs,rfl,i0,p1,b4 _ _ Dg' (c9 _ _ i0 d5),p11'.up (c7.trans e7)⟩ .nil),by rw[I8,Kd];lia⟩,_,_,_,rfl⟩
 ·rintro σ H9 ⟨_,k9,⟨gx,g9⟩,⟨us,w9,hR,lu⟩,o7,o8,o9,rfl⟩;have p5:(es.map fun e=>V.ref e.2.1).length=es.length:=I0 _;rw[p5,Ji (by lia)]at hR;have p6:=Al i8 u8 d2 k9;have p7:cq Tb H H9:=fun b o e hb=>k9 b o (fun z=>by rw[z,j1]at e;cases e) (fun z=>by rw[z,k6]at e;cases e) (i9 b o e hb);rw[← eL]at q';refine (q' A (L.map (·.z)) ks tl us H9 Cx (fun kk =>?_) ?_ p7 p6 j1 w9 ?_ (by lia))
  ·rw[← eM];constructor
   ·intro h;rw[d3]at h;obtain⟨e,he,rfl⟩:=I9.mp h;exact (j0 e he).2.1
   ·intro h;have h1:=Y.has kk;rw[bZ.mp h]at h1;obtain⟨v1,p8⟩:=JG.mp h1;obtain⟨b1,p9⟩:=mL p8;rw[d3];refine I9.mpr ⟨_,pm.mem_iff.mpr p9,?_⟩;show ((dH kk).1,(dH kk).2.toNat)=kk;unfold dH;exact Prod.ext rfl (by simp)
  ·rw[d3,JN];exact pw
  ·rw[← eM,← eD];exact hR
end
def Seg (C:II9)(a b:Pt)(d:Nat):Prop:=d < 4∧∃ l:Nat,0 < l∧b=go a l d∧∀ k < l,Bd C (go a k d) d
theorem Seg.join (h:Seg C a b d)(k:Seg C b c d):Seg C a c d:=by
 obtain⟨B,l,O,rfl,G⟩:=h;obtain⟨_,m,U,rfl,J⟩:=k;refine⟨B,l + m,by lia,rg a l m d,fun j hj =>?_⟩;rcases KW j l with c|c
 ·exact G j c
 ·have:=J (j - l) (by lia)
  rw[rg,show l + (j - l)=j by lia]at this;exact this
def Ij (C:II9)(a b:Pt × Nat):Prop:=Seg C a.1 b.1 a.2∧turn C b.1 a.2 b.2∧b.2≠a.2∧b.2 < 4
def Chn {α:Type}(R:α→α→Prop):List α→Prop
 | []=>True
 | [_]=>True
 | a::b::l=>R a b∧Chn R (b::l)
theorem Chn.snoc:∀ {l:List α} {b:α},Chn R (l++[b])→R b c→Chn R (l++[b]++[c])
 | [],b,_,h=>⟨h,trivial⟩
 | [a],b,h,k=>⟨h.1,k,trivial⟩
 | a::a'::l,b,h,k=>⟨h.1,Chn.snoc (l:=a'::l) h.2 k⟩
theorem Chn.at_:∀ {l:List α},Chn R l→∀ {i:Nat} {a b:α},l[i]? = some a→l[i + 1]? = some b→R a b
 | [],_,i,a,b,h,_=>by simp at h
 | [_],_,i,a,b,_,h=>by simp at h
 | x::y::l,h,0,a,b,h1,h2=>by
  have B:x=a:=by simpa using h1
  have G:y=b:=by simpa using h2
  subst B G;exact h.1
 | x::y::l,h,i + 1,a,b,h1,h2=>Chn.at_ (l:=y::l) h.2 (i:=i) (by simpa using h1) (by simpa using h2)
section
variable {C:II9}{D:PD9}
def sC (R:LP9)(j:Nat):LP9:=((List.range j).filter (cU R)).map (dL R)
theorem zV (R:LP9)(j:Nat):(sC R j).map (·.1)=iC R j:=by
 unfold sC iC;rw[JE];rfl
theorem qe (R:LP9)(j:Nat):sC R (j + 1)=sC R j++(if cU R j=true then [dL R j] else []):=by
 unfold sC;rw[Kt,KJ,Jn]
 congr 1
 by_cases h:cU R j=true
 ·simp[h]
 ·simp[h]
theorem gD (h:Pcs C D)(B:(D x.1 x.2).isSome=true):Seg C x.1 (nx D x).1 x.2∧turn C (nx D x).1 x.2 (nx D x).2∧(nx D x).2 < 4:=by
 obtain⟨p,ep⟩:=JG.mp B;obtain⟨G,h1,_,J,O⟩:=kL h (a:=x.1) (d:=x.2) ep;have h1':nx D x=(p,G):=h1;obtain⟨l,U,Y,hb⟩:=h.len ep;rw[h1'];exact⟨⟨h.way ep,l,U,Y,hb⟩,J,O⟩
theorem cT (hi:i < N):dL (bI D x N) i=it (nx D) i x:=by
 unfold dL bI;rw[JL,List.getElem?_range hi];rfl
theorem jT:(bI D x N).length=N:=by unfold bI;rw[I0,K4]
theorem qF (h:Pcs C D)(G:∀ i,(D (it (nx D) i x).1 (it (nx D) i x).2).isSome=true)(O:cU (bI D x N) 0=true):∀ j,0 < j→j≤N→∃ cs c,sC (bI D x N) j=cs++[c]∧(cs++[c])[0]? = some x∧Chn (Ij C) (cs++[c])∧Seg C c.1 (it (nx D) j x).1 c.2∧c.2=(it (nx D) (j - 1) x).2
 | 0,h0,_=>absurd h0 (KO 0)
 | 1,_,hN=>by
  have e:sC (bI D x N) 1=[x]:=by
   rw[qe,if_pos O,cT hN];rfl
  have st:=gD h (G 0);exact⟨[],x,e,rfl,trivial,st.1,rfl⟩
 | j + 2,_,hN=>by
  obtain⟨cs,c,e,U,ch,Y,ew⟩:=qF h G O (j + 1) (LD _) (by lia);have st:=gD h (G (j + 1));have B:=gD h (G j);have ew':c.2=(it (nx D) j x).2:=ew;rw[qe,e];have ic:cU (bI D x N) (j + 1)=decide ((it (nx D) (j + 1) x).2≠(it (nx D) j x).2):=by
   unfold cU prv;rw[if_neg (by simp),cT (by assumption),show j + 1 - 1=j from rfl,cT (by lia)]
  by_cases c1:(it (nx D) (j + 1) x).2=(it (nx D) j x).2
  ·have J:¬ cU (bI D x N) (j + 1)=true:=by rw[ic];simp[c1]
   rw[if_neg J,J_];refine⟨cs,c,rfl,U,ch,Y.join ?_,by rw[ew'];exact c1.symm⟩
   have:=st.1
   rw[c1,← ew']at this;exact this
  ·have J:cU (bI D x N) (j + 1)=true:=by rw[ic];simp[c1]
   rw[if_pos J,cT (by assumption)];refine⟨cs++[c],_,rfl,?_,Chn.snoc ch ⟨Y,?_,?_,B.2.2⟩,st.1,rfl⟩
   ·rw[JM (by simp)];exact U
   ·rw[ew'];exact B.2.1
   ·rw[ew'];exact c1
end
def leP (a b:Pt):Prop:=a.2 < b.2∨(a.2=b.2∧a.1≤b.1)
theorem Gs (h:ltI (b.2,b.1) (a.2,a.1)=false):leP a b:=by
 unfold ltI n5 at h;unfold leP;by_cases c:b.2=a.2
 ·rw[if_pos c]at h
  have:=Lb h
  lia
 ·rw[if_neg c]at h
  have:=Lb h
  dsimp only at this
  lia
section
variable {C:II9}{D:PD9}
theorem yi (h1:Seg C a p d)(h2:Seg C p b e)(B:turn C p d e)(Y:leP p a)(lb:leP p b):(d=3∧e=0)∨(d=2∧e=1):=by
 obtain⟨d4,l,l0,G,_⟩:=h1;obtain⟨e4,m,m0,J,_⟩:=h2;have x1:=Jz Prod.fst G;have x2:=Jz Prod.snd G;have O:=Jz Prod.fst J;have U:=Jz Prod.snd J;unfold turn at B;unfold leP at Y lb;rcases de d4 with rfl|rfl|rfl|rfl<;>simp[go,ux,uy]at x1 x2 B
 ·lia
 ·lia
 ·rcases B with⟨_,rfl⟩|⟨_,_,rfl⟩|⟨_,_,rfl⟩<;>simp[go,ux,uy]at O U<;>first|lia|exact .inr ⟨rfl,rfl⟩
 ·rcases B with⟨_,rfl⟩|⟨_,_,rfl⟩|⟨_,_,rfl⟩<;>simp[go,ux,uy]at O U<;>first|lia|exact .inl ⟨rfl,rfl⟩
end
section
variable {C:II9}{D:PD9}
structure jt (C:II9)(D:PD9):Prop where
 pc:Pcs C D
 dom:∀ {x:Pt × Nat},(D x.1 x.2).isSome=true→(D (nx D x).1 (nx D x).2).isSome=true
 back:∀ {x:Pt × Nat},(D x.1 x.2).isSome=true→∃ N,Per D x N
theorem jt.go_ (W:jt C D)(B:(D x.1 x.2).isSome=true)(i:Nat):(D (it (nx D) i x).1 (it (nx D) i x).2).isSome=true :=
 n9 (S:=fun y:Pt × Nat=>(D y.1 y.2).isSome=true) (fun _ h=>W.dom h) B i
theorem ED (h:Per D x N)(q:Nat):it (nx D) (N * q) x=x:=by
 induction q with
 | zero=>rfl
 | succ q ih =>
  rw[Nat.mul_succ,Nat.add_comm,← n_,h.2.1,ih]
theorem CQ (h:Per D x N):z∈bI D x N↔∃ j,z=it (nx D) j x:=by
 unfold bI;constructor
 ·intro B;obtain⟨j,_,rfl⟩:=I9.mp B;exact⟨j,rfl⟩
 ·rintro⟨j,rfl⟩;refine I9.mpr ⟨j % N,Ke.mpr (Nat.mod_lt _ h.1),?_⟩;have e:j=N * (j / N) + j % N:=(Mk j N).symm;have G:it (nx D) j x=it (nx D) (N * (j / N) + j % N) x:=Jz (fun m=>it (nx D) m x) e;rw[G,← n_,ED h]
theorem g_ (h:Per D x N):cL D x=bI D x N:=by unfold cL;rw[Cm h]
theorem jt.mem (W:jt C D)(B:(D x.1 x.2).isSome=true):z∈cL D x↔∃ j,z=it (nx D) j x:=by
 obtain⟨N,h⟩:=W.back B;rw[g_ h];exact CQ h
theorem jt.sym (W:jt C D)(B:(D x.1 x.2).isSome=true)(J:z∈cL D x):(D z.1 z.2).isSome=true∧x∈cL D z:=by
 obtain⟨N,h⟩:=W.back B;have hz':=J;rw[g_ h]at hz';unfold bI at hz';obtain⟨j,hj,rfl⟩:=I9.mp hz';have G:=W.go_ B j;refine⟨G,(W.mem G).mpr ⟨N - j,?_⟩⟩;rw[n_,show j + (N - j)=N by have:=Ke.mp hj;lia,h.2.1]
theorem jt.trans (W:jt C D)(B:(D x.1 x.2).isSome=true)(G:y∈cL D x)(J:z∈cL D y):z∈cL D x:=by
 obtain⟨i,rfl⟩:=(W.mem B).mp G;obtain⟨j,rfl⟩:=(W.mem (W.go_ B i)).mp J;exact (W.mem B).mpr ⟨i + j,n_ _ _ _ _⟩
theorem jt.self (W:jt C D)(B:(D x.1 x.2).isSome=true):x∈cL D x:=(W.mem B).mpr ⟨0,rfl⟩
structure RgI (D:PD9)(done:LP9)(ss:LP9)(X:List (List Pt) × LP9):Prop where
 told:X.1=ss.map fun s=>iD (cL D s)
 gone:∀ z,z∈X.2↔∃ s∈ss,z∈cL D s
 from_:∀ s∈ss,s∈done
 all:∀ z∈done,z∈X.2
 low:∀ s∈ss,∀ z∈cL D s,leP s.1 z.1
 asc:ss.Pairwise fun s s'=>leP s.1 s'.1∧s'∉cL D s
theorem rgI (W:jt C D){ys:LP9}(hd:∀ k,k∈ys↔(D k.1 k.2).isSome=true)(hs:ys.Pairwise fun a b=>leP a.1 b.1):∀ i,∃ Y,RgI D (ys.take i) Y (aK D (ys.take i))
 | 0=>⟨[],by
  rw[Mt];exact⟨rfl,fun z=>by simp[aK],fun s h=>absurd h (by simp),fun z h=>absurd h (by simp),fun s h=>absurd h (by simp),List.Pairwise.nil⟩⟩
 | i + 1=>by
  obtain⟨Y,I⟩:=rgI W hd hs i;cases ek:ys[i]? with
  | none =>
   have e:ys.take (i + 1)=ys.take i:=by rw[Jw,ek];simp
   rw[e];exact⟨Y,I⟩
  | some k =>
   have e:ys.take (i + 1)=ys.take i++[k]:=by rw[Jw,ek];rfl
   have hk:=(hd k).mp (Jh ek);have J:=(IZ.mp ek);have O:∀ z∈ys,z∉ys.take i→leP k.1 z.1:=fun z B hn=>by
    obtain⟨j,hj⟩:=Ks B;have G:=IZ.mp hj;have a2:i≤j:=by
     rcases KW j i with c|c
     ·exact absurd (Jh (show (ys.take i)[j]? = some z by rw[Lu,if_pos c];exact hj)) hn
     ·exact c
    rcases KW i j with c|c
    ·have:=Km.mp hs i j J.1 G.1 c
     rw[J.2,G.2]at this;exact this
    ·have:i=j:=by lia
     subst this;rw[ek]at hj;cases hj;exact .inr ⟨rfl,KF _⟩
   rw[e,fY];by_cases c:k∈(aK D (ys.take i)).2
   ·have es:jM D (aK D (ys.take i)) k=aK D (ys.take i):=by unfold jM;rw[if_pos c]
    rw[es];refine⟨Y,I.told,I.gone,fun s h=>JS _ (I.from_ s h),fun z B =>?_,I.low,I.asc⟩;rcases Jj.mp B with B | B
    ·exact I.all z B
    ·rw[Jc.mp B];exact c
   ·have es:jM D (aK D (ys.take i)) k=((aK D (ys.take i)).1++[iD (cL D k)],(aK D (ys.take i)).2++cL D k):=by unfold jM;rw[if_neg c]
    rw[es];have kd:∀ s∈Y,(D s.1 s.2).isSome=true:=fun s h=>(hd s).mp (KB (I.from_ s h));have low:∀ z∈cL D k,leP k.1 z.1:=fun z B=>by
     obtain⟨dz,kz⟩:=W.sym hk B;refine O z ((hd z).mpr dz) fun U=>c ?_;obtain⟨s,a0,a1⟩:=(I.gone z).mp (I.all z U);exact (I.gone k).mpr ⟨s,a0,W.trans (kd s a0) a1 kz⟩
    refine⟨Y++[k],?_,fun z =>?_,fun s h =>?_,fun z B =>?_,fun s h =>?_,?_⟩
    ·rw[I.told,Jn];rfl
    ·rw[Jj,I.gone];constructor
     ·rintro (⟨s,h1,h2⟩ | h)
      ·exact⟨s,JS _ h1,h2⟩
      ·exact⟨k,by simp,h⟩
     ·rintro⟨s,h1,h2⟩;rcases Jj.mp h1 with h1 | h1
      ·exact .inl ⟨s,h1,h2⟩
      ·rw[Jc.mp h1]at h2;exact .inr h2
    ·rcases Jj.mp h with h|h
     ·exact JS _ (I.from_ s h)
     ·exact JD _ h
    ·rcases Jj.mp B with B|B
     ·exact JS _ (I.all z B)
     ·rw[Jc.mp B];exact JD _ (W.self hk)
    ·rcases Jj.mp h with h|h
     ·exact I.low s h
     ·rw[Jc.mp h];exact low
    ·refine JR.mpr ⟨I.asc,K_ _ _,fun s h k' h' =>?_⟩;rw[Jc.mp h'];refine⟨?_,fun U=>c ((I.gone k).mpr ⟨s,h,U⟩)⟩;obtain⟨j,hj⟩:=Ks (I.from_ s h);rw[Lu]at hj
     split at hj
     ·rename_i c1
      have G:=IZ.mp hj
      have:=Km.mp hs j i G.1 J.1 c1
      rw[J.2,G.2]at this;exact this
     ·cases hj
theorem jr (W:jt C D)(G:(D s.1 s.2).isSome=true)(low:∀ z∈cL D s,leP s.1 z.1):∃ N d,Per D s N∧(it (nx D) (N - 1) s).2=d∧((d=3∧s.2=0)∨(d=2∧s.2=1))∧cl C s.1 ((d + 1) % 4)∧¬ cl C s.1 ((d + 2) % 4)∧turn C s.1 d s.2:=by
 obtain⟨N,h⟩:=W.back G;have N0:=h.1;have O:=W.go_ G (N - 1);have B:=gD W.pc O;have J:=gD W.pc G;have U:nx D (it (nx D) (N - 1) s)=s:=by
  have:nx D (it (nx D) (N - 1) s)=it (nx D) (N - 1 + 1) s:=rfl
  rw[this,show N - 1 + 1=N by lia,h.2.1]
 rw[U]at B;have lt:=yi B.1 J.1 B.2.1 (low _ ((W.mem G).mpr ⟨N - 1,rfl⟩)) (low _ ((W.mem G).mpr ⟨1,rfl⟩));obtain⟨p,ep⟩:=JG.mp O;obtain⟨_,_,_,_,_,Y,c2⟩:=W.pc.last ep;obtain⟨e',n1,_⟩:=kL W.pc ep;have n2:(p,e')=s:=n1.symm.trans U;have n3:p=s.1:=Jz Prod.fst n2;rw[n3]at Y c2;exact⟨N,_,h,rfl,lt,Y,c2,B.2.1⟩
theorem tX (W:jt C D)(hs:(D s.1 s.2).isSome=true)(O:(D s'.1 s'.2).isSome=true)(low:∀ z∈cL D s,leP s.1 z.1)(B:∀ z∈cL D s',leP s'.1 z.1)(e:s.1=s'.1):s=s':=by
 obtain⟨N,d,_,_,c,c1,c2,_⟩:=jr W hs low;obtain⟨N',d',_,_,c',G,J,_⟩:=jr W O B;refine Prod.ext e ?_;rw[← e]at G J;rcases c with⟨rfl,U⟩|⟨rfl,U⟩<;>rcases c' with⟨rfl,Y⟩|⟨rfl,Y⟩
 ·rw[U,Y]
 ·exact absurd c1 J
 ·exact absurd G c2
 ·rw[U,Y]
end
theorem mh (h:Lnd L M W col):jt (CM M) (DG L M) :=
 ⟨pcs h,fun B=>yd h B,fun B=>by
  obtain⟨N,h1,_,G⟩:=nR h B;exact⟨N,h1,G⟩⟩
def ovl (dn:Bool)(s e line:Int)(q:Sq):Int:=if (if dn then (q.x:Int) else q.y)≤line∧line < (if dn then (q.x:Int) else q.y) + q.w then max 0 (min e ((if dn then (q.y:Int) else q.x) + q.w) - max s (if dn then (q.y:Int) else q.x)) else 0
def jq (dn:Bool)(line t:Int):Int × Int:=if dn then (line,t) else (t,line)
theorem vT {s e a b:Int}(h:s≤e):max 0 (min (e + 1) b - max s a)=max 0 (min e b - max s a) + (if a≤e∧e < b then 1 else 0):=by
 have G:=Int.le_max_right s a;have B:=@Int.max_le s a e;generalize max s a=m at *;rcases Int.lt_or_le e b with c | c
 ·rw[Mq c,Mq (Int.le_of_lt c)];by_cases d:a≤e
  ·have:=B.mpr ⟨h,d⟩
   rw[if_pos ⟨d,c⟩,Mh (by lia),Mh (by lia)]
   lia
  ·rw[if_neg fun z=>d z.1,Mr (by lia),Mr (by lia)];rfl
 ·rw[Mg c,Mg (by lia),if_neg (by lia),L4]
theorem zA {A B C:Prop}[Decidable A][Decidable B][Decidable C]{X Y:Int}(h:X=Y + (if B then 1 else 0))(G:C↔A∧B):(if A then X else 0)=(if A then Y else 0) + (if C then 1 else 0):=by
 by_cases a:A
 ·rw[if_pos a,if_pos a,h];by_cases b:B
  ·rw[if_pos b,if_pos (G.mpr ⟨a,b⟩)]
  ·rw[if_neg b,if_neg fun c=>b (G.mp c).2]
 ·rw[if_neg a,if_neg a,if_neg fun c=>a (G.mp c).1];rfl
open Classical in
theorem Cv (G:Bool){s e B:Int}(J:s≤e)(q:Sq)(O:0 < q.w):ovl G s (e + 1) B q=ovl G s e B q + (if InS q (jq G B e).1 (jq G B e).2 then 1 else 0):=by
 have st:∀ b:Int,_:=fun b=>vT (a:=b) (b:=b + q.w) J;cases G
 ·refine zA (st q.x) ?_;exact⟨fun⟨a,b,c,d⟩=>⟨⟨c,d⟩,a,b⟩,fun⟨⟨c,d⟩,a,b⟩=>⟨a,b,c,d⟩⟩
 ·refine zA (st q.y) ?_;exact⟨fun⟨a,b,c,d⟩=>⟨⟨a,b⟩,c,d⟩,fun⟨⟨a,b⟩,c,d⟩=>⟨a,b,c,d⟩⟩
theorem EK (G:Bool)(s B:Int)(q:Sq):ovl G s s B q=0:=by
 have h:∀ b c:Int,max 0 (min s b - max s c)=0:=by lia
 unfold ovl;rw[h,ite_self]
open Classical in
theorem EM (J:M.Nodup)(G:∀ q∈M,∀ r∈M,∀ x y,InS q x y→InS r x y→q=r)(x y:Int):(M.map fun q=>if InS q x y then (1:Int) else 0).sum=if CM M x y then 1 else 0:=by
 induction M with
 | nil =>
  rw[if_neg (by rintro⟨q,O,_⟩;cases O)];rfl
 | cons q M U =>
  obtain⟨Y,n2⟩:=Kn.mp J;have ih':=U n2 fun a h1 b h2=>G a (Ja _ h1) b (Ja _ h2);rw[Jl,JW,ih'];by_cases c:InS q x y
  ·have no:¬ CM M x y:=by
    rintro⟨r,B,hi⟩
    have:=G q Jg r (Ja _ B) x y c hi
    exact Y (this▸B)
   rw[if_pos c,if_neg no,if_pos ⟨q,Jg,c⟩];rfl
  ·rw[if_neg c,K9];by_cases c2:CM M x y
   ·obtain⟨r,B,hi⟩:=id c2;rw[if_pos c2,if_pos ⟨r,Ja _ B,hi⟩]
   ·rw[if_neg c2,if_neg];rintro⟨r,B,hi⟩;rcases Jr.mp B with e | B
    ·exact c (e▸hi)
    ·exact c2 ⟨r,B,hi⟩
theorem bX (f g:α→Int):∀ l:List α,(l.map fun x=>f x + g x).sum=(l.map f).sum + (l.map g).sum
 | []=>rfl
 | a::l=>by
  simp only[Jl,JW,bX f g l]
  lia
theorem iF:∀ l:List α,(l.map fun _=>(0:Int)).sum=0
 | []=>rfl
 | a::l=>by rw[Jl,JW,iF l];rfl
def com (x1 y1 w1 x2 y2 w2:Int):Int:=if mn (mn (x1 + w1) (x2 + w2) - mx x1 x2) (mn (y1 + w1) (y2 + w2) - mx y1 y2)=0 then mx (mn (x1 + w1) (x2 + w2) - mx x1 x2) (mn (y1 + w1) (y2 + w2) - mx y1 y2) else 0
def c_ (q r:Sq):Int:=com q.x q.y q.w r.x r.y r.w
def dB (M:List Sq):Int:=(M.map fun q=>4 * (q.w:Int) - (M.map (c_ q)).sum).sum
def lnD (q:Sq)(d:Nat):Int:=if d=0 then q.y - 1 else if d=1 then q.x + q.w else if d=2 then q.y + q.w else q.x - 1
def dnD (d:Nat):Bool:=decide (d=1∨d=3)
def aU (q:Sq)(d:Nat)(r:Sq):Int:=ovl (dnD d) (tlo q d) (tlo q d + q.w) (lnD q d) r
theorem DF {X Y:Int}(h:X≤0):(if min X Y=0 then max X Y else 0)=if X=0 then max 0 Y else 0:=by
 split<;>split<;>lia
theorem zX {X Y:Int}(h:Y≤0):(if min X Y=0 then max X Y else 0)=if Y=0 then max 0 X else 0:=by
 split<;>split<;>lia
theorem ig (q r:Sq):c_ q r=if min (min ((q.x:Int) + q.w) (r.x + r.w) - max (q.x:Int) r.x) (min ((q.y:Int) + q.w) (r.y + r.w) - max (q.y:Int) r.y)=0 then max (min ((q.x:Int) + q.w) (r.x + r.w) - max (q.x:Int) r.x) (min ((q.y:Int) + q.w) (r.y + r.w) - max (q.y:Int) r.y) else 0:=by
 unfold c_ com;simp only[fR,fQ]
theorem mF (q r:Sq):aU q 0 r=(if (r.y:Int)≤q.y - 1∧(q.y:Int) - 1 < r.y + r.w then max 0 (min ((q.x:Int) + q.w) (r.x + r.w) - max (q.x:Int) r.x) else 0) ∧
  aU q 1 r=(if (r.x:Int)≤q.x + q.w∧(q.x:Int) + q.w < r.x + r.w then max 0 (min ((q.y:Int) + q.w) (r.y + r.w) - max (q.y:Int) r.y) else 0) ∧
  aU q 2 r=(if (r.y:Int)≤q.y + q.w∧(q.y:Int) + q.w < r.y + r.w then max 0 (min ((q.x:Int) + q.w) (r.x + r.w) - max (q.x:Int) r.x) else 0) ∧
  aU q 3 r=(if (r.x:Int)≤q.x - 1∧(q.x:Int) - 1 < r.x + r.w then max 0 (min ((q.y:Int) + q.w) (r.y + r.w) - max (q.y:Int) r.y) else 0):=⟨rfl,rfl,rfl,rfl⟩
theorem mJ {x w y v:Int}(B:0 < w)(G:0 < v):min (x + w) (y + v) - max x y≤x + w - y∧min (x + w) (y + v) - max x y≤y + v - x∧(x + w≤y→min (x + w) (y + v) - max x y=x + w - y)∧(y + v≤x→min (x + w) (y + v) - max x y=y + v - x):=by
 have:=Int.min_le_left (x + w) (y + v)
 have:=Int.min_le_right (x + w) (y + v)
 have:=Int.le_max_left x y
 have:=Int.le_max_right x y
 refine⟨by lia,by lia,fun h =>?_,fun h =>?_⟩
 ·rw[Mq (by lia),Mh (by lia)]
 ·rw[Mg (by lia),Mr (by lia)]
theorem Bo {q r:Sq}(hq:0 < q.w)(hr:0 < r.w)(ha:q=r∨Sep q r∨Sep r q):c_ q r=aU q 0 r + aU q 1 r + aU q 2 r + aU q 3 r:=by
 obtain⟨G,J,O,U⟩:=mF q r;rw[G,J,O,U,ig]
 clear G J O U
 have eX:=mJ (x:=q.x) (w:=q.w) (y:=r.x) (v:=r.w) (by lia) (by lia);have eY:=mJ (x:=q.y) (w:=q.w) (y:=r.y) (v:=r.w) (by lia) (by lia);have eS:q=r→min ((q.x:Int) + q.w) (r.x + r.w) - max (q.x:Int) r.x=q.w∧min ((q.y:Int) + q.w) (r.y + r.w) - max (q.y:Int) r.y=q.w:=by
  rintro rfl
  lia
 generalize min ((q.x:Int) + q.w) (r.x + r.w) - max (q.x:Int) r.x=X at *;generalize min ((q.y:Int) + q.w) (r.y + r.w) - max (q.y:Int) r.y=Y at *;obtain⟨x1,x2,x3,x4⟩:=eX;obtain⟨y1,y2,y3,y4⟩:=eY;rcases ha with rfl | (h | h) | (h | h)
 ·obtain⟨a,b⟩:=eS rfl;rw[if_neg (by lia),if_neg (by lia),if_neg (by simp),if_neg (by simp),if_neg (by lia)];rfl
 ·have B:X≤0:=by lia
  have xe:=x3 (by lia);rw[DF B,if_neg (c:=_≤(q.x:Int) - 1∧_) (by lia),show max 0 X=0 by lia,ite_self,ite_self]
  split<;>split<;>lia
 ·have B:Y≤0:=by lia
  have xe:=y3 (by lia);rw[zX B,if_neg (c:=_≤(q.y:Int) - 1∧_) (by lia),show max 0 Y=0 by lia,ite_self,ite_self]
  split<;>split<;>lia
 ·have B:X≤0:=by lia
  have xe:=x4 (by lia);rw[DF B,if_neg (c:=_≤(q.x:Int) + q.w∧_) (by lia),show max 0 X=0 by lia,ite_self,ite_self]
  split<;>split<;>lia
 ·have B:Y≤0:=by lia
  have xe:=y4 (by lia);rw[zX B,if_neg (c:=_≤(q.y:Int) + q.w∧_) (by lia),show max 0 Y=0 by lia,ite_self,ite_self]
  split<;>split<;>lia
open Classical in
theorem zi (J:M.Nodup)(O:∀ q∈M,0 < q.w)(U:∀ q∈M,∀ r∈M,∀ x y,InS q x y→InS r x y→q=r)(G:Bool)(s B:Int):∀ l:Nat,(M.map (ovl G s (s + l) B)).sum=((List.range l).map fun (k:Nat)=>if CM M (jq G B (s + k)).1 (jq G B (s + k)).2 then (1:Int) else 0).sum
 | 0=>by
  rw[show s + ((0:Nat):Int)=s by simp]
  have:M.map (ovl G s s B)=M.map fun _=>(0:Int):=Jk fun q _=>EK G s B q
  rw[this,iF];rfl
 | l + 1=>by
  have Y:=zi J O U G s B l;have e:M.map (ovl G s (s + ((l + 1:Nat):Int)) B)=M.map fun q=>ovl G s (s + l) B q + (if InS q (jq G B (s + l)).1 (jq G B (s + l)).2 then (1:Int) else 0):=Jk fun q hq=>by
   rw[show s + ((l + 1:Nat):Int)=s + l + 1 by lia];exact Cv G (by lia) q (O q hq)
  rw[e,bX,Y,EM J U,Kt,Jn,Kl];simp
theorem zw:∀ l:Nat,((List.range l).map fun _=>(1:Int)).sum=l
 | 0=>rfl
 | l + 1=>by
  rw[Kt,Jn,Kl,zw l];simp
def HX (d:Nat)(q:Sq):Int:=if d=0 then q.y else if d=1 then -((q.x:Int) + q.w) else if d=2 then -((q.y:Int) + q.w) else q.x
theorem Dj (B:d < 4)(h:HX d q≤HX d r):aU q d r=0:=by
 obtain⟨G,J,O,U⟩:=mF q r;rcases de B with rfl|rfl|rfl|rfl
 ·have h':(q.y:Int)≤r.y:=h;rw[G,if_neg (by lia)]
 ·have h':-((q.x:Int) + q.w)≤-((r.x:Int) + r.w):=h;rw[J,if_neg (by lia)]
 ·have h':-((q.y:Int) + q.w)≤-((r.y:Int) + r.w):=h;rw[O,if_neg (by lia)]
 ·have h':(q.x:Int)≤r.x:=h;rw[U,if_neg (by lia)]
theorem Az (G:∀ q∈M,0 < q.w)(B:∀ q∈M,∀ r∈M,q=r∨Sep q r∨Sep r q):dB M=(M.map fun q=>(q.w:Int) - (M.map (aU q 0)).sum).sum + (M.map fun q=>(q.w:Int) - (M.map (aU q 1)).sum).sum + (M.map fun q=>(q.w:Int) - (M.map (aU q 2)).sum).sum + (M.map fun q=>(q.w:Int) - (M.map (aU q 3)).sum).sum:=by
 unfold dB;rw[← bX,← bX,← bX];refine Jz Ld (Jk fun q J =>?_);have e:(M.map (c_ q)).sum=(M.map (aU q 0)).sum + (M.map (aU q 1)).sum + (M.map (aU q 2)).sum + (M.map (aU q 3)).sum:=by
  rw[← bX,← bX,← bX];exact Jz Ld (Jk fun r O=>Bo (G q J) (G r O) (B q J r O))
 rw[e]
 lia
theorem sN [DecidableEq α](f:α→Int):∀ {l:List α},a∈l→(l.map f).sum=f a + ((l.erase a).map f).sum
 | [],h=>by cases h
 | b::l,h=>by
  by_cases e:b=a
  ·subst e;rw[List.erase_cons_head,Jl,JW]
  ·rw[List.erase_cons_tail (by simpa using e),Jl,Jl,JW,JW,sN f ((Jr.mp h).resolve_left fun c=>e c.symm)]
   lia
theorem kr [DecidableEq α](f:α→Int):∀ {l M:List α},l.Nodup→M.Nodup→(∀ x∈l,x∈M)→(∀ x∈M,x∉l→f x=0)→(l.map f).sum=(M.map f).sum
 | [],M,_,_,_,h=>by
  rw[Jk (g:=fun _=>(0:Int)) fun x B=>h x B (by simp),iF];rfl
 | a::l,M,h1,h2,h3,h=>by
  obtain⟨J,O⟩:=Kn.mp h1;rw[sN f (h3 a Jg),Jl,JW,kr f (l:=l) (M:=M.erase a) O (h2.erase a) (fun x B=>(LQ fun (e:x=a)=>J (by rw[← e];exact B)).mpr (h3 x (Ja _ B))) fun x B U =>?_];have G:=(List.Nodup.mem_erase_iff h2).mp B;exact h x G.2 fun c=>(Jr.mp c).elim G.1 U
theorem zn (O:L.Pairwise ff)(hw:∀ q∈L,0 < q.w)(C:a_ L A zs)(G:q∈L)(J:r∈L)(U:q.c=r.c)(B:aV q r=true):r.z∈A q.z:=by
 obtain⟨i,hi⟩:=Ks G;obtain⟨j,hj⟩:=Ks J;have Y:∀ {a b:Sq},a∈L→b∈L→a.c=b.c→fU (cE L) (a.z,b.z)=true:=fun {a b} ha hb e=>by
  unfold fU;rw[cC O ha,cC O hb,e];exact Jd rfl
 refine (C.near q.z r.z).mpr ?_;rcases L7 i j with h | h | h
 ·exact⟨(q.z,r.z),m9 hi hj h B,Y G J U,.inl ⟨rfl,rfl⟩⟩
 ·rw[h,hj]at hi;cases hi;rw[dk]at B
  have:=hw q G
  unfold dF mn mx at B
  repeat' split at B
  all_goals lia
 ·exact⟨(r.z,q.z),m9 hj hi h (by rw[nE];exact B),Y J G U.symm,.inr ⟨rfl,rfl⟩⟩
theorem CO {L:List Sq}(hB:L.Pairwise ff)(hw:∀ q∈L,0 < q.w){A:List Nat→LN9}{zs:LN9}(C:a_ L A zs)(hA:∀ z,(A z).Nodup){q0:Sq}(h0:q0∈L)(B:∀ q∈aJ L A q0.z,q.c=q0.c){m:Mem}(hm:m∈iB A q0.z):((A m.1).map fun y=>c_ (cZ L m.1) (cZ L y)).sum=((aJ L A q0.z).map (c_ (cZ L m.1))).sum:=by
 have hz:q0.z∈zs:=by rw[C.ez];exact I9.mpr ⟨q0,h0,rfl⟩
 have e:(aJ L A q0.z).map (c_ (cZ L m.1))=((iB A q0.z).map (·.1)).map fun y=>c_ (cZ L m.1) (cZ L y):=by
  unfold aJ;rw[JE,JE];rfl
 rw[e];refine kr _ (hA _) (C.bi hz).nd (C.closed hz m hm) fun y hy hn =>?_;have sq:∀ {y:List Nat},y∈(iB A q0.z).map (·.1)→∃ r∈L,r.z=y∧cZ L y=r∧r.c=q0.c:=fun {y} hy=>by
  obtain⟨m',G,rfl⟩:=I9.mp hy;have h1:=(C.bi hz).sub m' G;rw[C.ez]at h1;obtain⟨r,J,O⟩:=I9.mp h1;have U:cZ L m'.1=r:=by rw[← O];exact kC hB J
  refine⟨r,J,O,U,?_⟩;refine B r ?_;unfold aJ;exact I9.mpr ⟨m',G,U⟩
 obtain⟨q,hq,eq,e1,c1⟩:=sq (I9.mpr ⟨m,hm,rfl⟩);obtain⟨r,J,O,U,c2⟩:=sq hy;rw[e1,U];by_cases c:aV q r=true
 ·exfalso
  apply hn
  rw[← O,← eq];exact zn hB hw C hq J (c1.trans c2.symm) c
 ·rw[dk]at c;unfold dF at c;simp only[fR,fQ]at c;rw[ig]
  split
  ·rename_i h
   have h2:¬ 0 < max (min ((q.x:Int) + q.w) (r.x + r.w) - max (q.x:Int) r.x) (min ((q.y:Int) + q.w) (r.y + r.w) - max (q.y:Int) r.y):=fun h2=>c ⟨h,h2⟩;generalize min ((q.x:Int) + q.w) (r.x + r.w) - max (q.x:Int) r.x=X at *;generalize min ((q.y:Int) + q.w) (r.y + r.w) - max (q.y:Int) r.y=Y at *
   lia
  ·rfl
theorem ft {L:List Sq}{A:List Nat→LN9}{zs:LN9}(C:a_ L A zs){q0:Sq}(G:q0∈L):(aJ L A q0.z).Nodup:=by
 have B:q0.z∈zs:=by rw[C.ez];exact I9.mpr ⟨q0,G,rfl⟩
 have h:=(C.bi B).nd;unfold aJ;unfold List.Nodup at h ⊢;rw[JN]at h ⊢;refine h.imp_of_mem fun {a b} J O U e=>U ?_;have sq:∀ {m:Mem},m∈iB A q0.z→(cZ L m.1).z=m.1:=fun {m} Y=>by
  have h1:=(C.bi B).sub m Y;rw[C.ez]at h1;obtain⟨r,hr,er⟩:=I9.mp h1;rw[← er,kC C.hB hr]
 rw[← sq J,← sq O,e]
theorem Lnd.bare_nd (h:Lnd L M W col)(nd:L.Nodup)(hq:q∈M)(U:d < 4):(bD L q d).Nodup:=by
 unfold bD
 split
 ·simp
 ·have Y:((dG L q d).filter fun r=>decide (r.c≠q.c)).Nodup:=(nd.filter _).filter _;unfold List.Nodup at Y ⊢;rw[JN];refine Y.imp_of_mem fun {r r'} J O hn e=>hn ?_;have hL:=h.sub q hq;have hw:=h.pos q hL;have go:∀ r,r∈(dG L q d).filter (fun r=>decide (r.c≠q.c))→r∈L∧max (tlo q d) (tlo r d) < min (tlo q d + q.w) (tlo r d + r.w)∧InS r (lcx q d (max (tlo q d) (tlo r d))) (lcy q d (max (tlo q d) (tlo r d))):=fun r J=>by
   have B:=(JH.mp J).1;have hl:=(jo U).mp (JH.mp B).2;have G:r∈L:=(JH.mp B).1;have a0:=h.pos r G;have k:max (tlo q d) (tlo r d) < min (tlo q d + q.w) (tlo r d + r.w):=by omega
   exact⟨G,k,lin U (JH.mp B).2 (Int.le_max_right ..) (Int.lt_of_lt_of_le k (Int.min_le_right ..))⟩
  obtain⟨a1,a2,a3⟩:=go r J;obtain⟨b1,b2,b3⟩:=go r' O;rw[(Prod.mk.inj e).1]at a3;exact h.apart r a1 r' b1 _ _ a3 b3
open Classical in
theorem vO (P:α→Prop):∀ {l:List α},l.Nodup→(∀ a∈l,∀ b∈l,P a→P b→a=b)→(l.map fun a=>if P a then (1:Int) else 0).sum=if ∃ a∈l,P a then 1 else 0
 | [],_,_=>by simp
 | a::l,hn,hu=>by
  obtain⟨J,O⟩:=Kn.mp hn;rw[Jl,JW,vO P O fun x B y U=>hu x (Ja _ B) y (Ja _ U)];by_cases c:P a
  ·have Y:¬ ∃ x∈l,P x:=fun⟨x,B,G⟩=>J (by rw[hu a Jg x (Ja _ B) c G];exact B);rw[if_pos c,if_neg Y,if_pos ⟨a,Jg,c⟩];rfl
  ·rw[if_neg c,K9];by_cases c2:∃ x∈l,P x
   ·obtain⟨x,B,G⟩:=id c2;rw[if_pos c2,if_pos ⟨x,Ja _ B,G⟩]
   ·rw[if_neg c2,if_neg];rintro⟨x,B,G⟩;rcases Jr.mp B with e | B
    ·exact c (e▸G)
    ·exact c2 ⟨x,B,G⟩
theorem ql {α β:Type}(f:α→β→Int):∀ (l:List α) (m:List β),(l.map fun a=>(m.map (f a)).sum).sum=(m.map fun b=>(l.map fun a=>f a b).sum).sum
 | [],m=>by
  simp only[Kh,K8];rw[iF]
 | a::l,m=>by
  simp only[Jl,JW];rw[ql f l m,← bX]
def inB (t:Int)(be:Int × Int):Prop:=be.1≤t∧t < be.2
open Classical in
theorem zB (lo:Int)(B:Int × Int):∀ w:Nat,((List.range w).map fun (k:Nat)=>if inB (lo + k) B then (1:Int) else 0).sum=max 0 (min (lo + w) B.2 - max lo B.1)
 | 0=>by
  show (0:Int)=max 0 (min (lo + 0) B.2 - max lo B.1)
  lia
 | w + 1=>by
  rw[Kt,Jn,Kl,zB lo B w,show lo + ((w + 1:Nat):Int)=lo + w + 1 by lia,vT (by lia)];simp only[Jl,Kh,JW,K8,L4]
  congr
theorem Fl (q:Sq)(B:d < 4)(t:Int):jq (dnD d) (lnD q d) t=(lcx q d t,lcy q d t):=by
 rcases de B with rfl|rfl|rfl|rfl<;>rfl
theorem Lnd.bare_len (h:Lnd L M W col)(nd:L.Nodup)(U:M.Nodup)(J:q∈M)(G:d < 4):((bD L q d).map fun B=>B.2 - B.1).sum=(q.w:Int) - (M.map (aU q d)).sum:=by
 have e1:((bD L q d).map fun B=>B.2 - B.1)=(bD L q d).map fun B=>((List.range q.w).map fun (k:Nat)=>open Classical in if inB (tlo q d + k) B then (1:Int) else 0).sum:=by
  refine Jk fun B O =>?_;obtain⟨b1,b2⟩:=h.bare J G O;have x1:=(b2 B.1 (KF _) b1).1;have x2:=(b2 (B.2 - 1) (by lia) (by lia)).2.1;rw[zB]
  lia
 have e2:=zi U (fun r Y=>h.pos r (h.sub r Y)) (fun r Y r' a0=>h.apart r (h.sub r Y) r' (h.sub r' a0)) (dnD d) (tlo q d) (lnD q d) q.w;have e3:(M.map (aU q d)).sum=(M.map (ovl (dnD d) (tlo q d) (tlo q d + q.w) (lnD q d))).sum:=rfl;rw[e1,ql,e3,e2];have e4:((List.range q.w).map fun (k:Nat)=>((bD L q d).map fun B=>open Classical in if inB (tlo q d + k) B then (1:Int) else 0).sum).sum + ((List.range q.w).map fun (k:Nat)=>open Classical in if CM M (jq (dnD d) (lnD q d) (tlo q d + k)).1 (jq (dnD d) (lnD q d) (tlo q d + k)).2 then (1:Int) else 0).sum=q.w:=by
  rw[← bX,← zw q.w];refine Jz Ld (Jk fun k hk =>?_);have kw:=Ke.mp hk;rw[vO (inB (tlo q d + k)) (h.bare_nd nd J G) (fun a ha b O ta tb=>h.part_one J G ha O ta tb),Fl q G];by_cases c:CM M (lcx q d (tlo q d + k)) (lcy q d (tlo q d + k))
  ·rw[if_pos c,if_neg]
   ·rfl
   ·rintro⟨B,O,t1,t2⟩;exact (((h.bare J G O).2 _ t1 t2).2.2.2) c
  ·rw[if_neg c,if_pos (show ∃ a∈bD L q d,inB (tlo q d + k) a from h.part_of J G (by lia) (by lia) c)];rfl
 lia
theorem kF (G:0 < q.w)(B:d < 4):aU q d q=0:=Dj B (KF _)
theorem gle {a b c d:Int}(h:b≤c∨d≤a):min b d - max a c≤0:=Int.sub_nonpos_of_le (h.elim (fun h=>Int.le_trans (Int.min_le_left ..) (Int.le_trans h (Int.le_max_right ..))) fun h=>Int.le_trans (Int.min_le_right ..) (Int.le_trans h (Int.le_max_left ..)))
theorem zj {X y v y' v':Int}(G:0 < v)(B:0 < v')(h:X≤0∨y + v≤y'∨y' + v'≤y):(if y'≤y - 1∧y - 1 < y' + v' then max 0 X else 0)=(if y≤y' + v'∧y' + v' < y + v then max 0 X else 0)∧((if y'≤y - 1∧y - 1 < y' + v' then max 0 X else 0)=0∨y=y' + v'):=by
 rcases h with h|h|h
 ·rw[show max 0 X=0 by lia,ite_self,ite_self];exact⟨rfl,.inl rfl⟩
 ·rw[if_neg (by lia),if_neg (by lia)];exact⟨rfl,.inl rfl⟩
 ·by_cases e:y=y' + v'
  ·rw[if_pos (by lia),if_pos (by lia)];exact⟨rfl,.inr e⟩
  ·rw[if_neg (by lia),if_neg (by lia)];exact⟨rfl,.inl rfl⟩
theorem vX {q r:Sq}(B:0 < q.w)(Y:0 < r.w)(G:q=r∨Sep q r∨Sep r q):(aU q 0 r=aU r 2 q∧(aU q 0 r=0∨(q.y:Int)=r.y + r.w))∧(aU q 1 r=aU r 3 q∧(aU q 1 r=0∨(q.x:Int) + q.w=r.x)):=by
 obtain⟨a0,J,a2,a3⟩:=mF q r;obtain⟨b0,b1,O,U⟩:=mF r q;rcases G with rfl|G
 ·rw[kF B (by decide),kF B (by decide),kF B (by decide),kF B (by decide)];exact⟨⟨rfl,.inl rfl⟩,rfl,.inl rfl⟩
 rw[a0,J,O,U,Lp ((r.x:Int) + r.w),Lq (r.x:Int),Lp ((r.y:Int) + r.w),Lq (r.y:Int)];unfold Sep at G;have h1:=zj (X:=min ((q.x:Int) + q.w) (r.x + r.w) - max (q.x:Int) r.x) (y:=q.y) (v:=q.w) (y':=r.y) (v':=r.w) (by lia) (by lia) (G.elim (Or.elim · (fun h=>.inl (gle (.inl (Int.ofNat_le.mpr h)))) fun h=>.inr (.inl (Int.ofNat_le.mpr h))) (Or.elim · (fun h=>.inl (gle (.inr (Int.ofNat_le.mpr h)))) fun h=>.inr (.inr (Int.ofNat_le.mpr h))));have h2:=zj (X:=min ((q.y:Int) + q.w) (r.y + r.w) - max (q.y:Int) r.y) (y:=r.x) (v:=r.w) (y':=q.x) (v':=q.w) (by lia) (by lia) (G.elim (Or.elim · (fun h=>.inr (.inr (Int.ofNat_le.mpr h))) fun h=>.inl (gle (.inl (Int.ofNat_le.mpr h)))) (Or.elim · (fun h=>.inr (.inl (Int.ofNat_le.mpr h))) fun h=>.inl (gle (.inr (Int.ofNat_le.mpr h)))));refine⟨h1,h2.1.symm,?_⟩;rw[← h2.1];exact h2.2.imp id Eq.symm
def cf (q:Sq)(d:Nat):Int:=if d=0 then -(q.y:Int) else if d=1 then (q.x:Int) + q.w else if d=2 then (q.y:Int) + q.w else -(q.x:Int)
def agn (q r:Sq):Int:=cf q 0 * aU q 0 r + cf q 1 * aU q 1 r + cf q 2 * aU q 2 r + cf q 3 * aU q 3 r
theorem Fv (B:0 < q.w)(G:0 < r.w)(J:q=r∨Sep q r∨Sep r q):agn q r + agn r q=0:=by
 obtain⟨⟨h1,h2⟩,O,U⟩:=vX B G J;obtain⟨⟨k1,k2⟩,k3,Y⟩:=vX G B (J.imp Eq.symm Or.symm);unfold agn;rw[← k1,← k3,← h1,← O];have e1:cf q 0 * aU q 0 r + cf r 2 * aU q 0 r=0:=by
  rcases h2 with h|h
  ·rw[h];simp
  ·rw[← LX,show cf q 0 + cf r 2=0 by show -(q.y:Int) + ((r.y:Int) + r.w)=0;lia,Mp]
 have e2:cf q 1 * aU q 1 r + cf r 3 * aU q 1 r=0:=by
  rcases U with h|h
  ·rw[h];simp
  ·rw[← LX,show cf q 1 + cf r 3=0 by show ((q.x:Int) + q.w) + -(r.x:Int)=0;lia,Mp]
 have e3:cf r 0 * aU r 0 q + cf q 2 * aU r 0 q=0:=by
  rcases k2 with h|h
  ·rw[h];simp
  ·rw[← LX,show cf r 0 + cf q 2=0 by show -(r.y:Int) + ((q.y:Int) + q.w)=0;lia,Mp]
 have e4:cf r 1 * aU r 1 q + cf q 3 * aU r 1 q=0:=by
  rcases Y with h|h
  ·rw[h];simp
  ·rw[← LX,show cf r 1 + cf q 3=0 by show ((r.x:Int) + r.w) + -(q.x:Int)=0;lia,Mp]
 lia
theorem Fu {M:List Sq}(G:∀ q∈M,0 < q.w)(B:∀ q∈M,∀ r∈M,q=r∨Sep q r∨Sep r q):(M.map fun q=>(M.map (agn q)).sum).sum=0:=by
 have e:=ql agn M M;have U:(M.map fun q=>(M.map (agn q)).sum).sum + (M.map fun q=>(M.map fun r=>agn r q).sum).sum=0:=by
  rw[← bX,← iF M];refine Jz Ld (Jk fun q J =>?_);rw[← bX,← iF M];exact Jz Ld (Jk fun r O=>Fv (G q J) (G r O) (B q J r O))
 lia
theorem gi (c:Int)(f:α→Int):∀ l:List α,(l.map fun x=>c * f x).sum=c * (l.map f).sum
 | []=>by simp
 | a::l=>by simp only[Jl,JW,gi c f l,Int.mul_add]
theorem Bt {M:List Sq}(J:∀ q∈M,0 < q.w)(B:∀ q∈M,∀ r∈M,q=r∨Sep q r∨Sep r q):(M.map fun q=>cf q 0 * ((q.w:Int) - (M.map (aU q 0)).sum) + cf q 1 * ((q.w:Int) - (M.map (aU q 1)).sum) + cf q 2 * ((q.w:Int) - (M.map (aU q 2)).sum) + cf q 3 * ((q.w:Int) - (M.map (aU q 3)).sum)).sum=2 * (M.map fun q=>(q.w:Int) * q.w).sum:=by
 have e:=Fu J B;have G:(M.map fun q=>cf q 0 * ((q.w:Int) - (M.map (aU q 0)).sum) + cf q 1 * ((q.w:Int) - (M.map (aU q 1)).sum) + cf q 2 * ((q.w:Int) - (M.map (aU q 2)).sum) + cf q 3 * ((q.w:Int) - (M.map (aU q 3)).sum)).sum + (M.map fun q=>(M.map (agn q)).sum).sum=(M.map fun q=>2 * ((q.w:Int) * q.w)).sum:=by
  rw[← bX];refine Jz Ld (Jk fun q _ =>?_);have O:(M.map (agn q)).sum=cf q 0 * (M.map (aU q 0)).sum + cf q 1 * (M.map (aU q 1)).sum + cf q 2 * (M.map (aU q 2)).sum + cf q 3 * (M.map (aU q 3)).sum:=by
   rw[← gi,← gi,← gi,← gi,← bX,← bX,← bX];rfl
  rw[O];show -(q.y:Int) * _ + ((q.x:Int) + q.w) * _ + ((q.y:Int) + q.w) * _ + -(q.x:Int) * _ + (-(q.y:Int) * _ + ((q.x:Int) + q.w) * _ + ((q.y:Int) + q.w) * _ + -(q.x:Int) * _)=_;generalize (M.map (aU q 0)).sum=s0;generalize (M.map (aU q 1)).sum=U;generalize (M.map (aU q 2)).sum=Y;generalize (M.map (aU q 3)).sum=s3
  grind
 rw[e,L4,gi]at G;exact G
def ptR (ps:List Pt)(k:Nat):Pt:=(ps[k]?).getD (0,0)
def t0 (g:Pt→Pt→Int):Prop:=∀ (a:Pt) (l m d:Nat),d < 4→g a (go a (l + m) d)=g a (go a l d) + g (go a l d) (go (go a l d) m d)
def cS (g:Pt→Pt→Int):List Pt→Int
 | []=>0
 | [_]=>0
 | a::b::l=>g a b + cS g (b::l)
theorem zZ (g:Pt→Pt→Int)(a b:Pt):∀ l:List Pt,cS g (l++[a]++[b])=cS g (l++[a]) + g a b
 | []=>by simp[cS]
 | [c]=>by simp[cS]
 | c::e::l=>by
  have:=zZ g a b (e::l)
  simp only[Me,cS]at this ⊢;rw[this]
  lia
def cyS (g:Pt→Pt→Int)(ps:List Pt):Int:=((List.range ps.length).map fun k=>g (ptR ps (prv ps.length k)) (ptR ps k)).sum
theorem GQ (g:Pt→Pt→Int)(h:(l++[c])[0]? = some a):cyS g (l++[c])=cS g (l++[c]) + g c a:=by
 have go:∀ (l:List Pt) (p:Pt),((List.range l.length).map fun k=>g (ptR (p::l) k) (ptR (p::l) (k + 1))).sum=cS g (p::l):=by
  intro l
  induction l with
  | nil=>intro p;rfl
  | cons b l ih =>
   intro p;rw[Jv,Lx,Jl,JW,JE];show g p b + _=g p b + _;rw[← ih b];rfl
 obtain⟨r,B⟩:∃ r,l++[c]=a::r:=by
  cases l with
  | nil=>exact⟨[],by simpa using h⟩
  | cons b l=>exact⟨l++[c],by simpa using h⟩
 have lst:ptR (l++[c]) ((l++[c]).length - 1)=c:=by
  unfold ptR;simp
 unfold cyS;rw[B]at lst ⊢;rw[Jv]at lst;rw[Jv,Lx,Jl,JW,JE,← go r a];have G:g (ptR (a::r) (prv (r.length + 1) 0)) (ptR (a::r) 0)=g c a:=by
  unfold prv;rw[if_pos rfl,lst];rfl
 have J:(List.range r.length).map ((fun k=>g (ptR (a::r) (prv (r.length + 1) k)) (ptR (a::r) k)) ∘ Nat.succ)=(List.range r.length).map fun k=>g (ptR (a::r) k) (ptR (a::r) (k + 1)):=by
  refine Jk fun k O =>?_;show g (ptR (a::r) (prv (r.length + 1) (k + 1))) (ptR (a::r) (k + 1))=_;unfold prv;rw[if_neg (by simp)];rfl
 rw[G,J,Int.add_comm]
section
variable {C:II9}{D:PD9}
theorem sX (h:Pcs C D)(Y:t0 g)(J:∀ i,(D (it (nx D) i x).1 (it (nx D) i x).2).isSome=true)(hc:cU (bI D x N) 0=true):∀ j,0 < j→j≤N→∃ cs c,sC (bI D x N) j=cs++[c]∧(cs++[c])[0]? = some x∧c.2=(it (nx D) (j - 1) x).2∧(c.2 < 4∧∃ l,(it (nx D) j x).1=go c.1 l c.2)∧cS g ((cs++[c]).map (·.1)) + g c.1 (it (nx D) j x).1=((List.range j).map fun i=>g (it (nx D) i x).1 (nx D (it (nx D) i x)).1).sum
 | 0,h0,_=>absurd h0 (KO 0)
 | 1,_,hN=>by
  have e:sC (bI D x N) 1=[x]:=by
   rw[qe,if_pos hc,cT hN];rfl
  obtain⟨⟨O,l,_,G,_⟩,_⟩:=gD h (J 0);refine⟨[],x,e,rfl,rfl,⟨O,l,G⟩,?_⟩;show 0 + g x.1 (nx D x).1=g x.1 (nx D x).1 + 0;simp
 | j + 2,_,hN=>by
  obtain⟨cs,c,e,e0,ew,⟨c4,l0,B⟩,es⟩:=sX h Y J hc (j + 1) (LD _) (by lia);obtain⟨⟨O,l,_,G,_⟩,_⟩:=gD h (J (j + 1));have ew':c.2=(it (nx D) j x).2:=ew;rw[qe,e,Kt,Jn,Kl,← es];have ic:cU (bI D x N) (j + 1)=decide ((it (nx D) (j + 1) x).2≠(it (nx D) j x).2):=by
   unfold cU prv;rw[if_neg (by simp),cT (by assumption),show j + 1 - 1=j from rfl,cT (by lia)]
  have en:it (nx D) (j + 2) x=nx D (it (nx D) (j + 1) x):=rfl;by_cases c1:(it (nx D) (j + 1) x).2=(it (nx D) j x).2
  ·have U:¬ cU (bI D x N) (j + 1)=true:=by rw[ic];simp[c1]
   rw[if_neg U,J_];have ec:(it (nx D) (j + 1) x).2=c.2:=c1.trans ew'.symm;rw[ec]at G;have e2:(it (nx D) (j + 2) x).1=go c.1 (l0 + l) c.2:=by rw[en,G,B,rg]
   refine⟨cs,c,rfl,e0,ec.symm,⟨c4,_,e2⟩,?_⟩;have ha:=Y c.1 l0 l c.2 c4;rw[e2,ha,B];rw[B]at G;simp only[Jl,Kh,JW,K8,B,G]
   lia
  ·have U:cU (bI D x N) (j + 1)=true:=by rw[ic];simp[c1]
   rw[if_pos U,cT (by assumption)];refine⟨cs++[c],_,rfl,?_,rfl,⟨O,l,G⟩,?_⟩
   ·rw[JM (by simp)];exact e0
   ·rw[Jn,Jn,Jl,Kh,Jl,Kh,zZ];simp only[Jl,Kh,JW,K8,en];simp
theorem BZ (W:jt C D)(Y:t0 g)(O:(D s.1 s.2).isSome=true)(low:∀ z∈cL D s,leP s.1 z.1):cyS g (iD (cL D s))=((cL D s).map fun z=>g z.1 (nx D z).1).sum:=by
 obtain⟨N,d,G,hd,hc,_,_,ht⟩:=jr W O low;have U:=G.1;rw[g_ G];have c0:cU (bI D s N) 0=true:=by
  unfold cU;rw[jT,cT U];unfold prv;rw[if_pos rfl,cT (by lia),hd];refine Jd ?_;show s.2≠d;rcases hc with⟨rfl,e⟩ | ⟨rfl,e⟩<;>rw[e]<;>decide
 obtain⟨cs,c,e1,e0,_,_,es⟩:=sX W.pc Y (W.go_ O) c0 N U (I_ _);have B:iD (bI D s N)=cs.map (·.1)++[c.1]:=by
  unfold iD;rw[jT,← zV,e1,Jn];rfl
 have J:(cs.map (·.1)++[c.1])[0]? = some s.1:=by
  have:((cs++[c]).map (·.1))[0]? = some s.1:=by rw[JL,e0];rfl
  rw[Jn]at this;exact this
 rw[B,GQ g J];rw[Jn,G.2.1]at es;rw[show cs.map (·.1)++[c.1]=cs.map (·.1)++[c].map (·.1) from rfl,es];unfold bI;rw[JE];rfl
theorem xM (W:jt C D)(G:(D s.1 s.2).isSome=true):(cL D s).Nodup:=by
 obtain⟨N,h⟩:=W.back G;rw[g_ h];unfold bI List.Nodup;rw[JN];refine List.Pairwise.imp_of_mem (R:=fun a b=>a < b) (fun {i j} hi hj B =>?_) (List.pairwise_lt_range);exact h.2.2 i j B (Ke.mp hj)
theorem mV (f:α→List β)(g:β→Int):∀ l:List α,((l.flatMap f).map g).sum=(l.map fun x=>((f x).map g).sum).sum
 | []=>rfl
 | a::l=>by
  rw[L_,Jn,Kl,mV f g l];rfl
theorem v_ (W:jt C D){g:Pt→Pt→Int}(hg:t0 g){ys:LP9}(J:∀ k,k∈ys↔(D k.1 k.2).isSome=true)(hs:ys.Pairwise fun a b=>leP a.1 b.1){S:LP9}(nS:S.Nodup)(U:∀ k,k∈S↔(D k.1 k.2).isSome=true):((aK D ys).1.map (cyS g)).sum=(S.map fun z=>g z.1 (nx D z).1).sum:=by
 obtain⟨O,I⟩:=rgI W J hs ys.length;rw[Kq]at I;have G:∀ s∈O,(D s.1 s.2).isSome=true:=fun s h=>(J s).mp (I.from_ s h);rw[I.told,JE];have e:O.map (cyS g ∘ fun s=>iD (cL D s))=O.map fun s=>((cL D s).map fun z=>g z.1 (nx D z).1).sum:=Jk fun s h=>BZ W hg (G s h) (I.low s h);rw[e,← mV];refine kr _ ?_ nS (fun z B =>?_) (fun z B hn=>absurd ?_ hn)
 ·unfold List.Nodup;rw[LI];refine⟨fun s h=>xM W (G s h),I.asc.imp_of_mem fun {s s'} h h' r a ha b Y e=>r.2 ?_⟩;rw[← e]at Y;exact W.trans (G s h) ha ((W.sym (G s' h') Y).2)
 ·obtain⟨s,h,B⟩:=LM.mp B;exact (U z).mpr (W.sym (G s h) B).1
 ·have h1:=I.all z ((J z).mpr ((U z).mp B));obtain⟨s,h,B⟩:=(I.gone z).mp h1;exact LM.mpr ⟨s,h,B⟩
theorem sQ {α:Type}{R:α→α→Prop}(B:∀ a b,R a b→R b a→False):∀ {l m:List α},l.Pairwise R→m.Pairwise R→(∀ x,x∈l↔x∈m)→l=m
 | [],[],_,_,_=>rfl
 | [],b::m,_,_,h=>by
  have:=(h b).mpr Jg
  cases this
 | a::l,[],_,_,h=>by
  have:=(h a).mp Jg
  cases this
 | a::l,b::m,h1,h2,h=>by
  obtain⟨U,a2⟩:=Ky.mp h1;obtain⟨Y,b2⟩:=Ky.mp h2;have e:a=b:=by
   rcases Jr.mp ((h a).mp Jg) with e|e
   ·exact e
   ·rcases Jr.mp ((h b).mpr Jg) with O|O
    ·exact O.symm
    ·exact (B _ _ (U b O) (Y a e)).elim
  subst e;have J:∀ x,¬ R x x:=fun x h=>B x x h h;rw[sQ B a2 b2 fun x =>?_];constructor
  ·intro G;rcases Jr.mp ((h x).mp (Ja _ G)) with e | e
   ·rw[e]at G;exact (J _ (U a G)).elim
   ·exact e
  ·intro G;rcases Jr.mp ((h x).mpr (Ja _ G)) with e | e
   ·rw[e]at G;exact (J _ (Y a G)).elim
   ·exact e
theorem wF (h:leP a b)(k:leP b a):a=b:=by
 unfold leP at h k;exact Prod.ext (by lia) (by lia)
theorem sS (W:jt C D){ys G:LP9}(B:∀ k,k∈ys↔(D k.1 k.2).isSome=true)(hs:ys.Pairwise fun a b=>leP a.1 b.1)(O:∀ k,k∈G↔(D k.1 k.2).isSome=true)(a0:G.Pairwise fun a b=>leP a.1 b.1):(aK D ys).1=(aK D G).1:=by
 obtain⟨J,I⟩:=rgI W B hs ys.length;obtain⟨a1,Y⟩:=rgI W O a0 G.length;rw[Kq]at I Y;rw[I.told,Y.told];have mem:∀ {ys J:LP9} {X:List (List Pt) × LP9},(∀ k,k∈ys↔(D k.1 k.2).isSome=true)→RgI D ys J X→∀ s,s∈J↔(D s.1 s.2).isSome=true∧∀ z∈cL D s,leP s.1 z.1:=fun {ys J X} B I s=>by
  constructor
  ·exact fun h=>⟨(B s).mp (I.from_ s h),I.low s h⟩
  ·rintro⟨h1,h2⟩;obtain⟨s0,h,hz⟩:=(I.gone s).mp (I.all s ((B s).mpr h1));have h0:=(B s0).mp (I.from_ s0 h);have e:=wF (h2 s0 (W.sym h0 hz).2) (I.low s0 h s hz);rw[tX W h1 h0 h2 (I.low s0 h) e];exact h
 have U:∀ {ys J:LP9} {X:List (List Pt) × LP9},(∀ k,k∈ys↔(D k.1 k.2).isSome=true)→RgI D ys J X→J.Pairwise fun s s'=>leP s.1 s'.1∧s.1≠s'.1:=fun {ys J X} B I=>by
  refine I.asc.imp_of_mem fun {s s'} h h' r=>⟨r.1,fun e=>r.2 ?_⟩;have h1:=(B s).mp (I.from_ s h);rw[← tX W h1 ((B s').mp (I.from_ s' h')) (I.low s h) (I.low s' h') e];exact W.self h1
 rw[sQ (fun a b h k=>h.2 (wF h.1 k.1)) (U B I) (U O Y) fun s=>by rw[mem B I,mem O Y]]
end
theorem rY (h:Lnd L M W col)(G:∀ q,q∈M↔q∈M'):DG L M=DG L M':=by
 have h':Lnd L M' W col:=⟨h.pos,h.apart,h.cover,h.inside,fun q B=>h.sub q ((G q).mpr B),fun q B=>h.colour q ((G q).mpr B),fun q B r U d Y hl hc=>(G r).mp (h.closed q ((G q).mpr B) r U d Y hl hc)⟩;have O:∀ p,p∈GL L M↔p∈GL L M':=fun p=>by
  rw[ju,ju];exact⟨fun⟨q,B,r⟩=>⟨q,(G q).mp B,r⟩,fun⟨q,B,r⟩=>⟨q,(G q).mpr B,r⟩⟩
 have one:∀ {M1 M2:List Sq},Lnd L M2 W col→(∀ p,p∈GL L M1→p∈GL L M2)→∀ a d e,DG L M1 a d=some e→DG L M2 a d=some e:=fun {M1 M2} h2 g a d e he=>by
  have h1:=g _ (ou he);unfold DG;cases hf:(GL L M2).find? fun p=>decide (p.1=(a,(d:Int))) with
  | none =>
   have:=L1.mp hf _ h1
   simp at this
  | some p =>
   have m:=KZ hf;have k:p.1=(a,(d:Int)):=by simpa using LW hf
   have m':((a,(d:Int)),p.2)∈GL L M2:=by rw[← k];exact m
   rw[Le,yJ h2 m' h1]
 funext a d
 cases e:DG L M a d with
 | some p=>exact (one h' (fun p J=>(O p).mp J) a d p e).symm
 | none =>
  cases e':DG L M' a d with
  | some p=>rw[one h (fun p J=>(O p).mpr J) a d p e']at e;cases e
  | none=>rfl
theorem DW (h:Lnd L M W col)(nd:L.Nodup)(a5:M.Nodup):(fe L M).Nodup:=by
 unfold fe List.Nodup;rw[JN];unfold GL;rw[LI];have key:∀ {q q':Sq} {d d':Nat} {G B:Int × Int},q∈M→q'∈M→d < 4→d' < 4→G∈bD L q d→B∈bD L q' d'→((gen q d G).1.1,(gen q d G).1.2.toNat)=((gen q' d' B).1.1,(gen q' d' B).1.2.toNat)→d=d'∧q=q'∧G=B:=fun {q q' d d' G B} O U Y a3 J a0 e=>by
  have ed:d=d':=by
   have:=(Prod.mk.inj e).2
   simpa[gen] using this
  subst ed;have e1:(bd q d G).1=(bd q' d B).1:=(Prod.mk.inj e).1;have b1:=(h.bare O Y J).1;have b2:=(h.bare U Y a0).1;obtain⟨x1,x2⟩:=vj h O U Y J a0 (k:=0) (j:=0) (by lia) (by lia) (by rw[mU,mU];exact e1);exact⟨rfl,x1,x2⟩
 have a4:∀ {q:Sq} {p:NK × Pt},(p∈(List.range 4).flatMap fun d=>G1 L q d)→∃ d,d < 4∧∃ G∈bD L q d,p=gen q d G:=fun {q p} hp=>by
  obtain⟨d,hd,hp⟩:=LM.mp hp;unfold G1 at hp;obtain⟨G,J,rfl⟩:=I9.mp hp;exact⟨d,Ke.mp hd,G,J,rfl⟩
 refine⟨fun q O =>?_,a5.imp_of_mem fun {q q'} O U hn a ha b J e =>?_⟩
 ·rw[LI];refine⟨fun d hd =>?_,List.Pairwise.imp_of_mem (R:=fun a b=>a < b) (fun {d d'} hd a6 a7 a ha b J e =>?_) List.pairwise_lt_range⟩
  ·have Y:=Ke.mp hd;unfold G1;rw[JN];exact (h.bare_nd nd O Y).imp_of_mem fun {G B} J a0 hn e=>hn (key O O Y Y J a0 e).2.2
  ·unfold G1 at ha J;obtain⟨G,a1,rfl⟩:=I9.mp ha;obtain⟨B,a2,rfl⟩:=I9.mp J
   have:=(key O O (Ke.mp hd) (Ke.mp a6) a1 a2 e).1
   lia
 ·obtain⟨d,Y,G,a1,rfl⟩:=a4 ha;obtain⟨d',a3,B,a2,rfl⟩:=a4 J;exact hn (key O U Y a3 a1 a2 e).2.1
theorem sW {L M:List Sq}{W col:Int}(h:Lnd L M W col)(nd:L.Nodup)(G:M.Nodup){g:Pt→Pt→Int}(J:t0 g){ys:LP9}(O:∀ k,k∈ys↔k∈fe L M)(U:ys.Pairwise fun a b=>leP a.1 b.1):((aK (DG L M) ys).1.map (cyS g)).sum=(M.map fun q=>((List.range 4).map fun d=>((bD L q d).map fun B=>g (bd q d B).1 (bd q d B).2).sum).sum).sum:=by
 rw[v_ (mh h) J (fun k=>by rw[O,bZ]) U (DW h nd G) fun k=>bZ];unfold fe;rw[JE];have e:(GL L M).map ((fun z=>g z.1 (nx (DG L M) z).1) ∘ fun p=>(p.1.1,p.1.2.toNat))=(GL L M).map fun p=>g p.1.1 p.2:=by
  refine Jk fun p Y =>?_;obtain⟨q,hq,d,h4,B,hb,rfl⟩:=ju.mp Y;show g (bd q d B).1 (nx (DG L M) ((bd q d B).1,((d:Int)).toNat)).1=g (bd q d B).1 (bd q d B).2;rw[JU];obtain⟨e',n1,_⟩:=kL (pcs h) (FR h hq h4 hb);rw[n1]
 rw[e];unfold GL;rw[mV];refine Jz Ld (Jk fun q _ =>?_);rw[mV];refine Jz Ld (Jk fun d _ =>?_);unfold G1;rw[JE];rfl
def crs (a b:Pt):Int:=a.1 * b.2 - b.1 * a.2
def far (a b:Pt):Int:=max (a.1 - b.1) (b.1 - a.1) + max (a.2 - b.2) (b.2 - a.2)
theorem Bw:t0 crs:=fun a l m d B=>by
 unfold crs go;rcases de B with rfl | rfl | rfl | rfl<;>simp[ux,uy]<;>grind
theorem yx (a:Pt)(l:Nat)(B:d < 4):far a (go a l d)=l:=by
 unfold far go;rcases de B with rfl | rfl | rfl | rfl<;>simp[ux,uy]<;>lia
theorem Bv:t0 far:=fun a l m d B=>by
 rw[yx a _ B,yx a _ B,yx _ _ B];simp
theorem wN (f:Nat→Int):((List.range 4).map f).sum=f 0 + f 1 + f 2 + f 3:=by
 show f 0 + (f 1 + (f 2 + (f 3 + 0)))=_
 lia
theorem Dl (B:d < 4)(h:be.1 < be.2):far (bd q d be).1 (bd q d be).2=be.2 - be.1:=by
 unfold far;rcases de B with rfl | rfl | rfl | rfl<;>simp[bd]<;>omega
theorem DC (G:d < 4)(B:Int × Int):crs (bd q d B).1 (bd q d B).2=cf q d * (B.2 - B.1):=by
 unfold crs;rcases de G with rfl | rfl | rfl | rfl<;>simp[bd,cf]<;>grind
theorem Aw (h:Lnd L M W col)(nd:L.Nodup)(B:M.Nodup)(J:∀ q∈M,∀ r∈M,q=r∨Sep q r∨Sep r q)(Y:∀ k,k∈ys↔k∈fe L M)(hs:ys.Pairwise fun a b=>leP a.1 b.1):((aK (DG L M) ys).1.map (cyS far)).sum=dB M:=by
 have hw:∀ q∈M,0 < q.w:=fun q G=>h.pos q (h.sub q G);rw[sW h nd B Bv Y hs,Az hw J,← bX,← bX,← bX];refine Jz Ld (Jk fun q G =>?_);have e:∀ d,d < 4→((bD L q d).map fun O=>far (bd q d O).1 (bd q d O).2).sum=(q.w:Int) - (M.map (aU q d)).sum:=fun d U=>by
  rw[← h.bare_len nd B G U];exact Jz Ld (Jk fun O hb=>Dl U (h.bare G U hb).1)
 rw[wN,e 0 (by decide),e 1 (by decide),e 2 (by decide),e 3 (by decide)]
theorem Ax (h:Lnd L M W col)(nd:L.Nodup)(B:M.Nodup)(J:∀ q∈M,∀ r∈M,q=r∨Sep q r∨Sep r q)(Y:∀ k,k∈ys↔k∈fe L M)(hs:ys.Pairwise fun a b=>leP a.1 b.1):((aK (DG L M) ys).1.map (cyS crs)).sum=2 * (M.map fun q=>(q.w:Int) * q.w).sum:=by
 have hw:∀ q∈M,0 < q.w:=fun q O=>h.pos q (h.sub q O);rw[sW h nd B Bw Y hs,← Bt hw J];refine Jz Ld (Jk fun q O =>?_);have e:∀ d,d < 4→((bD L q d).map fun G=>crs (bd q d G).1 (bd q d G).2).sum=cf q d * ((q.w:Int) - (M.map (aU q d)).sum):=fun d U=>by
  rw[← h.bare_len nd B O U,← gi];exact Jz Ld (Jk fun G hb=>DC U G)
 rw[wN,e 0 (by decide),e 1 (by decide),e 2 (by decide),e 3 (by decide)]
def dbl (q:Sq):Sq:=⟨q.z,q.c,2 * q.x,2 * q.y,2 * q.w⟩
def dp (a:Pt):Pt:=(2 * a.1,2 * a.2)
def dx (z:Pt × Nat):Pt × Nat:=(dp z.1,z.2)
theorem Dt (h:dp a=dp b):a=b:=by
 unfold dp at h;have h1:=(Prod.mk.inj h).1;have h2:=(Prod.mk.inj h).2;exact Prod.ext (by lia) (by lia)
theorem Ds (h:dx a=dx b):a=b:=Prod.ext (Dt (Prod.mk.inj h).1) (Prod.mk.inj h).2
theorem Dr {l:LP9}{a:Pt × Nat}:dx a∈l.map dx↔a∈l:=by
 rw[I9];exact⟨fun⟨b,B,e⟩=>Ds e▸B,fun h=>⟨a,h,rfl⟩⟩
theorem i7:∀ (t:Tr) (p:List Nat) (x y k:Nat),aQ k t→sqs p t (2 * x) (2 * y) (k + 1)=(sqs p t x y k).map dbl
 | .col c,p,x,y,k,_=>by
  show [(⟨p,c,2 * x,2 * y,2 ^ (k + 1)⟩:Sq)]=[⟨p,c,2 * x,2 * y,2 * 2 ^ k⟩];rw[Kg,LF (2 ^ k)]
 | .four a b c d,p,x,y,0,g=>g.elim
 | .four a b c d,p,x,y,k + 1,g=>by
  obtain⟨B,G,J,gd,_⟩:=g;have e:∀ z:Nat,2 * z + 2 ^ (k + 1)=2 * (z + 2 ^ k):=fun z=>by rw[Kg];lia
  show sqs (p++[0]) a (2 * x) (2 * y) (k + 1)++(sqs (p++[1]) b (2 * x + 2 ^ (k + 1)) (2 * y) (k + 1)++(sqs (p++[2]) c (2 * x) (2 * y + 2 ^ (k + 1)) (k + 1)++sqs (p++[3]) d (2 * x + 2 ^ (k + 1)) (2 * y + 2 ^ (k + 1)) (k + 1)))=(sqs (p++[0]) a x y k++(sqs (p++[1]) b (x + 2 ^ k) y k++(sqs (p++[2]) c x (y + 2 ^ k) k++sqs (p++[3]) d (x + 2 ^ k) (y + 2 ^ k) k))).map dbl;rw[e,e,i7 a _ _ _ _ B,i7 b _ _ _ _ G,i7 c _ _ _ _ J,i7 d _ _ _ _ gd];simp only[Jn]
theorem wo (a B b G:Nat):dF (2 * a) (2 * B) (2 * b) (2 * G)=2 * dF a B b G:=by
 unfold dF;rw[fR,fR,fQ,fQ]
 lia
theorem Ak (q r:Sq):aV (dbl q) (dbl r)=aV q r:=by
 rw[Ki,dk,dk];show min (dF (2 * q.x) (2 * q.w) (2 * r.x) (2 * r.w)) (dF (2 * q.y) (2 * q.w) (2 * r.y) (2 * r.w))=0∧max (dF (2 * q.x) (2 * q.w) (2 * r.x) (2 * r.w)) (dF (2 * q.y) (2 * q.w) (2 * r.y) (2 * r.w)) > 0↔_;rw[wo,wo]
 lia
theorem zM:∀ L:List Sq,gW (L.map dbl)=gW L
 | []=>rfl
 | q::L=>by
  show (((L.map dbl).filter fun r=>aV (dbl q) r).map fun r=>((dbl q).z,r.z))++gW (L.map dbl)=((L.filter fun r=>aV q r).map fun r=>(q.z,r.z))++gW L;rw[zM L,Mo,JE]
  congr 1
  rw[show ((fun r=>aV (dbl q) r) ∘ dbl)=fun r=>aV q r from funext fun r=>Ak q r];rfl
theorem Fi (L:List Sq):cE (L.map dbl)=cE L:=by
 unfold cE;rw[JE];rfl
theorem DB (B:L.Pairwise ff)(C:a_ (L.map dbl) A zs):a_ L A zs:=by
 refine⟨C.ez.trans (by rw[JE];rfl),B,C.len,fun z G =>?_⟩;rw[C.near];unfold Ic;rw[zM,Fi]
theorem BS (L:List Sq)(z:List Nat):cZ (L.map dbl) z=dbl (cZ L z):=by
 unfold cZ;rw[Mv];show ((L.find? fun q=>decide (q.z=z)).map dbl).getD _=_;cases L.find? fun q=>decide (q.z=z)<;>rfl
theorem wG (L:List Sq)(A:List Nat→LN9)(z:List Nat):aJ (L.map dbl) A z=(aJ L A z).map dbl:=by
 unfold aJ;rw[JE];exact Jk fun m _=>BS L m.1
theorem pD (q:Sq)(d:Nat):tlo (dbl q) d=2 * tlo q d:=by
 unfold tlo dbl
 split<;>simp
theorem CV (q r:Sq)(B:d < 4):dM (axd d) (sgd d) (dbl q) (dbl r).x (dbl r).y (dbl r).w=dM (axd d) (sgd d) q r.x r.y r.w:=by
 rw[Ki,jo B,jo B,pD,pD];unfold dbl;rcases de B with rfl | rfl | rfl | rfl<;>simp<;>lia
def db2 (be:Int × Int):Int × Int:=(2 * be.1,2 * be.2)
theorem xZ (L:List Sq)(q:Sq)(B:d < 4):dG (L.map dbl) (dbl q) d=(dG L q d).map dbl:=by
 unfold dG;rw[Mo];rw[show ((fun r:Sq=>dM (axd d) (sgd d) (dbl q) r.x r.y r.w) ∘ dbl)=fun r=>dM (axd d) (sgd d) q r.x r.y r.w from funext fun r=>CV q r B]
theorem DO (L:List Sq)(q:Sq)(B:d < 4):bD (L.map dbl) (dbl q) d=(bD L q d).map db2:=by
 unfold bD;rw[xZ L q B,pD];have G:((dbl q).w:Int)=2 * q.w:=by unfold dbl;simp
 rw[G];by_cases c:dG L q d=[]
 ·rw[if_pos c,if_pos (by rw[c];rfl)];show [(2 * tlo q d,2 * tlo q d + 2 * (q.w:Int))]=[(2 * tlo q d,2 * (tlo q d + q.w))];rw[Int.mul_add]
 ·rw[if_neg c,if_neg (by rw[List.map_eq_nil_iff];exact c),Mo,JE,JE];refine Jk fun r _ =>?_;show (max (2 * tlo q d) (tlo (dbl r) d),min (2 * tlo q d + 2 * (q.w:Int)) (tlo (dbl r) d + ((dbl r).w:Int)))=(2 * max (tlo q d) (tlo r d),2 * min (tlo q d + q.w) (tlo r d + r.w));have J:((dbl r).w:Int)=2 * r.w:=by unfold dbl;simp
  rw[pD,J];exact Prod.ext (by show max _ _=_;lia) (by show min _ _=_;lia)
def gd (p:NK × Pt):NK × Pt:=((dp p.1.1,p.1.2),dp p.2)
theorem E6 (q:Sq)(G:d < 4)(B:Int × Int):gen (dbl q) d (db2 B)=gd (gen q d B):=by
 unfold gen gd;have e:bd (dbl q) d (db2 B)=(dp (bd q d B).1,dp (bd q d B).2):=by
  rcases de G with rfl|rfl|rfl|rfl<;>simp[bd,dbl,db2,dp]<;>lia
 rw[e]
theorem rz {α β:Type}{f g:α→List β}{l:List α}(h:∀ x∈l,f x=g x):l.flatMap f=l.flatMap g:=by
 show (l.map f).flatten=(l.map g).flatten;rw[Jk h]
theorem DX (L M:List Sq):GL (L.map dbl) (M.map dbl)=(GL L M).map gd:=by
 unfold GL;rw[List.flatMap_map,List.map_flatMap];refine rz fun q _ =>?_;rw[List.map_flatMap];refine rz fun d G =>?_;have B:=Ke.mp G;unfold G1;rw[DO L q B,JE,JE];exact Jk fun J _=>E6 q B J
theorem G5 (L M:List Sq)(a:Pt)(d:Nat):DG (L.map dbl) (M.map dbl) (dp a) d=(DG L M a d).map dp:=by
 unfold DG;rw[DX,Mv];rw[show ((fun p:NK × Pt=>decide (p.1=(dp a,(d:Int)))) ∘ gd)=fun p=>decide (p.1=(a,(d:Int))) from funext fun p=>by
  show decide ((dp p.1.1,p.1.2)=(dp a,(d:Int)))=_;refine decide_eq_decide.mpr ⟨fun e=>Prod.ext (Dt (Prod.mk.inj e).1) (Prod.mk.inj e).2,fun e=>by rw[e]⟩]
 cases (GL L M).find? fun p=>decide (p.1=(a,(d:Int)))<;>rfl
theorem Fd (L M:List Sq):fe (L.map dbl) (M.map dbl)=(fe L M).map dx:=by
 unfold fe;rw[DX,JE,JE];rfl
section
variable {D D':PD9}
theorem Go (h:∀ a d,D' (dp a) d=(D a d).map dp)(z:Pt × Nat):nx D' (dx z)=dx (nx D z):=by
 unfold nx;show (match D' (dp z.1) z.2 with | none=>dx z | some p=>_)=_;rw[h];cases D z.1 z.2 with
 | none=>rfl
 | some p =>
  show (if (D' (dp p) ((z.2 + 1) % 4)).isSome=true then (dp p,(z.2 + 1) % 4) else if (D' (dp p) z.2).isSome=true then (dp p,z.2) else (dp p,(z.2 + 3) % 4))=dx (if (D p ((z.2 + 1) % 4)).isSome=true then (p,(z.2 + 1) % 4) else if (D p z.2).isSome=true then (p,z.2) else (p,(z.2 + 3) % 4));rw[h,h,Kc,Kc]
  split
  ·rfl
  ·split<;>rfl
theorem rb (h:∀ a d,D' (dp a) d=(D a d).map dp)(z:Pt × Nat):∀ i,it (nx D') i (dx z)=dx (it (nx D) i z)
 | 0=>rfl
 | i + 1=>by
  show nx D' (it (nx D') i (dx z))=dx (nx D (it (nx D) i z));rw[rb h z i,Go h]
theorem B0 (h:∀ a d,D' (dp a) d=(D a d).map dp)(B:Per D z N):cL D' (dx z)=(cL D z).map dx:=by
 have hP':Per D' (dx z) N:=⟨B.1,by rw[rb h,B.2.1],fun i j h1 h2 e=>by
  rw[rb h,rb h]at e;exact B.2.2 i j h1 h2 (Ds e)⟩
 rw[g_ B,g_ hP'];unfold bI;rw[JE];exact Jk fun i _=>rb h z i
theorem uI (R:LP9)(i:Nat):dL (R.map dx) i=dx (dL R i):=by
 unfold dL;rw[JL];cases R[i]?<;>rfl
theorem DD (R:LP9):iD (R.map dx)=(iD R).map dp:=by
 unfold iD iC;rw[I0,JE];have e:cU (R.map dx)=cU R:=by
  funext i
  unfold cU;rw[uI,uI,I0];rfl
 rw[e];exact Jk fun i _=>by rw[uI];rfl
theorem sU (h:∀ a d,D' (dp a) d=(D a d).map dp){ys:LP9}(B:∀ z∈ys,∃ N,Per D z N):∀ i,aK D' ((ys.take i).map dx)=((aK D (ys.take i)).1.map (·.map dp),(aK D (ys.take i)).2.map dx)
 | 0=>by
  rw[Mt];rfl
 | i + 1=>by
  have G:=sU h B i;rw[Jw];cases ek:ys[i]? with
  | none=>simpa using G
  | some k =>
   show aK D' ((ys.take i++[k]).map dx)=((aK D (ys.take i++[k])).1.map _,(aK D (ys.take i++[k])).2.map dx);rw[Jn,Jl,Kh,fY,fY,G];generalize aK D (ys.take i)=X;obtain⟨N,J⟩:=B k (Jh ek);unfold jM;by_cases c:k∈X.2
   ·rw[if_pos c,if_pos (Dr.mpr c)]
   ·rw[if_neg c,if_neg (fun m=>c (Dr.mp m)),B0 h J,DD];simp only[Jn,Jl,Kh]
end
theorem Fh (q r:Sq):c_ (dbl q) (dbl r)=2 * c_ q r:=by
 rw[ig,ig];unfold dbl;simp only[KA,Int.cast_ofNat_Int];have B:min (2 * (q.x:Int) + 2 * q.w) (2 * r.x + 2 * r.w) - max (2 * (q.x:Int)) (2 * r.x)=2 * (min ((q.x:Int) + q.w) (r.x + r.w) - max (q.x:Int) r.x):=by lia
 have G:min (2 * (q.y:Int) + 2 * q.w) (2 * r.y + 2 * r.w) - max (2 * (q.y:Int)) (2 * r.y)=2 * (min ((q.y:Int) + q.w) (r.y + r.w) - max (q.y:Int) r.y):=by lia
 rw[B,G];generalize min ((q.x:Int) + q.w) (r.x + r.w) - max (q.x:Int) r.x=X;generalize min ((q.y:Int) + q.w) (r.y + r.w) - max (q.y:Int) r.y=Y
 split<;>split<;>lia
theorem Em (M:List Sq):dB (M.map dbl)=2 * dB M:=by
 unfold dB;rw[JE,← gi];refine Jz Ld (Jk fun q _ =>?_);show 4 * (((2 * q.w:Nat):Int)) - ((M.map dbl).map (c_ (dbl q))).sum=_;rw[JE,show (c_ (dbl q) ∘ dbl)=fun r=>2 * c_ q r from funext fun r=>Fh q r,gi]
 lia
theorem kN {L:List Sq}{A O:List Nat→LN9}{zs B:LN9}(C:a_ L A zs)(G:a_ L O B){q0:Sq}(Y:q0∈L)(q:Sq):q∈aJ L A q0.z↔q∈aJ L O q0.z:=by
 have J:∀ {A O:List Nat→LN9} {zs B:LN9},a_ L A zs→a_ L O B→∀ m∈iB A q0.z,m.1∈(iB O q0.z).map (·.1):=fun {A O zs B} C G=>by
  have hz:q0.z∈zs:=by rw[C.ez];exact I9.mpr ⟨q0,Y,rfl⟩
  have hz':q0.z∈B:=by rw[G.ez];exact I9.mpr ⟨q0,Y,rfl⟩
  refine C.reach hz (fun y=>y∈(iB O q0.z).map (·.1)) (G.first hz') fun x y hx hy =>?_;obtain⟨m,U,rfl⟩:=I9.mp hx;exact G.closed hz' m U y ((G.near m.1 y).mpr ((C.near m.1 y).mp hy))
 rw[mO C Y,mO G Y];refine and_congr_right fun _=>⟨fun h =>?_,fun h =>?_⟩
 ·obtain⟨m,U,e⟩:=I9.mp h;rw[← e];exact J C G m U
 ·obtain⟨m,U,e⟩:=I9.mp h;rw[← e];exact J G C m U
open Classical in
theorem mH (n:M.Nodup)(J:M'.Nodup)(h:∀ q,q∈M↔q∈M'):dB M=dB M':=by
 unfold dB;have e:∀ q,(M.map (c_ q)).sum=(M'.map (c_ q)).sum:=fun q=>kr _ n J (fun x B=>(h x).mp B) fun x B G=>absurd ((h x).mpr B) G;simp only[e];exact kr _ n J (fun x B=>(h x).mp B) fun x B G=>absurd ((h x).mpr B) G
theorem uv {ys:LP9}(h:ys.Pairwise (fun a b=>ltI (b.1.2,b.1.1) (a.1.2,a.1.1)=false)):ys.Pairwise fun a b=>leP a.1 b.1:=h.imp fun h=>Gs h
theorem xL {L:List Sq}{A G:List Nat→LN9}{zs J:LN9}{W col:Int}(C:a_ L A zs)(C':a_ L G J){q0:Sq}(h0:q0∈L)(Y:Lnd L (aJ L A q0.z) W col){ys B:LP9}(hd:∀ k,k∈ys↔k∈fe L (aJ L A q0.z))(hs:ys.Pairwise fun a b=>leP a.1 b.1)(O:∀ k,k∈B↔k∈fe L (aJ L G q0.z))(U:B.Pairwise fun a b=>leP a.1 b.1):(aK (DG L (aJ L G q0.z)) B).1=(aK (DG L (aJ L A q0.z)) ys).1:=by
 have e:=rY Y (kN C C' h0);rw[← e];exact sS (mh Y) (fun k=>by rw[O,bZ,e]) U (fun k=>by rw[hd,bZ]) hs
theorem Ay {t:Tr}{n:Nat}(gt:aQ n t){A J:List Nat→LN9}{zs B:LN9}(C:a_ (sqs [] t 0 0 n) A zs)(O:a_ (sqs [] t 0 0 (n + 1)) J B){q0:Sq}(G:q0∈sqs [] t 0 0 n):dB (aJ (sqs [] t 0 0 (n + 1)) J q0.z)=2 * dB (aJ (sqs [] t 0 0 n) A q0.z):=by
 have U:=i7 t [] 0 0 n gt;rw[Nat.mul_zero]at U;rw[U]at O ⊢;have Y:=DB C.hB O;rw[wG,Em,mH (ft C G) (ft Y G) (kN C Y G)]
theorem v9 {t:Tr}{n:Nat}(gt:aQ n t){A G:List Nat→LN9}{zs a0:LN9}(C:a_ (sqs [] t 0 0 n) A zs)(C':a_ (sqs [] t 0 0 (n + 1)) G a0){q0:Sq}(h0:q0∈sqs [] t 0 0 n){ys J:LP9}(hd:∀ k,k∈ys↔k∈fe (sqs [] t 0 0 n) (aJ (sqs [] t 0 0 n) A q0.z))(hs:ys.Pairwise fun a b=>leP a.1 b.1)(O:∀ k,k∈J↔k∈fe (sqs [] t 0 0 (n + 1)) (aJ (sqs [] t 0 0 (n + 1)) G q0.z))(a1:J.Pairwise fun a b=>leP a.1 b.1):
  (aK (DG (sqs [] t 0 0 (n + 1)) (aJ (sqs [] t 0 0 (n + 1)) G q0.z)) J).1=(aK (DG (sqs [] t 0 0 n) (aJ (sqs [] t 0 0 n) A q0.z)) ys).1.map (·.map dp):=by
 have eL:=i7 t [] 0 0 n gt;rw[Nat.mul_zero]at eL;have h0':dbl q0∈sqs [] t 0 0 (n + 1):=by rw[eL];exact I9.mpr ⟨q0,h0,rfl⟩
 have hl':=(nZ gt.up C' h0').1;have B:=(nZ gt C h0).1
 change Lnd _ (aJ _ G q0.z) _ _ at hl'
 generalize sqs [] t 0 0 n=L at *;rw[eL]at C' O hl' ⊢;have CA:=DB C.hB C';rw[wG]at O hl' ⊢;have same:=kN C CA h0;have z0:q0.z∈zs:=by rw[C.ez];exact I9.mpr ⟨q0,h0,rfl⟩
 have a2:Lnd L (aJ L G q0.z) _ _:=⟨B.pos,B.apart,B.cover,B.inside,fun q Y=>B.sub q ((same q).mpr Y),fun q Y=>B.colour q ((same q).mpr Y),fun q Y r hr d h4 a3 hc=>(same r).mp (B.closed q ((same q).mpr Y) r hr d h4 a3 hc)⟩;have U:∀ k,k∈ys↔k∈fe L (aJ L G q0.z):=fun k=>by rw[hd,bZ,bZ,rY B same]
 have W:=mh a2;have hP:∀ z∈ys,∃ N,Per (DG L (aJ L G q0.z)) z N:=fun z hz=>W.back (bZ.mp ((U z).mp hz));have e1:=sU (D':=DG (L.map dbl) ((aJ L G q0.z).map dbl)) (fun a d=>G5 L _ a d) hP ys.length;rw[Kq]at e1;rw[rY B same];refine Eq.trans ?_ (Jz Prod.fst e1);refine sS (mh hl') (fun k=>by rw[O,bZ]) a1 (fun k =>?_) ?_
 ·rw[← bZ,Fd,I9,I9];exact⟨fun⟨z,hz,e⟩=>⟨z,(U z).mp hz,e⟩,fun⟨z,hz,e⟩=>⟨z,(U z).mpr hz,e⟩⟩
 ·rw[JN];refine hs.imp fun h =>?_;unfold leP at h ⊢;simp only[dx,dp]
  lia
section
variable {P:Pg9}{w:Wd9}{K:Frag}{mg:Mg9}{base:Heap}{CX:CXT}{f:Addr}{fd:Fd9}
abbrev nH:Stmt:=top 24
theorem xH:aE ["start","wide","other_start","other_wide"] ["start","wide","other_start","other_wide"] (aq nH):={}
inductive oN  (vs:List V)(H:Hp)(Q:VK):Prop
 | mk (a b c d:Int) (h_0:vs=[.int a,.int b,.int c,.int d]) (h_1:Q (.int (mn (a + b) (c + d) - mx a c)) H):oN  vs H Q
def qt:Sp:=fun vs H Q _=>oN  vs H Q
theorem x6 (T:Tx K mg)(F:bE K "overlap" "overlap" nH f fd .none):bF P w K mg base CX 1 f fd ["start","wide","other_start","other_wide"] qt:=by
 refine F.ok xH (fun vs H Q E h =>?_) (fun B A outer s H vs Q E J h =>?_)
 ·obtain⟨_,_,_,_,rfl,_⟩:=h;rfl
 obtain⟨a,b,c,d,rfl,G⟩:=h;refine⟨_,(ag (aB (ai fq (az (gB rfl) rfl T.b_min oj (aa (ai aI (pv 0) (pv 1)) (aa (ai aI (pv 2) (pv 3)) af))) (az (iQ rfl) rfl T.b_max om (aa (pv 0) (aa (pv 2) af)))))),?_⟩;exact⟨_,_,rfl,_,_,rfl,G⟩
abbrev qC:Stmt:=top 25
theorem iK:aE ["code","other","level","one","two","across","down"] ["code","other","level"] (aq qC):={}
def sqx (z:Str)(n:Nat):Int:=((cxs (dig z) * 2 ^ (n - z.length):Nat):Int)
def sqy (z:Str)(n:Nat):Int:=((cys (dig z) * 2 ^ (n - z.length):Nat):Int)
def sqw (z:Str)(n:Nat):Int:=((2 ^ (n - z.length):Nat):Int)
inductive rV  (vs:List V)(H:Hp)(Q:VK):Prop
 | mk (z y:Str) (n:Nat) (h_0:vs=[.str z,.str y,.int n]) (h_1:IsC z) (h_2:IsC y) (h_3:z.length≤n) (h_4:y.length≤n) (h_5:n≤40) (h_6:∀ H',ak H H'→Q (.int (com (sqx z n) (sqy z n) (sqw z n) (sqx y n) (sqy y n) (sqw y n))) H'):rV  vs H Q
def sP:Sp:=fun vs H Q _=>rV  vs H Q
theorem AO (T:Tx K mg)(q:bW CX)(F:bE K "common" "common" qC f fd .none)(B:Fok P w K mg base CX 2 "need_code" ["code"] [] fW)(J:Fok P w K mg base CX 4 "corner" ["code","level"] [] kE)
  (G:Fok P w K mg base CX 1 "overlap" ["start","wide","other_start","other_wide"] [] qt):bF P w K mg base CX 5 f fd ["code","other","level"] sP:=by
 refine F.ok iK (fun vs H Q E h =>?_) (fun a0 A outer s H vs Q E O h =>?_)
 ·obtain⟨_,_,_,rfl,_⟩:=h;rfl
 obtain⟨z,y,n,rfl,hz,hy,lz,ly,hn,q'⟩:=h;refine⟨_,(ac (ba (aj B q O (aa (pv 0) af))) (ac (ba (aj B q O (aa (pv 1) af))) (ac (ao (i:=3) iK (aj J q O (aa (pv 0) (aa (pv 2) af)))) (ac (ao (i:=4) iK (aj J q O (aa (pv 1) (aa (pv 2) af)))) (ac (ao (i:=5) iK (aj G q O (aa (ay aD (pv 3) ae) (aa (ay aD (pv 3) ae) (aa (ay aD (pv 4) ae) (aa (ay aD (pv 4) ae) af)))))) (ac (ao (i:=6) iK (aj G q O (aa (ay aD (pv 3) ae) (aa (ay aD (pv 3) ae) (aa (ay aD (pv 4) ae) (aa (ay aD (pv 4) ae) af)))))) (ac (bG (aH qP (az (gB rfl) rfl T.b_min oj (aa (pv 5) (aa (pv 6) af))) ae) (ag (aB ae)) aO) (ag (aB (az (iQ rfl) rfl T.b_max om (aa (pv 5) (aa (pv 6) af)))))))))))),?_⟩;refine⟨z,rfl,hz,by lia,fun H1 s1 =>?_⟩;refine⟨y,rfl,hy,by lia,fun H2 s2 =>?_⟩;refine⟨z,n,rfl,hz,lz,hn,fun Y H3 s3 h1 =>?_⟩;refine⟨y,n,rfl,hy,ly,hn,fun p2 H4 s4 h2 =>?_⟩;have h1':=s4 _ _ h1;refine⟨Y,_,_,_,rfl,rfl,SqT.of h1',rfl,Y,_,_,_,rfl,rfl,SqT.of h1',rfl,p2,_,_,_,rfl,rfl,SqT.of h2,rfl,p2,_,_,_,rfl,rfl,SqT.of h2,rfl,_,_,_,_,rfl,?_⟩;refine⟨Y,_,_,_,rfl,rfl,SqT.of h1',rfl,Y,_,_,_,rfl,rfl,SqT.of h1',rfl,p2,_,_,_,rfl,rfl,SqT.of h2,rfl,p2,_,_,_,rfl,rfl,SqT.of h2,rfl,_,_,_,_,rfl,?_⟩;have sm:=s1.trans (s2.trans (s3.trans s4));have U:=q' H4 sm;unfold com at U;refine⟨_,_,rfl,rfl,aA (cz (fun c =>?_) (fun c =>?_))⟩
 ·rw[if_neg ?_]at U
  ·exact U
  ·intro e;have c':(!decide (V.int (mn (mn (sqx z n + sqw z n) (sqx y n + sqw y n) - mx (sqx z n) (sqx y n)) (mn (sqy z n + sqw z n) (sqy y n + sqw y n) - mx (sqy z n) (sqy y n)))=V.int 0))=true:=c;rw[e]at c';simp at c'
 ·rw[if_pos ?_]at U
  ·exact⟨_,_,rfl,U⟩
  ·have c':¬ (!decide (V.int (mn (mn (sqx z n + sqw z n) (sqx y n + sqw y n) - mx (sqx z n) (sqx y n)) (mn (sqy z n + sqw z n) (sqy y n + sqw y n) - mx (sqy z n) (sqy y n)))=V.int 0))=true:=c;simpa using c'
theorem GS (B:pf q [] t 0 0 n)(or:pf r [] t 0 0 n):com (sqx (txt q.z) n) (sqy (txt q.z) n) (sqw (txt q.z) n) (sqx (txt r.z) n) (sqy (txt r.z) n) (sqw (txt r.z) n)=c_ q r:=by
 obtain⟨_,_,G,J,O⟩:=fi B;obtain⟨_,_,U,Y,b3⟩:=fi or;unfold sqx sqy sqw c_;rw[G,J,O,U,Y,b3]
abbrev BX:Stmt:=top 37
theorem i9:aE ["sheet","x","y","first","around","sides","code","other","near"] ["sheet","x","y"] (aq BX):={}
inductive Ae  (vs:List V)(H:Hp)(Q:VK):Prop
 | mk (ps:Addr) (n x y:Nat) (v:V) (t:Tr) (q0:Sq) (h_0:vs=[.ref ps,.int (x:Int),.int (y:Int)]) (h_1:H ps=some (.tup [.int (n:Int),v])) (h_2:bS H v t) (h_3:aQ n t) (h_4:n≤40) (h_5:cnt t≤1500) (h_6:q0∈sqs [] t 0 0 n) (h_7:(q0.x≤x∧x < q0.x + q0.w∧q0.y≤y∧y < q0.y + q0.w)) (h_8:∀ A zs H',a_ (sqs [] t 0 0 n) A zs→ak H H'→Q (.int (dB (aJ (sqs [] t 0 0 n) A q0.z))) H'):Ae  vs H Q
def xC:Sp:=fun vs H Q _=>Ae  vs H Q
theorem Gk (T:Tx K mg)(q:bW (CXe P w))(F:bE K "rim" "rim" BX f fd .none)(O:Fok P w K mg base (CXe P w) 1 "width_of" ["level"] [] gZ)(Y:Fok P w K mg base (CXe P w) 5 "common" ["code","other","level"] [] sP)(U:Fok P w K mg base (CXe P w) 5 "leaf_at" ["sheet","x","y"] [] lK)(B:Fok P w K mg base (CXe P w) 45 "alike_around" ["sheet"] [] fP)(G:Fok P w K mg base (CXe P w) 1 "members_from" ["around","first"] [] fM):
  bF P w K mg base (CXe P w) 46 f fd ["sheet","x","y"] xC:=by
 refine F.ok i9 (fun vs H Q E h =>?_) (fun c7 A outer s H vs Q E hr h =>?_)
 ·obtain⟨_,_,_,_,_,_,_,rfl,_⟩:=h;rfl
 refine⟨_,(ac (ao (i:=3) i9 (aj U q hr (aa (pv 0) (aa (pv 1) (aa (pv 2) af))))) (ac (ao (i:=4) i9 (aj B q hr (aa (pv 0) af))) (ac (ao (i:=5) i9 ae) (ac (aR Jm rfl (bO (aj G q hr (aa (pv 4) (aa (pv 3) af)))) (iz rfl (aW (aY (i:=6) i9) (aW (aY (i:=7) i9) dC))) (ac (ao (i:=5) i9 (ai aI (pv 5) (ai bq ae (aj O q hr (aa (ai fq (ay aD (pv 0) ae) (az bC rfl T.b_len cW (aa (pv 6) af))) af))))) (ag (aR Jm rfl (bO (hU hr.dic (pv 4) (pv 6) (fun _ _=>rfl))) (aY (i:=8) i9) (ag (ao (i:=5) i9 (ai fq (pv 5) (aj Y q hr (aa (pv 6) (aa (pv 8) (aa (ay aD (pv 0) ae) af))))))))))) (ag (aB (pv 5))))))),?_⟩;obtain⟨ps,n,x,y,v,t,q0,rfl,a3,ht,gt,hn,hc,a0,ins,q'⟩:=h;obtain⟨L,eL⟩:∃ L,L=sqs [] t 0 0 n:=⟨_,rfl⟩;have a4:L.Pairwise ff:=by rw[eL];exact dv t [] 0 0 n gt
 have c1:∀ q∈L,0 < q.w:=fun q1 h1=>(fh t [] 0 0 n gt q1 (by rw[← eL];exact h1)).2.2.2.2;have lL:L.length=cnt t:=by rw[eL];exact eu t [] 0 0 n
 have a6:∀ q∈L,pf q [] t 0 0 n:=fun q1 h1=>fL t [] 0 0 n gt q1 (by rw[← eL];exact h1);obtain⟨_,f2,_,f4,_⟩:=fh t [] 0 0 n gt q0 a0;have xn:x < 2 ^ n:=by lia
 have yn:y < 2 ^ n:=by lia
 refine⟨.ref ps,t,n,x,y,rfl,⟨ps,v,rfl,a3,ht⟩,gt,hn,xn,yn,fun i cc H1 s1 hi a7 =>?_⟩;rw[zx gt xn yn eL (by rw[eL];exact a0) ins hi a7];rw[← eL]at q' a0;have hz:q0.z∈L.map (·.z):=I9.mpr ⟨q0,a0,rfl⟩;refine⟨ps,n,v,t,rfl,s1 _ _ a3,ht.up s1.tups,gt,hn,hc,fun da lo A H2 s2 c8 ar c2 hN hA =>?_⟩;rw[← eL]at ar hN;have Cx:a_ L A (L.map (·.z)):=⟨rfl,a4,by rw[I0];lia,hN⟩;refine⟨da,q0.z,L.map (·.z),lo,A,rfl,ar,hz,by rw[I0];lia,Cx.cl,c2,fun lm um k H3 s3 c9 a8 hM hk =>?_⟩;have bi:=BI.bfs Cx.cl hz k;have bl:=bi.len;rw[I0]at bl;have em:=uY hk (by lia);rw[← em]at hM bl hk bi
 clear em
 have c3:=Paired.length hM;have a9:=s1.trans (s2.trans s3);have b0:∀ q∈aJ L A q0.z,q.c=q0.c:=by
  have b1:=(nZ gt (q0:=q0) (by rw[← eL];exact Cx) (by rw[← eL];exact a0)).1;rw[← eL]at b1;exact b1.colour
 obtain⟨R,eR⟩:∃ R,R=iB A q0.z:=⟨_,rfl⟩;have b2:∀ {z:List Nat},z∈L.map (·.z)→cZ L z∈L∧(cZ L z).z=z:=fun {z} h=>by
  obtain⟨r,b3,er⟩:=I9.mp h;rw[← er,kC a4 b3];exact⟨b3,rfl⟩
 have fin:dB (aJ L A q0.z)=(R.map fun m=>4 * ((cZ L m.1).w:Int) - ((A m.1).map fun y=>c_ (cZ L m.1) (cZ L y)).sum).sum:=by
  unfold dB;rw[show (aJ L A q0.z).map (fun q=>4 * (q.w:Int) - ((aJ L A q0.z).map (c_ q)).sum)=R.map fun m=>4 * ((cZ L m.1).w:Int) - ((aJ L A q0.z).map (c_ (cZ L m.1))).sum by
   rw[eR]
   conv=>lhs;arg 2;unfold aJ
   rw[JE];rfl]
  refine Jz Ld (Jk fun m hm =>?_);rw[CO a4 c1 Cx hA a0 b0 (by rw[← eR];exact hm)]
 rw[← eR]at hM bl hk bi c3;refine⟨lm,rfl,⟨_,SqL.of a8⟩,cM (xs:=um) (fun (i:Nat) σ H4=>i≤um.length∧ak H3 H4∧∃ o6 o7 o8:OW9,σ=[some (.ref ps),some (.int (x:Int)),some (.int (y:Int)),some (sV q0.z),some (.ref da),some (.int (((R.take i).map fun m=>4 * ((cZ L m.1).w:Int) - ((A m.1).map fun y=>c_ (cZ L m.1) (cZ L y)).sum).sum)),o6,o7,o8]) ⟨Je _,ak.refl _,_,_,_,rfl⟩ (fun i σ H4 _ h=>SqL.of (h.2.1 _ _ a8)) ?_ ?_⟩
 ·rintro i u σ H4 hu ⟨_,s4,o6,o7,o8,rfl⟩;have hi':=(IZ.mp hu).1;obtain⟨J,b4,pm,rfl,c4⟩:=bB hM hu;have a2:=bi.sub J (Jh b4);obtain⟨b5,a1⟩:=b2 a2;obtain⟨q1,b6⟩:∃ q1,q1=cZ L J.1:=⟨_,rfl⟩;rw[← b6]at b5 a1;have b7:=a6 q1 b5;obtain⟨ic,il,cx,cy,cw⟩:=fi b7;have d0:sV J.1=sV q1.z:=by rw[a1]
  have b8:=a9.trans s4;refine⟨pm,_,rfl,SqT.of (s4 _ _ c4),rfl,_,_,rfl,_,_,rfl,rfl,?_⟩;have ll:(txt J.1).length≤n:=by rw[← a1];exact il
  have hs:(txt J.1).length≤sizeLine:=small (by lia);have e0:(n:Int) - ((txt J.1).length:Int)=((n - (txt J.1).length:Nat):Int):=by lia
  have ew:2 ^ (n - (txt J.1).length)=q1.w:=by rw[← a1];exact cw
  refine⟨ps,_,_,_,rfl,rfl,SqT.of (b8 _ _ a3),rfl,_,_,rfl,⟨hs,rfl⟩,n - (txt J.1).length,(by show [V.int _]=[V.int _];rw[e0]),by lia,.inl ⟨by decide,by decide⟩,cP ?_⟩;rw[ew];have a5:=ar.up (s3.trans s4);have et:((R.take (i + 1)).map fun m=>4 * ((cZ L m.1).w:Int) - ((A m.1).map fun y=>c_ (cZ L m.1) (cZ L y)).sum).sum=((R.take i).map fun m=>4 * ((cZ L m.1).w:Int) - ((A m.1).map fun y=>c_ (cZ L m.1) (cZ L y)).sum).sum + (4 * (q1.w:Int) - ((A J.1).map fun y=>c_ q1 (cZ L y)).sum):=by
   rw[Jw,b4,Jn,Kl,b6];simp
  rw[et];generalize ((R.take i).map fun m=>4 * ((cZ L m.1).w:Int) - ((A m.1).map fun y=>c_ (cZ L m.1) (cZ L y)).sum).sum=S0 at *;refine⟨da,_,rfl,a5.get a2,lo J.1,rfl,⟨_,SqL.of (a5.at_ _ a2)⟩,cM (xs:=(A J.1).map sV) (fun (j:Nat) σ H5=>j≤(A J.1).length∧ak H4 H5∧∃ o8:OW9,σ=[some (.ref ps),some (.int (x:Int)),some (.int (y:Int)),some (sV q0.z),some (.ref da),some (.int (S0 + 4 * (q1.w:Int) - (((A J.1).take j).map fun y=>c_ q1 (cZ L y)).sum)),some (sV J.1),some (Ge J.2),o8]) ⟨Je _,ak.refl _,o8,by simp⟩ (fun i σ H5 _ h=>SqL.of (h.2.1 _ _ (a5.at_ _ a2))) ?_ ?_⟩
  ·rintro j u σ H5 hx ⟨_,s5,o8,rfl⟩;rw[JL]at hx;obtain⟨o,eo,rfl⟩:=JQ.mp hx;have hj:=(IZ.mp eo).1;have c5:=Cx.cl _ a2 o (Jh eo);obtain⟨c6,b9⟩:=b2 c5;have c0:=a6 _ c6;obtain⟨jc,jl,_⟩:=fi c0;rw[b9]at jc jl;have ec:=GS b7 c0;rw[a1,b9]at ec;refine⟨ps,_,_,_,rfl,rfl,SqT.of (b8.trans s5 _ _ a3),rfl,txt J.1,txt o,n,rfl,by rw[← a1];exact ic,jc,ll,jl,hn,fun H6 s6=>⟨hj,s5.trans s6,some (sV o),?_⟩⟩;rw[Jw,eo,Jn,Kl,ec];simp only[Option.toList_some,Jl,Kh,JW,K8,L4,Int.sub_sub];rfl
  ·rintro σ H5 ⟨_,s5,o8,rfl⟩;rw[Ji (by rw[I0];exact I_ _)];refine⟨hi',s4.trans s5,some (sV J.1),some (Ge J.2),o8,?_⟩;rw[Int.add_sub_assoc]
 ·rintro σ H4 ⟨_,s4,o6,o7,o8,rfl⟩;rw[Ji (by lia),← fin];exact (q' A (L.map (·.z)) H4 Cx (a9.trans s4))
end
def on (H:Hp)(u:V)(q:Sq):Prop:=∃ a,u=.ref a∧Bx H a q
def Ik (H:Hp)(l:Addr)(M:List Sq):Prop:=∃ us,H l=some (.lst us)∧Paired (on H) us M
theorem on.up (h:on H u q)(s:bQ H H'):on H' u q:=by
 obtain⟨a,e,k⟩:=h;exact⟨a,e,s _ _ k⟩
theorem eg {p:Sq→Bool}{l:List Sq}{i:Nat}{q:Sq}(h:l[i]? = some q):(l.take (i + 1)).filter p=(l.take i).filter p++if p q then [q] else []:=by
 rw[Jw,h,KJ];cases hp:p q<;>simp[hp]
structure Fld (L:List Sq)(q0:Sq)(M:List Sq):Prop where
 nd:M.Nodup
 first:q0∈M
 sub:∀ q∈M,q∈L∧q.c=q0.c
 closed:∀ q∈M,∀ r∈L,r.c=q0.c→aV q r=true→r∈M
 reach:∀ S:Sq→Prop,S q0→(∀ x∈L,∀ y∈L,x.c=y.c→S x→aV x y=true→S y)→∀ q∈M,S q
structure sE (L:List Sq)(q0:Sq)(i:Nat)(M R:List Sq):Prop where
 perm:(M++R).Perm (L.filter fun q=>decide (q.c=q0.c))
 first:q0∈M
 done:∀ j < i,∀ q,M[j]? = some q→∀ r∈R,¬ aV q r=true
 reach:∀ S:Sq→Prop,S q0→(∀ x∈L,∀ y∈L,x.c=y.c→S x→aV x y=true→S y)→∀ q∈M,S q
theorem sE.mem {L M R:List Sq}{q0:Sq}{i:Nat}(h:sE L q0 i M R){q:Sq}:(q∈M∨q∈R)↔(q∈L∧q.c=q0.c):=by
 rw[← Jj,h.perm.mem_iff,JH,JV]
theorem sE.step {L M R:List Sq}{q0 q:Sq}{i:Nat}(h:sE L q0 i M R)(J:M[i]? = some q):sE L q0 (i + 1) (M++R.filter (aV q)) (R.filter fun r => !aV q r):=by
 have G:=Jh J;have hi:=(IZ.mp J).1;refine⟨?_,JS _ h.first,fun j hj p B r Y =>?_,fun S U O p B =>?_⟩
 ·rw[Jx];exact ((List.filter_append_perm (aV q) R).append_left M).trans h.perm
 ·obtain⟨r1,r2⟩:=JH.mp Y;rw[JM (by lia)]at B;rcases KW j i with c|c
  ·exact h.done j c p B r r1
  ·have:j=i:=by lia
   subst this;rw[J]at B;cases B;simpa using r2
 ·rcases Jj.mp B with B|B
  ·exact h.reach S U O p B
  ·obtain⟨p1,p2⟩:=JH.mp B;obtain⟨a1,a2⟩:=h.mem.mp (.inl G);obtain⟨b1,b2⟩:=h.mem.mp (.inr p1);exact O q a1 p b1 (a2.trans b2.symm) (h.reach S U O q G) p2
theorem sE.fin {L M R:List Sq}{q0:Sq}{i:Nat}(h:sE L q0 i M R)(nd:L.Nodup)(hi:M.length≤i):Fld L q0 M:=by
 have G:=h.perm.nodup_iff.mpr (nd.filter _);refine⟨(K3.mp G).1,h.first,fun q B=>h.mem.mp (.inl B),fun q B r J O U =>?_,h.reach⟩;rcases h.mem.mpr ⟨J,O⟩ with c | c
 ·exact c
 ·obtain⟨j,hj⟩:=Ks B;exact absurd U (h.done j (by have:=(IZ.mp hj).1;lia) q hj r c)
theorem De {L M:List Sq}{q0:Sq}(F:Fld L q0 M)(hw:∀ q∈L,0 < q.w)(h0:q0∈L){A:List Nat→LN9}{zs:LN9}(C:a_ L A zs):∀ q,q∈M↔q∈aJ L A q0.z:=by
 have G:=C.hB;have z0:q0.z∈zs:=by rw[C.ez];exact I9.mpr ⟨q0,h0,rfl⟩
 have B:∀ q,q∈aJ L A q0.z↔q∈L∧q.z∈(iB A q0.z).map (·.1):=fun q=>mO C h0 q;intro q;constructor
 ·refine F.reach (fun q=>q∈aJ L A q0.z) ((B q0).mpr ⟨h0,C.first z0⟩) (fun x hx y O hc hS ht =>?_) q;obtain⟨_,h2⟩:=(B x).mp hS;obtain⟨m,hm,em⟩:=I9.mp h2;exact (B y).mpr ⟨O,C.closed z0 m hm y.z (by rw[em];exact zn G hw C hx O hc ht)⟩
 ·intro hq;obtain⟨h1,h2⟩:=(B q).mp hq;obtain⟨m,hm,em⟩:=I9.mp h2
  have:=C.reach z0 (fun z=>∀ r∈L,r.z=z→r∈M) (fun r J e=>by rw[sG G J h0 e];exact F.first) (fun z y hS O r J e =>?_) m hm
  ·exact this q h1 em.symm
  ·obtain⟨d,hd,_,h⟩:=(C.near z y).mp O;obtain⟨q2,U,r2,Y,rfl,tt⟩:=kQ hd;have key:∀ p∈L,p.z=z→aV p r=true→r∈M:=fun p hp ep ht=>by
    have a0:=hS p hp ep;refine F.closed p a0 r J ?_ ht;have a1:=C.col O;rw[← ep,← e,cC G J,cC G hp]at a1;rw[V.int.inj (Option.some.inj a1),(F.sub p a0).2]
   rcases h with⟨e3,e4⟩|⟨e3,e4⟩
   ·exact key q2 U e3.symm (by rw[sG G J Y (e.trans e4)];exact tt)
   ·exact key r2 Y e3.symm (by rw[sG G J U (e.trans e4),nE];exact tt)
theorem FD (gt:aQ n t)(U:q∈sqs [] t 0 0 n)(G:dig z=q.z):z.length≤n∧((sqX n (dig z):Nat):Int)=(q.x:Int)∧((sqY n (dig z):Nat):Int)=(q.y:Int)∧((2 ^ (n - z.length):Nat):Int)=(q.w:Int):=by
 obtain⟨w0,J,h4,_,B,ex,Y,ew⟩:=fL t [] 0 0 n gt q U;rw[Ku]at J;subst J;have O:z.length=q.z.length:=by rw[← cN,G]
 refine⟨by rw[O];exact B,?_,?_,?_⟩
 ·rw[G,yV _ _ B,ex,KH]
 ·rw[G,yU _ _ B,Y,KH]
 ·rw[O,ew]
theorem Eb (q r:Sq):PyData.eqv (.tuple [.int q.x,.int q.y,.int q.w]) (.tuple [.int r.x,.int r.y,.int r.w])=decide (q.x=r.x∧q.y=r.y∧q.w=r.w):=by
 rw[Ki];simp[PyData.eqv,PyData.eqvAll]
 lia
theorem bA.get' {H:Hp}{n:Nat}{us:List V}{L:List Sq}(h:bA H n us (L.map fun q=>(q.z,q.c))){i:Nat}{u:V}(G:us[i]? = some u):∃ q,L[i]? = some q∧PaV H n u (q.z,q.c):=by
 obtain⟨p,B,k⟩:=h.get G;rw[JL]at B;obtain⟨q,J,rfl⟩:=JQ.mp B;exact⟨q,J,k⟩
section
variable {P:Pg9}{w:Wd9}{K:Frag}{mg:Mg9}{base:Heap}{CX:CXT}{f:Addr}{fd:Fd9}
abbrev lU:Stmt:=top 59
theorem cK:aE ["_law_told","_law_level","_law_start","_law_squares","_law_land_here","_law_rest","_law_at_here","_law_later","_law_square_here"] ["_law_told","_law_level","_law_start"] (aq lU):={}
inductive nu  (vs:List V)(H:Hp)(Q:VK):Prop
 | mk (lt ps:Addr) (us:List V) (z:Str) (n:Nat) (t:Tr) (L:List Sq) (q0:Sq) (h_0:vs=[.ref lt,.int (n:Int),.ref ps]) (h_1:H lt=some (.lst us)) (h_2:bA H n us (L.map fun q=>(q.z,q.c))) (h_3:H ps=some (.tup [.str z,.int q0.c])) (h_4:IsC z) (h_5:dig z=q0.z) (h_6:L=sqs [] t 0 0 n) (h_7:aQ n t) (h_8:n≤40) (h_9:L.length≤1500) (h_10:q0∈L) (h_11:∀ l M H',ak H H'→Ik H' l M→Fld L q0 M→Q (.ref l) H'):nu  vs H Q
def oB:Sp:=fun vs H Q _=>nu  vs H Q
theorem wt (T:Tx K mg)(q:bW CX)(F:bE K "_law_land" "_law_land" lU f fd .none)(G:Fok P w K mg base CX 1 "_law_square" ["_law_code_here","_law_level"] [] ik)(Y:Fok P w K mg base CX 1 "_law_met" ["_law_one","_law_two"] [] lN):
  bF P w K mg base CX 2 f fd ["_law_told","_law_level","_law_start"] oB:=by
 refine F.ok cK (fun vs H Q E h =>?_) (fun h9 A outer s H vs Q E hr h =>?_)
 ·obtain⟨_,_,_,_,_,_,_,_,rfl,_⟩:=h;rfl
 obtain⟨lt,ps,us,z0,n,t,L,q0,rfl,e4,e5,e6,f9,g0,eL,gt,hn,lL,a9,q'⟩:=h;refine⟨_,(ac (we (i0:=3) (N':=["_law_code_here","_law_colour_here","_law_level","_law_start"]) ["_law_start","_law_level"] ["_law_level","_law_start"] [1,2] 2 {} (bO (pv 0)) (fun _ _ _ _ _=>(pP (K:=K) (n:=2) rfl (aW (hJ (i:=0)) (aW (hJ (i:=1)) dC)))) (fun _ _ _ _ _=>(aH fF (pv 1) (ay (kO (K:=K)) (pv 3) ae))) (fun _ _ _ _ _=>(aj G q hr (aa (pv 0) (aa (pv 2) af)))) cK.nd rfl (Or.inl rfl)) (ac (xT (i:=4) cK.nd rfl (Or.inr rfl) (aP (av (aj G q hr (aa (ay aD (pv 2) ae) (aa (pv 1) af))) au))) (ac (we (i0:=5) (N':=["_law_square_here","_law_land_here"]) ["_law_land_here"] ["_law_land_here"] [4] 1 {} (bO (pv 3)) (fun _ _ _ _ _=>(hJ (i:=0))) (fun _ _ _ _ _=>(aH (uN hr) (pv 0) (ay (mQ (K:=K)) (pv 1) ae))) (fun _ _ _ _ _=>(pv 0)) cK.nd rfl (Or.inl rfl)) (ac (ao (i:=6) cK ae) (ac (jX Jm (aH jD (pv 6) (az bC rfl T.b_len cW (aa (pv 4) af))) (ac (ao (i:=7) cK (aP au)) (ac (aR Jm rfl (bO (pv 5)) (aY (i:=8) cK) (ag (bG (aH qQ (aj Y q hr (aa (ay bK (pv 4) (pv 6)) (aa (pv 8) af))) ae) (ag (ba (bn (pv 4) (aa (pv 8) af)))) (ag (ba (bn (pv 7) (aa (pv 8) af))))))) (ac (ao (i:=5) cK (pv 7)) (ag (ao (i:=6) cK (ai aI (pv 6) ae))))))) (ag (aB (pv 4)))))))),?_⟩
 have hB:L.Pairwise ff:=by rw[eL];exact dv t [] 0 0 n gt
 have hw:∀ r∈L,0 < r.w:=fun r h=>by rw[eL]at h;exact (fh t [] 0 0 n gt r h).2.2.2.2
 have g1:=e5.len;rw[I0]at g1;have at_:∀ r∈L,∀ {z:Str},dig z=r.z→z.length≤n∧((sqX n (dig z):Nat):Int)=(r.x:Int)∧((sqY n (dig z):Nat):Int)=(r.y:Int)∧((2 ^ (n - z.length):Nat):Int)=(r.w:Int):=fun r h z e=>by rw[eL]at h;exact FD gt h e
 refine⟨[.int (n:Int),.ref ps],rfl,lt,rfl,⟨_,SqL.of e4⟩,ke us (fun D (i:Nat) ys H'=>ak H H'∧H' D=some (.lst ys)∧ys.length≤i∧Paired (on H') ys ((L.take i).filter fun r=>decide (r.c=q0.c))) (big (by lia)) (fun D i ys H' h=>SqL.of (h.1 _ _ e4)) (fun D i ys H' h=>⟨h.2.1,h.2.2.1⟩) (fun D hD=>⟨ak.new hD _,ah,I_ _,by exact .nil⟩) ?_ ?_ ?_ ?_ ?_⟩
 ·rintro D i u ys H1 hu hD ⟨c1,c2,c3,c4⟩;obtain⟨r,O,p,z,rfl,hp,hC,ez,_⟩:=e5.get' hu;have b0:=Jh O;obtain⟨a1,a2,a3,a4⟩:=at_ r b0 ez
  refine⟨p,_,rfl,SqT.of (c1 _ _ hp),rfl,_,_,rfl,_,_,rfl,rfl,?_⟩;refine⟨rfl,ps,_,_,_,rfl,rfl,SqT.of (c1 _ _ e6),rfl,rfl,aA (cz (fun c =>?_) (fun c =>?_))⟩
  ·have c':r.c=q0.c:=V.int.inj (JB c);refine⟨z,n,rfl,hC,a1,hn,fun pa H2 s2 c0 =>?_⟩;rw[a2,a3,a4]at c0;have u2:=s2 _ _ c2;have t3:bQ H2 (upd H2 D (.lst (ys++[.ref pa]))):=cY u2 (by intro xs q;cases q);refine⟨u2,ak.set (c1.trans s2) hD _,ah,by rw[I8];show ys.length + 1≤i + 1;lia,?_⟩;rw[eg O,Jd c'];exact cA (Paired.mapP c4 fun _ _ h=>h.up (s2.tups.trans t3)) (.cons ⟨pa,rfl,t3 _ _ c0⟩ .nil)
  ·have c':¬ r.c=q0.c:=fun k=>c (Jd (Jz V.int k));refine⟨c1,c2,by lia,?_⟩;rw[eg O,JT c',if_neg (by decide),J_];exact c4
 rotate_left
 ·rintro x σ H' R R' k ⟨b1,b2,b3,b4,b5,b6,b7,b8,b9,c5,a5,a6,h⟩;exact⟨b1,b2,b3,b4,b5,b6,b7,b8,b9,c5,a5,a6,k _ _ h⟩
 ·intro σ H' R R' k J;obtain⟨_,b2,J⟩:=aM J;obtain⟨_,b4,J⟩:=aM J;obtain⟨z,m,b5,b6,b7,b8,h⟩:=J;exact (aZ b2 (aZ b4 ⟨z,m,b5,b6,b7,b8,fun p H2 s2 hp=>k _ _ (h p H2 s2 hp)⟩))
 ·intro σ H' R R' k J;obtain⟨_,b2,J⟩:=aM J;obtain⟨_,b4,J⟩:=aM J;obtain⟨b5,b6,b7,b8,b9,c5,a5,a6,d2,J⟩:=J;obtain⟨_,d3,h⟩:=fC J;exact (aZ b2 (aZ b4 ⟨b5,b6,b7,b8,b9,c5,a5,a6,d2,lZ d3 (k _ _ h)⟩))
 rintro D1 e7 H1 i1 ⟨s1,u1,l1,p1⟩;rw[Ji (by lia)]at p1;obtain⟨B,eB⟩:∃ B,B=L.filter fun r=>decide (r.c=q0.c):=⟨_,rfl⟩;rw[← eB]at p1;have d4:∀ r,r∈B↔r∈L∧r.c=q0.c:=fun r=>by rw[eB,JH,JV]
 have lB:B.length≤L.length:=by rw[eB];exact Kj _ _
 have i2:=Paired.length p1;obtain⟨a1,a2,a3,a4⟩:=at_ q0 a9 g0
 refine⟨ps,_,_,_,rfl,rfl,SqT.of (s1 _ _ e6),rfl,z0,n,rfl,f9,a1,hn,fun pa H2 s2 c0=>⟨(leZ rfl),fun la e8 =>?_⟩⟩;rw[a2,a3,a4]at c0;have s3:=ak.new e8 (.lst [.ref pa]);have u3:upd H2 la (.lst [.ref pa]) la=some (.lst [.ref pa]):=ah;generalize upd H2 la (.lst [.ref pa])=H3 at *;have c9:=s2.trans s3;have e9:=c9 _ _ u1;have g2:Paired (on H3) e7 B:=Paired.mapP p1 fun _ _ h=>h.up c9.tups;have d1:=s3 _ _ c0;refine⟨[.ref la],rfl,D1,rfl,⟨_,SqL.of e9⟩,ke e7 (fun D (i:Nat) ys H'=>ak H3 H'∧H' D=some (.lst ys)∧ys.length≤i∧Paired (on H') ys ((B.take i).filter fun r=>decide (r.z≠q0.z))) (big (by lia)) (fun D i ys H' h=>SqL.of (h.1 _ _ e9)) (fun D i ys H' h=>⟨h.2.1,h.2.2.1⟩) (fun D hD=>⟨ak.new hD _,ah,I_ _,by exact .nil⟩) ?_ ?_ (fun _ _ _ _ _ k h=>k _ _ h) ?_ ?_⟩
 ·rintro D i u ys H4 hu hD ⟨c1,c2,c3,c4⟩;obtain⟨r,O,p,rfl,hp⟩:=bB g2 hu;have g3:=Jh O;have b0:=((d4 r).mp g3).1;refine⟨rfl,la,_,_,_,rfl,rfl,SqL.of (c1 _ _ u3),rfl,_,_,.tup (c1 _ _ hp) (.cons (.int _) (.cons (.int _) (.cons (.int _) .nil))),.tup (c1 _ _ d1) (.cons (.int _) (.cons (.int _) (.cons (.int _) .nil))),rfl,rfl,?_⟩;have ez:PyData.eqv (.tuple [.int r.x,.int r.y,.int r.w]) (.tuple [.int q0.x,.int q0.y,.int q0.w])=decide (r.z=q0.z):=by
   rw[Eb,Ki,JV,JV];constructor
   ·rintro⟨e1,e2,e3⟩
    have:=hw r b0
    rcases kT hB b0 a9 with e|e|e
    ·rw[e]
    ·unfold Sep at e
     lia
    ·unfold Sep at e
     lia
   ·intro e;rw[sG hB b0 a9 e];exact⟨rfl,rfl,rfl⟩
  refine (aA (cz (fun c =>?_) (fun c =>?_)))
  ·have c':(!PyData.eqv (.tuple [.int r.x,.int r.y,.int r.w]) (.tuple [.int q0.x,.int q0.y,.int q0.w]))=true:=c;rw[ez]at c';have n1:r.z≠q0.z:=by simpa using c'
   have t3:bQ H4 (upd H4 D (.lst (ys++[.ref p]))):=cY c2 (by intro xs q;cases q);refine⟨c2,ak.set c1 hD _,ah,by rw[I8];show ys.length + 1≤i + 1;lia,?_⟩;rw[eg O,Jd n1];exact cA (Paired.mapP c4 fun _ _ h=>h.up t3) (.cons ⟨p,rfl,t3 _ _ (c1 _ _ hp)⟩ .nil)
  ·have c':¬ (!PyData.eqv (.tuple [.int r.x,.int r.y,.int r.w]) (.tuple [.int q0.x,.int q0.y,.int q0.w]))=true:=c;rw[ez]at c';have n1:¬ r.z≠q0.z:=by simpa using c'
   refine⟨c1,c2,by lia,?_⟩;rw[eg O,JT n1,if_neg (by decide),J_];exact c4
 rotate_left
 ·intro σ H' R R' k J;obtain⟨_,b2,h⟩:=aM J;exact (aZ b2 (k _ _ h))
 ·intro σ H' R R' k J;obtain⟨_,b2,J⟩:=aM J;obtain⟨_,b4,J⟩:=aM J;obtain⟨b5,b6,b7,b8,b9,c5,a5,a6,d2,d5,d3,g4,g5,g6,J⟩:=J;obtain⟨_,g7,h⟩:=fC J;exact (aZ b2 (aZ b4 ⟨b5,b6,b7,b8,b9,c5,a5,a6,d2,d5,d3,g4,g5,g6,lZ g7 (k _ _ h)⟩))
 rintro D3 g8 H4 d6 ⟨s4,u4,l4,p4⟩;rw[Ji (by lia)]at p4;obtain⟨R0,eR⟩:∃ R0,R0=B.filter fun r=>decide (r.z≠q0.z):=⟨_,rfl⟩;rw[← eR]at p4;have g9:H la=none:=(s1.trans s2).free e8;have nd:L.Nodup:=by
  have:=pB hB
  exact List.Pairwise.imp (fun h e=>h (Jz _ e)) (JN.mp this)
 have w0:sE L q0 0 [q0] R0:=by
  refine⟨?_,Jc.mpr rfl,fun j hj=>absurd hj (Lr _),fun S h0 _ q hq=>by rw[Jc.mp hq];exact h0⟩;rw[← eB];refine (List.perm_ext_iff_of_nodup ?_ (by rw[eB];exact nd.filter _)).mpr fun r =>?_
  ·refine Kn.mpr ⟨fun h =>?_,by rw[eR,eB];exact (nd.filter _).filter _⟩;rw[eR]at h
   have:=(JH.mp h).2
   simp at this
  ·show r∈q0::R0↔r∈B;rw[eR,Jr,JH,JV];constructor
   ·rintro (e | e)
    ·rw[e];exact (d4 q0).mpr ⟨a9,rfl⟩
    ·exact e.1
   ·intro h;by_cases e:r.z=q0.z
    ·exact .inl (sG hB ((d4 r).mp h).1 a9 e)
    ·exact .inr ⟨h,e⟩
 have h3:∀ {i:Nat} {M R:List Sq},sE L q0 i M R→M.length + R.length≤1500:=fun h=>by
  have:=h.perm.length_eq
  rw[I8,← eB]at this
  lia
 refine qf (fun σ H5=>∃ (i:Nat) (lr:Addr) (rs ms:List V) (M R:List Sq) (o7 o8:OW9),ak H H5∧H lr=none∧lr≠la∧H5 la=some (.lst ms)∧Paired (on H5) ms M∧H5 lr=some (.lst rs)∧Paired (on H5) rs R∧sE L q0 i M R∧i≤M.length∧σ=[some (.ref lt),some (.int (n:Int)),some (.ref ps),some (.ref D1),some (.ref la),some (.ref lr),some (.int (i:Int)),o7,o8]) (fun σ _=>match σ with | _::_::_::_::_::_::some (.int i)::_=>2000 - i.toNat | _=>0)
  ⟨0,D3,g8,[.ref pa],[q0],R0,none,none,s1.trans (c9.trans s4),(s1.trans c9).free d6,(fun e=>by rw[e,u3]at d6;cases d6),s4 _ _ u3,.cons ⟨pa,rfl,s4 _ _ d1⟩ .nil,u4,p4,w0,Je _,rfl⟩ ?_ ?_
 ·rintro σ H5 ⟨i,lr,rs,ms,M,R,o7,o8,s5,i3,f0,um,pm,ur,pr,fw,hi,rfl⟩;have lm:=Paired.length pm;have i4:=Paired.length pr;have lw:=h3 fw;refine⟨_,_,rfl,.inl ⟨_,SqL.of um,rfl⟩,cP (aA (cz (fun c =>?_) (fun c =>?_)))⟩
  rotate_left
  ·have c':¬ ((i:Int) < (ms.length:Int)):=fun h=>c (Jd h);exact (q' la M H5 s5 ⟨ms,um,pm⟩ (fw.fin nd (by lia)))
  have c':(i:Int) < (ms.length:Int):=JB c;have f1:i < M.length:=by lia
  have d7:M[i]? = some M[i]:=Jy f1;generalize M[i]=qi at d7;refine⟨(leZ rfl),nw fun ll H6 c6 s6 u6 =>?_⟩;have f2:H ll=none:=s5.free c6;have c7:ll≠la:=fun e=>by rw[e,um]at c6;cases c6
  have f3:ll≠lr:=fun e=>by rw[e,ur]at c6;cases c6
  have f4:=s6 _ _ um;have f5:=s6 _ _ ur;have h4:Paired (on H6) rs R:=Paired.mapP pr fun _ _ h=>h.up s6.tups;refine⟨lr,rfl,⟨_,SqL.of f5⟩,cM (xs:=rs) (fun (k:Nat) σ H7=>k≤rs.length∧(∀ b o,b≠la→b≠ll→H6 b=some o→H7 b=some o)∧(∃ U,H7 la=some (.lst U)∧Paired (on H7) U (M++(R.take k).filter (aV qi)))∧(∃ a0,H7 ll=some (.lst a0)∧Paired (on H7) a0 ((R.take k).filter fun r => !aV qi r))∧∃ o8:OW9,σ=[some (.ref lt),some (.int (n:Int)),some (.ref ps),some (.ref D1),some (.ref la),some (.ref lr),some (.int (i:Int)),some (.ref ll),o8])
   ⟨Je _,fun _ _ _ _ e=>e,⟨ms,f4,by simpa using Paired.mapP pm fun _ _ h=>h.up s6.tups⟩,⟨[],u6,by exact .nil⟩,_,rfl⟩ (fun k σ H7 _ h=>SqL.of (h.2.1 _ _ f0 (Ne.symm f3) f5)) ?_ ?_⟩
  ·rintro k u σ H7 hu ⟨hk,k7,⟨U,c8,a7⟩,⟨a0,d0,a8⟩,h5,rfl⟩;obtain⟨r,O,p,rfl,hp⟩:=bB h4 hu;have h6:bQ H6 H7:=fun b xs e=>k7 b _ (fun z=>by rw[z,f4]at e;cases e) (fun z=>by rw[z,u6]at e;cases e) e;have h7:=Paired.length a7;have i5:=Paired.length a8;have i6:=Kj (aV qi) (R.take k);have i7:=Kj (fun r => !aV qi r) (R.take k);have i8:=List.length_take_le' k R;rw[I8]at h7;obtain⟨v1,f6⟩:∃ v1,U[i]? = some v1:=⟨U[i]'(by lia),Jy _⟩;obtain⟨i9,f7,pq,rfl,h8⟩:=bB a7 f6;rw[JM f1,d7]at f7;cases f7;have d8:Bx H7 p r:=h6 _ _ hp;refine⟨la,_,_,_,rfl,rfl,SqL.of c8,bV f6,pq,p,qi,r,rfl,h8,d8,fun im H8 s8 f8 _=>(cP (aA (cz (fun c1 =>?_) (fun c1 =>?_))))⟩
   ·have tt:aV qi r=true:=f8.mp (JB c1);have d9:=s8 _ _ c8;have t9:bQ H8 (upd H8 la (.lst (U++[.ref p]))):=cY d9 (by intro xs q;cases q);refine⟨.inl ⟨rfl,_,SqL.of d9⟩,la,U,_,rfl,rfl,d9,Ib (by lia),(IZ.mp hu).1,fun b o h1 h2 e=>by rw[aG h1];exact s8 _ _ (k7 b o h1 h2 e),⟨_,ah,?_⟩,⟨a0,by rw[aG c7];exact s8 _ _ d0,?_⟩,_,rfl⟩
    ·rw[eg O,tt,← Jx];exact cA (Paired.mapP a7 fun _ _ h=>h.up (s8.tups.trans t9)) (.cons ⟨p,rfl,t9 _ _ (s8 _ _ d8)⟩ .nil)
    ·rw[eg O,tt];simpa using Paired.mapP a8 fun _ _ h=>h.up (s8.tups.trans t9)
   ·have tt:aV qi r=false:=by
     cases e:aV qi r with
     | false=>rfl
     | true=>exact absurd (Jd (f8.mpr e)) c1
    have e0:=s8 _ _ d0;have t9:bQ H8 (upd H8 ll (.lst (a0++[.ref p]))):=cY e0 (by intro xs q;cases q);refine⟨.inl ⟨rfl,_,SqL.of e0⟩,ll,a0,_,rfl,rfl,e0,Ib (by lia),(IZ.mp hu).1,fun b o h1 h2 e=>by rw[aG h2];exact s8 _ _ (k7 b o h1 h2 e),⟨U,by rw[aG (Ne.symm c7)];exact s8 _ _ c8,?_⟩,⟨_,ah,?_⟩,_,rfl⟩
    ·rw[eg O,tt];simpa using Paired.mapP a7 fun _ _ h=>h.up (s8.tups.trans t9)
    ·rw[eg O,tt];exact cA (Paired.mapP a8 fun _ _ h=>h.up (s8.tups.trans t9)) (.cons ⟨p,rfl,t9 _ _ (s8 _ _ d8)⟩ .nil)
  ·rintro σ H7 ⟨_,k7,⟨U,c8,a7⟩,⟨a0,d0,a8⟩,h5,rfl⟩;rw[Ji (by lia)]at a7 a8;have s7:ak H H7:=fun b o e=>k7 b o (fun z=>by rw[z,g9]at e;cases e) (fun z=>by rw[z,f2]at e;cases e) (s6 _ _ (s5 _ _ e));refine⟨⟨i + 1,ll,a0,U,_,_,_,_,s7,f2,c7,c8,a7,d0,a8,fw.step d7,by rw[I8];lia,rfl⟩,?_⟩;show 2000 - ((i:Int) + 1).toNat < 2000 - (i:Int).toNat
   lia
 ·intro σ H' R R' k J;obtain⟨_,b2,J⟩:=aM J;obtain⟨_,b4,J⟩:=aM J;obtain⟨b5,b6,b7,b8,J⟩:=J;obtain⟨_,_,a5,a6,J⟩:=gh J;obtain⟨_,d5,h⟩:=fC J;exact (aZ b2 (aZ b4 ⟨b5,b6,b7,b8,nW a5 a6 (lZ d5 (k _ _ h))⟩))
end
theorem Bk (xs:List V)(h:k≤xs.length):sD xs none (some (k:Int))=xs.take k:=by
 unfold sD;have B:HT.sIx xs.length 0 none=0:=rfl;have G:HT.sIx xs.length xs.length (some (k:Int))=k:=by
  unfold HT.sIx
  first | (simp;lia) | (dsimp only;split<;>lia)
 rw[B,G,Mw,Lo]
theorem Fg (q r:Sq):c_ q r=c_ r q:=by
 rw[ig,ig,Lp ((r.x:Int) + r.w),Lq (r.x:Int),Lp ((r.y:Int) + r.w),Lq (r.y:Int)]
theorem DE (h:0 < q.w):c_ q q=0:=by
 rw[ig,if_neg]
 lia
theorem EU (G:0 < q.w)(J:0 < r.w)(B:Sep q r∨Sep r q):AV (dF q.x q.w r.x r.w) (dF q.y q.w r.y r.w)=c_ q r:=by
 rw[ig];unfold dF AV;rw[fR,fR,fQ,fQ];obtain⟨O,U,_⟩:=mJ (x:=q.x) (w:=q.w) (y:=r.x) (v:=r.w) (by lia) (by lia);obtain⟨y1,y2,_⟩:=mJ (x:=q.y) (w:=q.w) (y:=r.y) (v:=r.w) (by lia) (by lia);generalize min ((q.x:Int) + q.w) (r.x + r.w) - max (q.x:Int) r.x=X at *;generalize min ((q.y:Int) + q.w) (r.y + r.w) - max (q.y:Int) r.y=Y at *;have h:X≤0∨Y≤0:=by
  unfold Sep at B
  lia
 split<;>split<;>(try split)<;>(try split)<;>lia
theorem AA (B:0 < q.w):dB (A++[q])=dB A + 4 * (q.w:Int) - 2 * (A.map (c_ q)).sum:=by
 unfold dB;rw[Jn,Kl];have J:(A.map fun p=>4 * (p.w:Int) - ((A++[q]).map (c_ p)).sum).sum + (A.map (c_ q)).sum=(A.map fun p=>4 * (p.w:Int) - (A.map (c_ p)).sum).sum:=by
  rw[← bX];refine Jz Ld (Jk fun p _ =>?_);rw[Jn,Kl,Jl,Kh,JW,K8,Fg p q]
  lia
 have G:((A++[q]).map (c_ q)).sum=(A.map (c_ q)).sum:=by
  rw[Jn,Kl,Jl,Kh,JW,K8,DE B];simp
 simp only[Jl,Kh,JW,K8];rw[G]
 lia
structure LdK (M:List Sq):Prop where
 pos:∀ q∈M,0 < q.w
 nd:M.Nodup
 apart:∀ q∈M,∀ r∈M,q=r∨Sep q r∨Sep r q
 len:M.length≤1500
section
variable {P:Pg9}{w:Wd9}{K:Frag}{mg:Mg9}{base:Heap}{CX:CXT}{f:Addr}{fd:Fd9}
abbrev nJ:Stmt:=top 60
theorem dX:aE ["_law_land_here","_law_many","_law_k","_law_square_here","_law_other"] ["_law_land_here"] (aq nJ):={}
inductive oP  (vs:List V)(H:Hp)(Q:VK):Prop
 | mk (l:Addr) (M:List Sq) (h_0:vs=[.ref l]) (h_1:Ik H l M) (h_2:LdK M) (h_3:∀ H',ak H H'→Q (.int (dB M)) H'):oP  vs H Q
def qu:Sp:=fun vs H Q _=>oP  vs H Q
theorem x9 (T:Tx K mg)(q:bW CX)(F:bE K "_law_rim" "_law_rim" nJ f fd .none)(B:Fok P w K mg base CX 1 "_law_met" ["_law_one","_law_two"] [] lN):bF P w K mg base CX 2 f fd ["_law_land_here"] qu:=by
 refine F.ok dX (fun vs H Q E h =>?_) (fun b0 A outer s H vs Q E hr h =>?_)
 ·obtain⟨_,_,rfl,_⟩:=h;rfl
 obtain⟨l,M,rfl,⟨us,ul,hM⟩,U,q'⟩:=h;refine⟨_,(ac (ao (i:=1) dX ae) (ac (aR Jm rfl (uJ rfl T.b_enumerate (aa (pv 0) af)) (iz rfl (aW (aY (i:=2) dX) (aW (aY (i:=3) dX) dC))) (ac (ao (i:=1) dX (ai aI (pv 1) (ai bq ae (ay aD (pv 3) ae)))) (ag (aR Jm rfl (bO (c9 uz (pv 0) fB (di (pv 2)))) (aY (i:=4) dX) (ag (ao (i:=1) dX (ai fq (pv 1) (ai bq ae (aj B q hr (aa (pv 3) (aa (pv 4) af))))))))))) (ag (aB (pv 1))))),?_⟩;have lM:=Paired.length hM;have a9:=U.len;refine⟨l,rfl,⟨_,SqL.of ul⟩,Dc (xs:=us) (fun (i:Nat) σ H1=>ak H H1∧i≤us.length∧∃ o2 o3 J:OW9,σ=[some (.ref l),some (.int (dB (M.take i))),o2,o3,J]) ⟨ak.refl _,Je _,_,_,_,rfl⟩ (fun i σ H1 h=>SqL.of (h.1 _ _ ul)) ?_ ?_⟩
 ·rintro i u p σ H1 hu ⟨s1,_,o2,o3,J,rfl⟩ hp;have hi:=(IZ.mp hu).1;obtain⟨G,Y,a,rfl,ha⟩:=bB hM hu;have a0:=Jh Y;have hw:=U.pos G a0;have s2:=ak.new hp (.tup [.int (i:Int),.ref a]);have u2:upd H1 p (.tup [.int (i:Int),.ref a]) p=some (.tup [.int (i:Int),.ref a]):=ah;generalize upd H1 p (.tup [.int (i:Int),.ref a])=H2 at *;have O:=s1.trans s2;have a5:Bx H2 a G:=O _ _ ha;refine⟨p,_,rfl,SqT.of u2,rfl,_,_,rfl,_,_,rfl,rfl,?_⟩;refine⟨a,_,_,_,rfl,rfl,SqT.of a5,rfl,.inl ⟨by decide,by decide⟩,cP ?_⟩;have et:M.take (i + 1)=M.take i++[G]:=by rw[Jw,Y];rfl
  rw[et,AA hw];generalize eA:M.take i=A at *;have lA:A.length=i:=by rw[← eA,JO];lia
  refine⟨_,rfl,l,us,rfl,SqL.of (O _ _ ul),fun lc a6 =>?_⟩;rw[Bk us (by omega)];have s3:=ak.new a6 (.lst (us.take i));have u3:upd H2 lc (.lst (us.take i)) lc=some (.lst (us.take i)):=ah;generalize upd H2 lc (.lst (us.take i))=H3 at *;have a1:=O.trans s3;refine⟨lc,rfl,⟨_,SqL.of u3⟩,cM (xs:=us.take i) (fun (j:Nat) σ H4=>ak H3 H4∧j≤i∧∃ J:OW9,σ=[some (.ref l),some (.int (dB A + 4 * (G.w:Int) - 2 * ((A.take j).map (c_ G)).sum)),some (.int (i:Int)),some (.ref a),J]) ⟨ak.refl _,Je _,J,by simp⟩ (fun j σ H4 _ h=>SqL.of (h.1 _ _ u3)) ?_ ?_⟩
  ·rintro j v σ H4 hv ⟨s4,_,J,rfl⟩;have hj:=(IZ.mp hv).1;rw[JO]at hj;rw[Lu,if_pos (by lia)]at hv;obtain⟨r,er,b,rfl,hb⟩:=bB hM hv;have a7:A[j]? = some r:=by rw[← eA,Lu,if_pos (by lia)];exact er
   have a2:=Jh er;have a8:=U.pos r a2;have a3:=a1.trans s4;have ap:Sep G r∨Sep r G:=by
    refine (U.apart G a0 r a2).resolve_left fun e =>?_;rw[e]at Y
    have:=(List.getElem?_inj (IZ.mp Y).1 U.nd).mp (Y.trans er.symm)
    lia
   refine⟨a,b,G,r,rfl,a3 _ _ ha,a3 _ _ hb,fun im H5 s5 _ a4 =>?_⟩;rw[EU hw a8 ap]at a4;refine⟨.inl ⟨by decide,by decide⟩,s4.trans s5,by lia,some (.ref b),?_⟩;rw[Jw,a7,Jn,Kl,a4];simp only[Option.toList_some,Jl,Kh,JW,K8,L4,Int.mul_add,Int.sub_sub];rfl
  ·rintro σ H4 ⟨s4,_,J,rfl⟩;rw[JO,Ji (by lia)];exact⟨a1.trans s4,hi,_,_,_,rfl⟩
 ·rintro σ H1 ⟨s1,_,o2,o3,J,rfl⟩;rw[Ji (by lia)];exact (q' H1 s1)
end
def mf (H:Hp)(u:V)(ps:List Pt):Prop:=∃ l us,u=.ref l∧H l=some (.lst us)∧jG H us ps
theorem RgV.weak (h:RgV H0 lt H u ps):mf H u ps:=by
 obtain⟨l,us,e,_,_,B,G⟩:=h;exact⟨l,us,e,B,G⟩
theorem mf.up (h:mf H u ps)(s:ak H H'):mf H' u ps:=by
 obtain⟨l,us,e,B,G⟩:=h;exact⟨l,us,e,s _ _ B,G.up s.tups⟩
def RgP (ps:List Pt):Prop:=ps.length≤9000000∧∀ k,k < ps.length→(-(2 ^ 60) < (ptR ps k).1∧(ptR ps k).1 < 2 ^ 60∧-(2 ^ 60) < (ptR ps k).2∧(ptR ps k).2 < 2 ^ 60)∧((ptR ps (prv ps.length k)).1=(ptR ps k).1∨(ptR ps (prv ps.length k)).2=(ptR ps k).2)
theorem wV (g:Pt→Pt→Int)(ps:List Pt)(k:Nat):((List.range (k + 1)).map fun k=>g (ptR ps (prv ps.length k)) (ptR ps k)).sum=((List.range k).map fun k=>g (ptR ps (prv ps.length k)) (ptR ps k)).sum + g (ptR ps (prv ps.length k)) (ptR ps k):=by
 rw[Kt,Jn,Kl];simp
theorem Ad (a b:Int):(if a - b < 0 then -(a - b) else a - b)=max (a - b) (b - a):=by split<;>lia
theorem qV {a b:Int}(h:(!decide (V.int a=V.int b))=true):a≠b:=fun e=>by
 rw[e,Jd rfl]at h;cases h
theorem IR {c X Y:Prop}[Decidable c](h:Y)(g:Y→c→X):if c then X else Y:=by
 by_cases hc:c
 ·rw[if_pos hc];exact g h hc
 ·rw[if_neg hc];exact h
section
variable {P:Pg9}{w:Wd9}{K:Frag}{mg:Mg9}{base:Heap}{CX:CXT}{f:Addr}{fd:Fd9}
abbrev lT:Stmt:=top 61
theorem cJ:aE ["_law_found","_law_twice_here","_law_far","_law_ring","_law_k","_law_one","_law_other"] ["_law_found"] (aq lT):={}
inductive nr  (vs:List V)(H:Hp)(Q:VK):Prop
 | mk (l:Addr) (us:List V) (Ps:List (List Pt)) (h_0:vs=[.ref l]) (h_1:H l=some (.lst us)) (h_2:Paired (mf H) us Ps) (h_3:(∀ ps∈Ps,RgP ps)) (h_4:∀ p H',ak H H'→H' p=some (.tup [.int (Ps.map (cyS crs)).sum,.int (Ps.map (cyS far)).sum])→Q (.ref p) H'):nr  vs H Q
def oA:Sp:=fun vs H Q _=>nr  vs H Q
theorem wq (T:Tx K mg)(F:bE K "_law_sums" "_law_sums" lT f fd .none):bF P w K mg base CX 1 f fd ["_law_found"] oA:=by
 refine F.ok cJ (fun vs H Q E h =>?_) (fun a6 A outer s H vs Q E hr h =>?_)
 ·obtain⟨_,_,_,rfl,_⟩:=h;rfl
 obtain⟨l,us,Ps,rfl,ul,hP,hR,q'⟩:=h;refine⟨_,(ac (ao (i:=1) cJ ae) (ac (ao (i:=2) cJ ae) (ac (aR Jm rfl (bO (pv 0)) (aY (i:=3) cJ) (ag (aR Jm rfl (bR rfl T.b_range (aa (az bC rfl T.b_len cW (aa (pv 3) af)) af)) (aY (i:=4) cJ) (ac (ao (i:=5) cJ (ay bK (pv 3) (ai fq (pv 4) ae))) (ac (ao (i:=6) cJ (ay bK (pv 3) (pv 4))) (ac (bG (PW.pt (jV (aH qP (ay aD (pv 5) ae) (ay aD (pv 6) ae)) (pH (aH qP (ay aD (pv 5) ae) (ay aD (pv 6) ae))))) (ag (aB (aF (av ae (av ae au))))) aO) (ac (ao (i:=1) cJ (ai fq (ai aI (pv 1) (ai bq (ay aD (pv 5) ae) (ay aD (pv 6) ae))) (ai bq (ay aD (pv 6) ae) (ay aD (pv 5) ae)))) (ag (ao (i:=2) cJ (ai aI (ai aI (pv 2) (az xl rfl T.b_abs DM (aa (ai fq (ay aD (pv 5) ae) (ay aD (pv 6) ae)) af))) (az xl rfl T.b_abs DM (aa (ai fq (ay aD (pv 5) ae) (ay aD (pv 6) ae)) af)))))))))))) (ag (aB (aF (av (pv 1) (av (pv 2) au)))))))),?_⟩;have lP:=Paired.length hP;refine⟨l,rfl,⟨_,SqL.of ul⟩,cM (xs:=us) (fun (i:Nat) σ H1=>H1=H∧i≤us.length∧∃ o3 B G J:OW9,σ=[some (.ref l),some (.int ((Ps.take i).map (cyS crs)).sum),some (.int ((Ps.take i).map (cyS far)).sum),o3,B,G,J]) ⟨rfl,Je _,_,_,_,_,rfl⟩ (fun i σ H1 _ h=>by rw[h.1];exact SqL.of ul) ?_ ?_⟩
 ·rintro i u σ H1 hu ⟨rfl,_,o3,B,G,J,rfl⟩;have hi:=(IZ.mp hu).1;obtain⟨ps,a0,lr,ur,rfl,Y,a1⟩:=bB hP hu;obtain⟨rl,rp⟩:=hR ps (Jh a0);have a2:=Paired.length a1;have et:∀ g:List Pt→Int,((Ps.take (i + 1)).map g).sum=((Ps.take i).map g).sum + g ps:=fun g=>by
   rw[Jw,a0,Jn,Kl];simp
  rw[et,et];generalize ((Ps.take i).map (cyS crs)).sum=S1 at *;generalize ((Ps.take i).map (cyS far)).sum=S2 at *;refine⟨_,_,rfl,.inl ⟨_,SqL.of Y,rfl⟩,_,rfl,by simp,by lia,bY (fun (k:Nat) σ H2=>H2=H1∧k≤ps.length∧∃ B G J:OW9,σ=[some (.ref l),some (.int (S1 + ((List.range k).map fun k=>crs (ptR ps (prv ps.length k)) (ptR ps k)).sum)),some (.int (S2 + ((List.range k).map fun k=>far (ptR ps (prv ps.length k)) (ptR ps k)).sum)),some (.ref lr),B,G,J]) ⟨rfl,Je _,B,G,J,by simp⟩ ?_ ?_⟩
  ·rintro k σ H2 hk ⟨rfl,_,B,G,J,rfl⟩;have hk':k < ps.length:=by lia
   rw[show (0:Int) + (k:Int)=k from K9 _];have at_:∀ j,j < ps.length→∃ a,ur[j]? = some (.ref a)∧H2 a=some (.tup [.int (ptR ps j).1,.int (ptR ps j).2]):=fun j hj=>by
    obtain⟨v,hv⟩:∃ v,ur[j]? = some v:=⟨ur[j]'(by lia),Jy _⟩;obtain⟨z,hz,a,rfl,ha⟩:=bB a1 hv;have ez:ptR ps j=z:=by unfold ptR;rw[hz];rfl
    rw[ez];exact⟨a,hv,ha⟩
   have a3:prv ps.length k < ps.length:=by unfold prv;split<;>lia
   obtain⟨a,ha,ta⟩:=at_ _ a3
   obtain⟨b,hb,tb⟩:=at_ k hk'
   obtain⟨a7,a4⟩:=rp k hk';have a5:=(rp _ a3).1;have ya:atI ur ((k:Int) - 1)=some (.ref a):=Cg (by assumption) (by rw[a2];exact ha);rw[wV,wV];generalize ptR ps k=O at *;generalize ptR ps (prv ps.length k)=U at *;generalize ((List.range k).map fun k=>crs (ptR ps (prv ps.length k)) (ptR ps k)).sum=T1 at *;generalize ((List.range k).map fun k=>far (ptR ps (prv ps.length k)) (ptR ps k)).sum=T2 at *;refine⟨lr,_,_,_,rfl,rfl,SqL.of Y,ya,?_⟩;refine⟨lr,_,_,_,rfl,rfl,SqL.of Y,bV hb,?_⟩;refine⟨a,_,_,_,rfl,rfl,SqT.of ta,rfl,b,_,_,_,rfl,rfl,SqT.of tb,rfl,rfl,IR (fS ?_) (fun rest c0 =>?_)⟩
   rotate_left
   ·exact⟨a,_,_,_,rfl,rfl,SqT.of ta,rfl,b,_,_,_,rfl,rfl,SqT.of tb,rfl,rfl,aA (cz (fun c1=>absurd a4 fun h=>h.elim (qV c0) (qV c1)) (fun _=>rest))⟩
   refine⟨a,_,_,_,rfl,rfl,SqT.of ta,rfl,b,_,_,_,rfl,rfl,SqT.of tb,rfl,.inl ⟨by lia,by lia⟩,b,_,_,_,rfl,rfl,SqT.of tb,rfl,a,_,_,_,rfl,rfl,SqT.of ta,rfl,.inl ⟨by lia,by lia⟩,?_⟩;refine⟨a,_,_,_,rfl,rfl,SqT.of ta,rfl,b,_,_,_,rfl,rfl,SqT.of tb,rfl,_,rfl,a,_,_,_,rfl,rfl,SqT.of ta,rfl,b,_,_,_,rfl,rfl,SqT.of tb,rfl,_,rfl,rfl,hk',some (.int (k:Int)),some (.ref a),some (.ref b),?_⟩;show [_,some (V.int (S1 + T1 + U.1 * O.2 - O.1 * U.2)),some (V.int (S2 + T2 + (if U.1 - O.1 < 0 then -(U.1 - O.1) else U.1 - O.1) + (if U.2 - O.2 < 0 then -(U.2 - O.2) else U.2 - O.2))),_,_,_,_]=_;rw[Ad,Ad,Int.add_sub_assoc,Mc S1,Mc (S2 + T2),Mc S2];rfl
  ·rintro σ H2 ⟨rfl,_,B,G,J,rfl⟩;rw[JU,a2];exact⟨rfl,hi,_,_,_,_,rfl⟩
 ·rintro σ H1 ⟨rfl,_,o3,B,G,J,rfl⟩;rw[Ji (by lia)];exact⟨(leZ rfl),fun p hp=>q' p _ (ak.new hp _) ah⟩
end
def ptD (p:Pt):PyData:=.tuple [.int p.1,.int p.2]
def rgD (ps:List Pt):PyData:=.list (ps.map ptD)
theorem wc:∀ {us:List V} {ps:List Pt},jG H us ps→Dats H us (ps.map ptD)
 | _,_,.nil=>.nil
 | _,_,.cons ⟨_,e,h⟩ r=>by
  rw[e];exact .cons (.tup h (.cons (.int _) (.cons (.int _) .nil))) (wc r)
theorem jU:∀ {us:List V} {Ps:List (List Pt)},Paired (mf H) us Ps→Dats H us (Ps.map rgD)
 | _,_,.nil=>.nil
 | _,_,.cons ⟨_,_,e,h,p⟩ r=>by
  rw[e];exact .cons (.lst h (wc p)) (jU r)
theorem Ex (ps:List Pt):PyData.canLayAll0 (ps.map ptD)=true∧PyData.depthAll (ps.map ptD)≤1:=by
 induction ps with
 | nil=>exact⟨rfl,Je _⟩
 | cons p ps ih =>
  refine⟨?_,?_⟩
  ·show ((true && (true && true)) && PyData.canLayAll0 (ps.map ptD))=true;rw[ih.1];rfl
  ·show max (max 0 (max 0 0) + 1) (PyData.depthAll (ps.map ptD))≤1
   lia
theorem qG (Ps:List (List Pt)):SeqAt.shaped (.list (Ps.map rgD))=true:=by
 have e:PyData.canLayAll0 (Ps.map rgD)=true∧PyData.depthAll (Ps.map rgD)≤2:=by
  induction Ps with
  | nil=>exact⟨rfl,Je _⟩
  | cons p Ps ih =>
   obtain⟨h1,h2⟩:=Ex p;refine⟨?_,?_⟩
   ·show (PyData.canLayAll0 (p.map ptD) && PyData.canLayAll0 (Ps.map rgD))=true;rw[ih.1,h1];rfl
   ·show max (PyData.depthAll (p.map ptD) + 1) (PyData.depthAll (Ps.map rgD))≤2
    lia
 unfold SeqAt.shaped;show (PyData.canLayAll0 (Ps.map rgD) && decide (PyData.depthAll (Ps.map rgD) + 1≤64))=true;rw[e.1,Jd (by lia)];rfl
def RgW (D:Addr)(H:Hp)(u:V)(ps:List Pt):Prop:=∃ l us,u=.ref l∧l≠D∧H l=some (.lst us)∧jG H us ps
theorem RgW.weak (h:RgW D H u ps):mf H u ps:=by
 obtain⟨l,us,e,_,B,G⟩:=h;exact⟨l,us,e,B,G⟩
theorem RgW.put (h:RgW D H u ps)(s:∀ b o,b≠D→H b=some o→H' b=some o)(t:bQ H H'):RgW D H' u ps:=by
 obtain⟨l,us,e,n,B,G⟩:=h;exact⟨l,us,e,n,s _ _ n B,G.up t⟩
theorem mf.upT (h:mf H u ps)(s:cq T H H')(t:fT T H):mf H' u ps:=by
 obtain⟨l,us,e,B,G⟩:=h;exact⟨l,us,e,s.keep t B (by intro ps z;cases z),G.up (s.tups t)⟩
theorem w_ (m:∀ v H',Q v H'→Q' v H')(h:ma σ0 k cs g te Q J H1):ma σ0 k cs g te Q' J H1:=fun D B=>by
 obtain⟨W,G,O⟩:=h D B;refine⟨W,G,fun i U ys H2 w =>?_⟩;obtain⟨h1,h2⟩:=O i U ys H2 w;exact⟨h1,h2.imp (fun⟨a,b⟩=>⟨a,m _ _ b⟩) id⟩
section
variable {P:Pg9}{w:Wd9}{K:Frag}{mg:Mg9}{base:Heap}{CX:CXT}{f:Addr}{fd:Fd9}
abbrev jR:Stmt:=top 62
theorem eF:aE ["_law_sheet_here","_law_place","_law_around","_law_many","_law_level","_law_tree","_law_x","_law_y"] ["_law_sheet_here","_law_place","_law_around","_law_many"] (aq jR):={}
inductive lI  (Tb:AS9)(vs:List V)(H:Hp)(Q:VK):Prop
 | mk (ps pp lf:Addr) (n i j:Nat) (v:V) (t:Tr) (q0:Sq) (uf:List V) (A:List Nat→LN9) (zs:LN9) (ys:LP9) (h_0:vs=[.ref ps,.ref pp,.ref lf,.int (dB (aJ (sqs [] t 0 0 n) A q0.z))]) (h_1:H ps=some (.tup [.int (n:Int),v])) (h_2:bS H v t) (h_3:aQ n t) (h_4:n < 40) (h_5:cnt t≤1500) (h_6:H pp=some (.tup [.int (i:Int),.int (j:Int)])) (h_7:q0∈sqs [] t 0 0 n) (h_8:(q0.x≤i∧i < q0.x + q0.w∧q0.y≤j∧j < q0.y + q0.w)) (h_9:a_ (sqs [] t 0 0 n) A zs) (h_10:(∀ k,k∈ys↔k∈fe (sqs [] t 0 0 n) (aJ (sqs [] t 0 0 n) A q0.z))) (h_11:(ys.Pairwise fun a b=>leP a.1 b.1)) (h_12:H lf=some (.lst uf)) (h_13:Paired (mf H) uf (aK (DG (sqs [] t 0 0 n) (aJ (sqs [] t 0 0 n) A q0.z)) ys).1) (h_14:uf.length≤9000000) (h_15:(∀ ps∈(aK (DG (sqs [] t 0 0 n) (aJ (sqs [] t 0 0 n) A q0.z)) ys).1,RgP ps)) (h_16:fT Tb H) (h_17:∀ H',cq Tb H H'→fT Tb H'→Q (.bl true) H'):lI Tb vs H Q
def mC  (Tb:AS9):Sp:=fun vs H Q _=>lI Tb vs H Q
theorem uU (T:Tx K mg)(q:bW (CXe P w))(F:bE K "_law_twice" "_law_twice" jR f fd .none)(a2:Fok P w K mg base (CXe P w) 46 "rim" ["sheet","x","y"] [] xC)(G:Fok P w K mg base (CXe P w) 50 "rings" ["sheet","x","y"] [] (mw P w Tb)):bF P w K mg base (CXe P w) 51 f fd ["_law_sheet_here","_law_place","_law_around","_law_many"] (mC Tb):=by
 refine F.ok eF (fun vs H Q E h =>?_) (fun h0 A outer s H vs Q E hr h =>?_)
 ·obtain⟨_,_,_,_,_,_,_,_,_,_,_,_,_,rfl,_⟩:=h;rfl
 obtain⟨ps,pp,lf,n,i,j,v,t,q0,uf,A,zs,ys,rfl,b6,ht,gt,hn,hc,d5,B,ins,C,hd,hs,d6,hR,d7,b7,a3,q'⟩:=h;refine⟨_,(ac (xU (pv 0) (iz rfl (aW (aY (i:=4) eF) (aW (aY (i:=5) eF) dC)))) (ac (xU (pv 1) (iz rfl (aW (aY (i:=6) eF) (aW (aY (i:=7) eF) dC)))) (ac (bG (aH qP (aj a2 q hr (aa (aF (av (ai aI (pv 4) ae) (av (pv 5) au))) (aa (ai bq ae (pv 6)) (aa (ai bq ae (pv 7)) af)))) (ai bq ae (pv 3))) (ag (aB k_)) aO) (ac (bG (aH (uN hr) (aj G q hr (aa (aF (av (ai aI (pv 4) ae) (av (pv 5) au))) (aa (ai bq ae (pv 6)) (aa (ai bq ae (pv 7)) af)))) (iM (N':=["_law_ring"]) [] [] [] 1 {} (bO (pv 2)) (fun _ _ _ _ _=>(hJ (i:=0))) (fun _ _ _ _ _=>(iM (N':=["_law_a","_law_b"]) [] [] [] 2 {} (Ck (K:=K) (pv 0)) (fun _ _ _ _ _=>(pP (K:=K) (n:=2) rfl (aW (hJ (i:=0)) (aW (hJ (i:=1)) dC)))) (fun _ _ _ _ _=>(aF (av (ai bq ae (pv 0)) (av (ai bq ae (pv 1)) au)))))))) (ag (aB k_)) aO) (ag (aB (xY (eJ fF (aj a2 q hr (aa (aF (av (pv 4) (av (pv 5) au))) (aa (pv 6) (aa (pv 7) af)))) (pv 3)) (xW (eJ (qR hr) (aj G q hr (aa (aF (av (pv 4) (av (pv 5) au))) (aa (pv 6) (aa (pv 7) af)))) (pv 2)))))))))),?_⟩
 have gt':=gt.up;have eL:=i7 t [] 0 0 n gt;rw[Nat.mul_zero]at eL;have b8:dbl q0∈sqs [] t 0 0 (n + 1):=by rw[eL];exact I9.mpr ⟨q0,B,rfl⟩
 have ins':(dbl q0).x≤2 * i∧2 * i < (dbl q0).x + (dbl q0).w∧(dbl q0).y≤2 * j∧2 * j < (dbl q0).y + (dbl q0).w:=by unfold dbl;dsimp only;lia
 have hl:=(nZ gt C B).1;refine⟨ps,_,rfl,SqT.of b6,rfl,_,_,rfl,_,_,rfl,rfl,?_⟩;refine⟨pp,_,rfl,SqT.of d5,rfl,_,_,rfl,_,_,rfl,rfl,?_⟩;refine⟨(leZ rfl),nw fun p1 H1 h5 s1 u1 =>?_⟩;refine⟨.inl ⟨by decide,by decide⟩,.inl ⟨by decide,by decide⟩,?_⟩;refine⟨p1,n + 1,2 * i,2 * j,v,t,dbl q0,(by show [V.ref p1,V.int (2 * (i:Int)),V.int (2 * (j:Int))]=_;rw[show (2:Int) * (i:Int)=((2 * i:Nat):Int) by rfl,show (2:Int) * (j:Int)=((2 * j:Nat):Int) by rfl]),u1,ht.up s1.tups,gt',by assumption,hc,b8,ins',fun A1 h6 H2 C1 s2 =>?_⟩;have er:=Ay gt C C1 B;refine⟨.inl ⟨by decide,by decide⟩,rfl,aA (cz (fun c=>absurd er (qV c)) (fun _ =>?_))⟩;have d8:=s1.trans s2;refine⟨(leZ rfl),nw fun p3 H3 h7 s3 u3 =>?_⟩;have b3:=d8.trans s3;have d9:=b3.tabs a3;refine⟨.inl ⟨by decide,by decide⟩,.inl ⟨by decide,by decide⟩,?_⟩;refine⟨p3,n + 1,2 * i,2 * j,v,t,dbl q0,(by show [V.ref p3,V.int (2 * (i:Int)),V.int (2 * (j:Int))]=_;rw[show (2:Int) * (i:Int)=((2 * i:Nat):Int) by rfl,show (2:Int) * (j:Int)=((2 * j:Nat):Int) by rfl]),u3,ht.up b3.tups,gt',by assumption,hc,b8,ins',d9,fun A4 h8 i0 l4 e0 H4 C4 e2 e3 e5 e6 i1 e8 f0 i2 =>?_⟩;have e4:=v9 gt C C4 B hd hs e2 (uv e3);have hR4':Paired (mf H4) e0 ((aK (DG (sqs [] t 0 0 n) (aJ (sqs [] t 0 0 n) A q0.z)) ys).1.map (·.map dp)):=by
  rw[← e4];exact Paired.mapP f0 fun _ _ h=>h.weak
 have J:=b3.toT.trans e5;obtain⟨Ps,b9⟩:∃ Ps,Ps=(aK (DG (sqs [] t 0 0 n) (aJ (sqs [] t 0 0 n) A q0.z)) ys).1:=⟨_,rfl⟩;rw[← b9]at hR b7 hR4';have c2:∀ {H':Hp},cq Tb H H'→Paired (mf H') uf Ps:=fun st=>Paired.mapP hR fun _ _ h=>h.upT st a3;have lk:∀ {H':Hp},cq Tb H H'→H' lf=some (.lst uf):=fun st=>st.keep a3 d6 (by intro ps z;cases z);have lR:=Paired.length hR;have c3:=c2 J;refine⟨[],rfl,lf,rfl,⟨_,SqL.of (lk J)⟩,gX uf (fun D (m:Nat) zs H'=>ak H4 H'∧H' D=some (.lst zs)∧m≤uf.length∧Paired (RgW D H') zs ((Ps.take m).map (·.map dp))) (JA d7 (by decide)) (fun D m zs H' h=>SqL.of (h.1 _ _ (lk J)))
   (fun D m zs H' h=>⟨h.2.1,by have:=Paired.length h.2.2.2;rw[I0,JO]at this;lia⟩) (fun D hD=>⟨ak.new hD _,ah,Je _,by exact .nil⟩) ?_ ?_ ?_ ?_⟩
 ·rintro D m u zs H5 hu hD ⟨s5,uD,hm,a5⟩;have f3:=(IZ.mp hu).1;obtain⟨pz,c4,lr,ur,rfl,f4,c5⟩:=bB c3 hu;obtain⟨rl,rp⟩:=b7 pz (Jh c4);have i3:=Paired.length c5;have a8:=s5 _ _ f4;have c6:=c5.up s5.tups;refine⟨rfl,[],rfl,lr,rfl,⟨_,SqL.of a8⟩,gX ur (fun D2 (k:Nat) ws H'=>ak H5 H'∧H' D2=some (.lst ws)∧k≤ur.length∧jG H' ws ((pz.take k).map dp)) (JA (by lia:ur.length≤9000000) (by decide)) (fun D2 k ws H' h=>SqL.of (h.1 _ _ a8))
   (fun D2 k ws H' h=>⟨h.2.1,by have:=Paired.length h.2.2.2;rw[I0,JO]at this;lia⟩) (fun D2 O=>⟨ak.new O _,ah,Je _,by exact .nil⟩) ?_ ?_ ?_ ?_⟩
  ·rintro D2 k u2 ws H6 c7 O ⟨s6,b4,hk,a7⟩;obtain⟨Y,f5,a6,rfl,f7⟩:=bB c6 c7;refine⟨a6,_,rfl,SqT.of (s6 _ _ f7),rfl,_,_,rfl,_,_,rfl,rfl,rfl,?_⟩;refine⟨.inl ⟨by decide,by decide⟩,.inl ⟨by decide,by decide⟩,(leZ rfl),fun p7 f8 =>?_⟩;have s7:=ak.new f8 (.tup [.int (2 * Y.1),.int (2 * Y.2)]);have u7:upd H6 p7 (.tup [.int (2 * Y.1),.int (2 * Y.2)]) p7=some (.tup [.int (2 * Y.1),.int (2 * Y.2)]):=ah;show upd H6 p7 (.tup [.int (2 * Y.1),.int (2 * Y.2)]) D2=_∧_;generalize upd H6 p7 (.tup [.int (2 * Y.1),.int (2 * Y.2)])=H7 at *;have c8:=s7 _ _ b4;have t8:bQ H7 (upd H7 D2 (.lst (ws++[.ref p7]))):=cY c8 (by intro xs q;cases q);refine⟨c8,ak.set (s6.trans s7) O _,ah,(IZ.mp c7).1,?_⟩;rw[Jw,f5,Jn];exact cA (a7.up (s7.tups.trans t8)) (.cons ⟨p7,rfl,t8 _ _ u7⟩ .nil)
  ·rintro D2 ws H6 O ⟨s6,b4,hk,a7⟩;rw[Ji (by lia)]at a7;have c9:=s6 _ _ uD;have d2:D2≠D:=fun e=>by rw[e,uD]at O;cases O
   have t7:bQ H6 (upd H6 D (.lst (zs++[.ref D2]))):=cY c9 (by intro xs q;cases q);refine⟨c9,ak.set (s5.trans s6) hD _,ah,f3,?_⟩;rw[Jw,c4,Jn];exact cA (Paired.mapP a5 fun _ _ h=>h.put (fun b o hb e=>by rw[aG hb];exact s6 _ _ e) (s6.tups.trans t7)) (.cons ⟨D2,ws,rfl,d2,by rw[aG d2];exact b4,a7.up t7⟩ .nil)
  ·rintro x σ H' R R' k ⟨a,xs,e1,h1,h2,y1,r1,f1,y2,r2,f2,f6,h⟩;exact⟨a,xs,e1,h1,h2,y1,r1,f1,y2,r2,f2,f6,k _ _ h⟩
  ·intro σ H' R R' k U;obtain⟨_,a0,U⟩:=aM U;obtain⟨_,_,b0,c0,d0,U⟩:=gh U;obtain⟨_,a1,U⟩:=aM U;obtain⟨_,_,b1,c1,d1,sz,h⟩:=gh U;exact aZ a0 (nW b0 c0 ⟨d0,aZ a1 (nW b1 c1 ⟨d1,sz,fun p hp=>k _ _ (h p hp)⟩)⟩)
 rotate_left
 ·exact fun x σ H' R R' k h=>k _ _ h
 ·intro σ H' R R' k U;obtain⟨vs,h1,U⟩:=U;obtain⟨_,h2,U⟩:=aM U;obtain⟨lm,h3,h4,h9⟩:=U;exact⟨vs,h1,aZ h2 ⟨lm,h3,h4,w_ (fun v H' h=>k _ _ h) h9⟩⟩
 rintro D i4 H5 hD ⟨s5,uD,_,a5⟩;rw[Ji (by lia)]at a5;have sh:=qG (Ps.map (·.map dp));refine⟨_,_,.lst (s5 _ _ e8) (jU (Paired.mapP hR4' fun _ _ h=>h.up s5)),.lst uD (jU (Paired.mapP a5 fun _ _ h=>h.weak)),sh,sh,aA (cz (fun c =>?_) (fun _ =>?_))⟩
 ·have c':(!PyData.eqv (.list ((Ps.map (·.map dp)).map rgD)) (.list ((Ps.map (·.map dp)).map rgD)))=true:=c;rw[SeqAt.eqv_refl _ (SeqAt.canLay_of_shaped sh)]at c';cases c'
 have d3:=J.trans s5.toT;have f9:=s5.tabs e6;have kt:∀ {H':Hp},cq Tb H H'→H' ps=some (.tup [.int (n:Int),v])∧bS H' v t:=fun st=>⟨st.tups a3 _ _ b6,ht.up (st.tups a3)⟩;refine⟨(leZ rfl),nw fun Y H6 i5 s6 u6 =>?_⟩;have a9:=d3.trans s6.toT;have g0:=s6.tabs f9;refine⟨Y,n,i,j,v,t,q0,rfl,u6,(kt a9).2,gt,by lia,hc,B,ins,fun A7 i6 H7 C7 s7 =>?_⟩;have e7:dB (aJ (sqs [] t 0 0 n) A7 q0.z)=dB (aJ (sqs [] t 0 0 n) A q0.z):=mH (ft C7 B) (ft C B) (kN C7 C B);refine⟨rfl,_,rfl,cz (fun _ =>?_) (fun c=>absurd (Jd (Jz V.int e7)) c)⟩;have d4:=a9.trans s7.toT;have g1:=s7.tabs g0;refine⟨(leZ rfl),nw fun p8 H8 i8 s8 u8 =>?_⟩;have b2:=d4.trans s8.toT;have g2:=s8.tabs g1;refine⟨p8,n,i,j,v,t,q0,rfl,u8,(kt b2).2,gt,by lia,hc,B,ins,g2,fun A9 i9 j0 l9 g3 H9 C9 g4 g5 g6 g7 j1 g8 g9 j2 =>?_⟩;have e9:=xL C C9 B hl hd hs g4 (uv g5);have a4:=b2.trans g6;have hR9':Paired (mf H9) g3 Ps:=by
  rw[b9,← e9];exact Paired.mapP g9 fun _ _ h=>h.weak
 have b5:=qG Ps;refine⟨_,_,.lst g8 (jU hR9'),.lst (lk a4) (jU (c2 a4)),b5,b5,?_⟩;show Q (.bl (PyData.eqv (.list (Ps.map rgD)) (.list (Ps.map rgD)))) _;rw[SeqAt.eqv_refl _ (SeqAt.canLay_of_shaped b5)];exact q' H9 a4 g7
end
section
variable {C:II9}{D:PD9}
def Cyc (C:II9)(cw:LP9):Prop:=∀ k,k < cw.length→Ij C (dL cw (prv cw.length k)) (dL cw k)
theorem uH (hi:i < R.length):R[i]? = some (dL R i):=by
 unfold dL;rw[Jy hi];rfl
theorem B3 (W:jt C D)(G:(D s.1 s.2).isSome=true)(low:∀ z∈cL D s,leP s.1 z.1):∃ cw,iD (cL D s)=cw.map (·.1)∧0 < cw.length∧Cyc C cw∧dL cw 0=s∧∀ p∈iD (cL D s),leP s.1 p:=by
 obtain⟨N,d,J,O,U,_,_,ht⟩:=jr W G low;have N0:=J.1;have er:=g_ J;rw[er];have c0:cU (bI D s N) 0=true:=by
  unfold cU;rw[jT,cT N0];unfold prv;rw[if_pos rfl,cT (by lia),O];refine Jd ?_;show s.2≠d;rcases U with⟨rfl,e⟩ | ⟨rfl,e⟩<;>rw[e]<;>decide
 obtain⟨cs,c,e1,e0,ch,sg,ew⟩:=qF W.pc (W.go_ G) c0 N N0 (I_ _);have B:iD (bI D s N)=(cs++[c]).map (·.1):=by
  unfold iD;rw[jT,← zV,e1]
 have l0:0 < (cs++[c]).length:=by simp
 have r0:dL (cs++[c]) 0=s:=by unfold dL;rw[e0];rfl
 refine⟨cs++[c],B,l0,fun k hk =>?_,r0,fun p hp =>?_⟩
 ·unfold prv;by_cases k0:k=0
  ·subst k0;rw[if_pos rfl,r0];have rl:dL (cs++[c]) ((cs++[c]).length - 1)=c:=by
    unfold dL;rw[I8,Kd,Nat.add_sub_cancel,JY (I_ _),Nat.sub_self];rfl
   rw[rl];rw[J.2.1]at sg;have s4:s.2 < 4:=by rcases U with⟨_,e⟩ | ⟨_,e⟩<;>rw[e]<;>decide
   refine⟨sg,?_,?_,s4⟩
   ·rw[ew,O];exact ht
   ·rw[ew,O];rcases U with⟨rfl,e⟩ | ⟨rfl,e⟩<;>rw[e]<;>decide
  ·rw[if_neg k0];refine ch.at_ (i:=k - 1) (uH (by lia)) ?_
   rw[show k - 1 + 1=k by lia];exact uH hk
 ·rw[B,← e1]at hp;obtain⟨z,hz,rfl⟩:=I9.mp hp;unfold sC at hz;obtain⟨i,hi,rfl⟩:=I9.mp hz;have Y:i < N:=Ke.mp (JH.mp hi).1;rw[cT Y];exact low _ ((W.mem G).mpr ⟨i,rfl⟩)
theorem Ef (h:Seg C a b d):(d % 2=0→b.2=a.2∧b.1≠a.1)∧(d % 2=1→b.1=a.1∧b.2≠a.2):=by
 obtain⟨B,l,G,rfl,_⟩:=h;rcases de B with rfl|rfl|rfl|rfl<;>simp[go,ux,uy]<;>lia
end
theorem AS {l m:List Sq}(h:l.Nodup)(B:∀ x∈l,x∈m):l.length≤m.length:=@kM Sq (fun _ _=>Classical.propDecidable _) l m h B
theorem ze (B:LP9)(k:Nat)(h:k < B.length):ptR (B.map (·.1)) k=(dL B k).1:=by
 unfold ptR dL;rw[JL,Jy h];rfl
theorem El (h:Lnd L M W col)(hW:W≤2 ^ 50)(lG:(GL L M).length≤9000000)(hd:∀ k,k∈ys↔k∈fe L M)(hs:ys.Pairwise fun a b=>leP a.1 b.1):∀ ps∈(aK (DG L M) ys).1,RgP ps:=by
 have U:=mh h;obtain⟨ss,I⟩:=rgI U (fun k=>by rw[hd,bZ]) hs ys.length;rw[Kq]at I;intro ps G;rw[I.told]at G;obtain⟨s,J,rfl⟩:=I9.mp G;have ds:(DG L M s.1 s.2).isSome=true:=bZ.mp ((hd s).mp (I.from_ s J));obtain⟨B,ec,_,cy,_,_⟩:=B3 U ds (I.low s J);obtain⟨N,n1,n2,n3⟩:=nR h ds;have hP:Per (DG L M) s N:=⟨n1,n3⟩;have lc:(iD (cL (DG L M) s)).length≤N:=by
  rw[g_ hP];unfold iD iC;rw[I0];refine JA (Kj _ _) ?_;rw[K4,jT];exact I_ _
 have pt:∀ p∈iD (cL (DG L M) s),-(2 ^ 60) < p.1∧p.1 < 2 ^ 60∧-(2 ^ 60) < p.2∧p.2 < 2 ^ 60:=fun p hp=>by
  have Y:∃ z∈cL (DG L M) s,z.1=p:=by
   unfold iD iC at hp;obtain⟨i,hi,e⟩:=I9.mp hp;have il:=Ke.mp (JH.mp hi).1;exact⟨_,Jh (uH il),e⟩
  obtain⟨z,Y,rfl⟩:=Y;obtain⟨e,he⟩:=JG.mp (U.sym ds Y).1;obtain⟨h4,q,hq,be,hb,ea,_⟩:=rX he;obtain⟨b1,b2⟩:=h.bare hq h4 hb;have x1:=(b2 be.1 (KF _) b1).1;have x2:=(b2 (be.2 - 1) (by lia) (by lia)).2.1;obtain⟨i1,i2⟩:=h.inside q (h.sub q hq);rw[ea];rcases de h4 with e|e|e|e<;>rw[e]at x1 x2 ⊢<;>simp[bd,tlo,axd]at x1 x2 ⊢<;>lia
 refine⟨by lia,fun k O=>⟨pt _ ?_,?_⟩⟩
 ·unfold ptR;rw[Jy O];exact List.getElem_mem O
 ·have a0:(iD (cL (DG L M) s)).length=B.length:=by rw[ec,I0]
  rw[a0]at O ⊢;have lk:=(cy k O).1;have kp:prv B.length k < B.length:=by unfold prv;split<;>lia
  rw[ec,ze B k O,ze B _ kp];have so:=Ef lk;rcases Nat.mod_two_eq_zero_or_one (dL B (prv B.length k)).2 with e | e
  ·exact .inr (so.1 e).1.symm
  ·exact .inl (so.2 e).1.symm
section
variable {P:Pg9}{w:Wd9}{K:Frag}{mg:Mg9}{base:Heap}{CX:CXT}{f:Addr}{fd:Fd9}
abbrev mG:Stmt:=top 63
theorem dE:aE ["_law_script","_law_sheet_here","_law_told","_law_k","_law_cell","_law_start","_law_left","_law_top","_law_wide","_law_land_here","_law_many","_law_x","_law_y","_law_found","_law_places","_law_around"] ["_law_script"] (aq mG):={}
inductive Af  (K:Frag)(Tb:AS9)(vs:List V)(H:Hp)(Q:VK):Prop
 | mk (a:Addr) (ns:List Int) (h_0:vs=[.ref a]) (h_1:SqL K H a (ns.map V.int)) (h_2:ns.length≤63) (h_3:fT Tb H) (h_4:∀ H',Q (.bl true) H'):Af K Tb vs H Q
def BU  (K:Frag)(Tb:AS9):Sp:=fun vs H Q _=>Af K Tb vs H Q
theorem Gm (T:Tx K mg)(q:bW (CXe P w)){Tb:AS9}(F:bE K "law" "law" mG f fd .none)(O:Fok P w K mg base (CXe P w) 45 "_law_sheet" ["_law_script"] [] (mD K))(G:Fok P w K mg base (CXe P w) 42 "_law_leaves" ["_law_tree","_law_code_here"] [] (io 41))(a8:Fok P w K mg base (CXe P w) 1 "_law_at" ["_law_script","_law_k"] [] (iJ K))(J:Fok P w K mg base (CXe P w) 1 "_law_square" ["_law_code_here","_law_level"] [] ik)(a5:Fok P w K mg base (CXe P w) 2 "_law_land" ["_law_told","_law_level","_law_start"] [] oB)(a7:Fok P w K mg base (CXe P w) 2 "_law_rim" ["_law_land_here"] [] qu)(f3:Fok P w K mg base (CXe P w) 46 "rim" ["sheet","x","y"] [] xC)(d1:Fok P w K mg base (CXe P w) 50 "rings" ["sheet","x","y"] [] (mw P w Tb))(a6:Fok P w K mg base (CXe P w) 1 "_law_sums" ["_law_found"] [] oA)(U:Fok P w K mg base (CXe P w) 51 "_law_twice" ["_law_sheet_here","_law_place","_law_around","_law_many"] [] (mC Tb)):
  bF P w K mg base (CXe P w) 52 f fd ["_law_script"] (BU K Tb):=by
 refine F.ok dE (fun vs H Q E h =>?_) (fun m2 A outer s H vs Q E B h =>?_)
 ·obtain⟨_,_,rfl,_⟩:=h;rfl
 obtain⟨a,ns,rfl,hS,g6,j0,q'⟩:=h;refine⟨_,(ac (ao (i:=1) dE (aj O q B (aa (pv 0) af))) (ac (ao (i:=2) dE (aj G q B (aa (ay aD (pv 1) ae) (aa cG af)))) (ac (aR Jm rfl (bR rfl T.b_range (aa (ai aI ae (ai bq ae (bL fv rfl T.b_int eU (aa (eJ jD (az bC rfl T.b_len cW (aa (pv 2) af)) ae) af)))) af)) (aY (i:=3) dE) (ac (ao (i:=4) dE (ai aI (aj a8 q B (aa (pv 0) (aa (ai aI ae (pv 3)) af))) (ai bq ae (pv 3)))) (ac (ao (i:=5) dE (ay bK (pv 2) (ai aN (pv 4) (az bC rfl T.b_len cW (aa (pv 2) af))))) (ac (xU (aj J q B (aa (ay aD (pv 5) ae) (aa (ay aD (pv 1) ae) af))) (iz rfl (aW (aY (i:=6) dE) (aW (aY (i:=7) dE) (aW (aY (i:=8) dE) dC))))) (ac (ao (i:=9) dE (aj a5 q B (aa (pv 2) (aa (ay aD (pv 1) ae) (aa (pv 5) af))))) (ac (ao (i:=10) dE (aj a7 q B (aa (pv 9) af))) (ac (ao (i:=11) dE (ai aI (pv 6) (ai aN (ai aL (pv 4) ae) (pv 8)))) (ac (ao (i:=12) dE (ai aI (pv 7) (ai aN (ai aL (pv 4) ae) (pv 8)))) (ac (ao (i:=13) dE (aj f3 q B (aa (pv 1) (aa (pv 11) (aa (pv 12) af))))) (ac (bG (PW.pt (sZ (eI (eG (az (cV "int") rfl T.b_isinstance bv (aa (pv 13) (aa (gR T.b_int eU) af))))) (sZ (eG (az (cV "bool") rfl T.b_isinstance bv (aa (pv 13) (aa (gR T.b_bool Aa) af)))) (qH (aH qP (pv 13) (pv 10)))))) (ag (aB k_)) aO) (ac (ao (i:=14) dE (az (Bq rfl) rfl T.b_sum GV (aa (iM (N':=["_law_square_here"]) [] [] [] 1 {} (bO (pv 9)) (fun _ _ _ _ _=>(hJ (i:=0))) (fun _ _ _ _ _=>(ai bq (ay (kO (K:=K)) (pv 0) ae) (ay (kO (K:=K)) (pv 0) ae)))) af))) (ac (ao (i:=15) dE (aj d1 q B (aa (pv 1) (aa (pv 11) (aa (pv 12) af))))) (ac (bG (aH (uN B) (aj a6 q B (aa (pv 15) af)) (aF (av (ai bq ae (pv 14)) (av (pv 10) au)))) (ag (aB k_)) aO) (ag (bG (PW.pt (jV (aH fF (pv 3) ae) (jV (aH jD (az bC rfl T.b_len cW (aa (pv 2) af)) ae) (jV (aH jD (ay aD (pv 1) ae) ae) (pH (eI (eG (aj U q B (aa (pv 1) (aa (aF (av (pv 11) (av (pv 12) au))) (aa (pv 15) (aa (pv 10) af)))))))))))) (ag (aB k_)) aO))))))))))))))) (ag (aB k_))))),?_⟩
 refine⟨a,ns,rfl,hS,g6,fun v n t H1 s1 hv hn gt ct =>?_⟩;obtain⟨ps,x,rfl,g7,hx⟩:=hv;refine⟨ps,_,_,_,rfl,rfl,SqT.of g7,rfl,x,t,"",n,n,rfl,hx,gt,dO▸IsC.nil,by rw[show ("" : Str).length=0 by decide +kernel];simp,hn,by lia,by decide,by lia,fun lt us H2 s2 m3 u2 d4 =>?_⟩
 obtain⟨L,eL⟩:∃ L,L=sqs [] t 0 0 n:=⟨_,rfl⟩;have hB:L.Pairwise ff:=by rw[eL];exact dv t [] 0 0 n gt
 have lc:L.length=cnt t:=by rw[eL];exact eu t [] 0 0 n
 rw[iP,hZ t [] 0 0 n,← eL]at d4;have j1:=d4.len;rw[I0]at j1;have pL:0 < L.length:=by rw[lc];exact zY t
 have c9:=s1.trans s2;have b0:=c9.tabs j0;have j2:=c9.seq hS;have g8:=s2 _ _ g7;have j3:=hx.up s2.tups;have d5:∀ q∈L,q.x + q.w≤2 ^ n∧q.y + q.w≤2 ^ n∧0 < q.w:=fun q hq=>by
  rw[eL]at hq;obtain⟨_,h1,_,h2,h3⟩:=fh t [] 0 0 n gt q hq
  lia
 have j4:((2 ^ n:Nat):Int)≤2 ^ 50:=by
  have:2 ^ n≤2 ^ 50:=Kr (by decide) (by lia)
  exact_mod_cast this
 have g9:∀ b:Bool,(0:Int)≤1 + 2 * (if b then 1 else 0)∧(1:Int) + 2 * (if b then 1 else 0) < 4:=by
  intro b;cases b<;>decide
 have kS:∀ {H':Hp},cq Tb H2 H'→SqL K H' a (ns.map V.int):=fun st=>j2.upT st b0;have kp:∀ {H':Hp},cq Tb H2 H'→H' ps=some (.tup [.int (n:Int),x]):=fun st=>st.tups b0 _ _ g8;have kt:∀ {H':Hp},cq Tb H2 H'→bS H' x t:=fun st=>j3.up (st.tups b0);have kl:∀ {H':Hp},cq Tb H2 H'→H' lt=some (.lst us):=fun st=>st.keep b0 u2 (by intro ps z;cases z);have ku:∀ {H':Hp},cq Tb H2 H'→bA H' n us (L.map fun q=>(q.z,q.c)):=fun st=>d4.up (st.tups b0);refine⟨_,_,rfl,.inl ⟨_,SqL.of u2,rfl⟩,.inr ⟨_,rfl,.inl ⟨by decide,by decide⟩,_,rfl,L3 (by decide) (g9 _).1,Int.lt_trans (g9 _).2 (by decide),?_⟩⟩;refine bY (fun (j:Nat) σ H3=>cq Tb H2 H3∧fT Tb H3∧∃ o3 o4 o5 o6 o7 o8 o9 f4 f5 f6 f7 f8 f9:OW9,σ=[some (.ref a),some (.ref ps),some (.ref lt),o3,o4,o5,o6,o7,o8,o9,f4,f5,f6,f7,f8,f9]) ⟨cq.refl _,b0,_,_,_,_,_,_,_,_,_,_,_,_,_,rfl⟩ ?_ ?_
 rotate_left
 ·rintro σ H3 ⟨_,_,o3,o4,o5,o6,o7,o8,o9,f4,f5,f6,f7,f8,f9,rfl⟩;exact q' _
 rintro j σ H3 hj ⟨d0,j5,o3,o4,o5,o6,o7,o8,o9,f4,f5,f6,f7,f8,f9,rfl⟩;rw[show (0:Int) + (j:Int)=j from K9 _];refine⟨a,ns,11 + j,(by show [V.ref a,V.int (11 + (j:Int))]=[V.ref a,V.int ((11 + j:Nat):Int)];rw[show (11:Int) + (j:Int)=((11 + j:Nat):Int) by rfl]),kS d0,g6,.inl ⟨by decide,by decide⟩,cP ?_⟩;dsimp only;generalize cell ns (11 + j) + 3 * (j:Int)=ce;have h0:(0:Int) < (us.length:Int):=by lia
 obtain⟨q0,pa,z,d6,j6,e5,hz,ez,a1,a2,a3,a4⟩:∃ (q0:Sq) (pa:Addr) (z:Str),q0∈L∧atI us (ce % (us.length:Int))=some (.ref pa)∧(∀ {H':Hp},cq Tb H2 H'→H' pa=some (.tup [.str z,.int q0.c]))∧IsC z∧dig z=q0.z∧z.length≤n∧((sqX n (dig z):Nat):Int)=(q0.x:Int)∧((sqY n (dig z):Nat):Int)=(q0.y:Int)∧((2 ^ (n - z.length):Nat):Int)=(q0.w:Int):=by
  have h1:=K7 ce (show (us.length:Int)≠0 by lia);have h2:=KL ce h0;obtain⟨m,em⟩:∃ m:Nat,ce % (us.length:Int)=(m:Int):=⟨_,(Int.toNat_of_nonneg h1).symm⟩;rw[em]at h2 ⊢;have hm:m < us.length:=by lia
  obtain⟨q0,hq,p,z,e,hp,hz,ez,_⟩:=d4.get' (Jy hm);have h4:=Jh hq;obtain⟨b1,b2,b3,b4⟩:=FD gt (q:=q0) (by rw[← eL];exact h4) (z:=z) ez;exact⟨q0,p,z,h4,bV (by rw[Jy hm,e]),fun st=>st.tups b0 _ _ hp,hz,ez,b1,b2,b3,b4⟩
 have l9:=d5 q0 d6;refine⟨_,_,rfl,.inl ⟨_,SqL.of (kl d0),rfl⟩,h0,lt,_,_,.ref pa,rfl,rfl,SqL.of (kl d0),j6,?_⟩;refine⟨pa,_,_,_,rfl,rfl,SqT.of (e5 d0),rfl,ps,_,_,_,rfl,rfl,SqT.of (kp d0),rfl,z,n,rfl,hz,a1,hn,fun pq H4 s4 h5 =>?_⟩;rw[a2,a3,a4]at h5;have d2:=d0.trans s4.toT;have j7:=s4.tabs j5;refine⟨pq,_,rfl,SqT.of h5,rfl,_,_,rfl,_,_,rfl,_,_,rfl,rfl,?_⟩;refine⟨ps,_,_,_,rfl,rfl,SqT.of (kp d2),rfl,lt,pa,us,z,n,t,L,q0,rfl,kl d2,ku d2,e5 d2,hz,ez,eL,gt,hn,by lia,d6,fun ll M H5 s5 h6 fl =>?_⟩;have j8:=d2.trans s5.toT;have j9:=s5.tabs j7;have apart:∀ r∈M,∀ r'∈M,r=r'∨Sep r r'∨Sep r' r:=fun r B r' g0=>kT hB (fl.sub r B).1 (fl.sub r' g0).1;have k0:L.Nodup:=List.Pairwise.imp (fun h e=>h (Jz _ e)) (JN.mp (pB hB));have ok:LdK M:=⟨fun r B=>(d5 r (fl.sub r B).1).2.2,fl.nd,apart,by
  have:=AS fl.nd fun r B=>(fl.sub r B).1
  lia⟩
 have w0:(0:Int) < (q0.w:Int):=by lia
 obtain⟨x1,k1,h7⟩:∃ x1:Nat,(q0.x:Int) + ce / 3 % (q0.w:Int)=(x1:Int)∧q0.x≤x1∧x1 < q0.x + q0.w:=by
  have h1:=K7 (ce / 3) (show (q0.w:Int)≠0 by lia);have h2:=KL (ce / 3) w0;exact⟨((q0.x:Int) + ce / 3 % (q0.w:Int)).toNat,by lia,by lia,by lia⟩
 obtain⟨y1,k2,h8⟩:∃ y1:Nat,(q0.y:Int) + ce / 7 % (q0.w:Int)=(y1:Int)∧q0.y≤y1∧y1 < q0.y + q0.w:=by
  have h1:=K7 (ce / 7) (show (q0.w:Int)≠0 by lia);have h2:=KL (ce / 7) w0;exact⟨((q0.y:Int) + ce / 7 % (q0.w:Int)).toNat,by lia,by lia,by lia⟩
 obtain⟨uM,k3,pM⟩:=id h6;refine⟨ll,M,rfl,h6,ok,fun H6 s6 =>?_⟩;refine⟨cm (by decide) (by decide),w0,?_⟩;refine⟨cm (by decide) (by decide),w0,cP ?_⟩;dsimp only;rw[k1,k2];have g1:=j8.trans s6.toT;have k4:=s6.tabs j9;have hq0':q0∈sqs [] t 0 0 n:=by rw[← eL];exact d6
 have g2:q0.x≤x1∧x1 < q0.x + q0.w∧q0.y≤y1∧y1 < q0.y + q0.w:=⟨h7.1,h7.2,h8.1,h8.2⟩;refine⟨ps,n,x1,y1,x,t,q0,rfl,kp g1,kt g1,gt,hn,ct,hq0',g2,fun A7 m4 H7 C7 s7 =>?_⟩;have ml:∀ {A:List Nat→LN9} {zs:LN9},a_ (sqs [] t 0 0 n) A zs→(∀ r,r∈aJ (sqs [] t 0 0 n) A q0.z↔r∈M):=fun C r=>by
  rw[← eL]at C ⊢;exact (De fl (fun r B=>(d5 r B).2.2) d6 C r).symm
 have e7:dB (aJ (sqs [] t 0 0 n) A7 q0.z)=dB M:=mH (ft C7 hq0') fl.nd (ml C7);refine⟨_,_,_,rfl,.int _,C0,aA (fS ?_)⟩;refine⟨_,_,_,rfl,.int _,C3,aA (fS ?_)⟩;refine⟨rfl,aA (cz (fun c=>absurd e7 (qV c)) (fun _ =>?_))⟩;have h9:=s6.trans s7;have k5:=g1.trans s7.toT;have k6:=s7.tabs k4;have e6:=h9 _ _ k3;have k7:Paired (on H7) uM M:=Paired.mapP pM fun _ _ h=>h.up h9.tups;have m5:=Paired.length pM;have m0:=ok.len;have wB:∀ r∈M,-(2 ^ 64) < (r.w:Int)∧(r.w:Int) < 2 ^ 64:=fun r B=>by
  have:=d5 r (fl.sub r B).1
  lia
 refine⟨[],rfl,ll,rfl,⟨_,SqL.of e6⟩,gX uM (fun D (m:Nat) zs H'=>ak H7 H'∧H' D=some (.lst zs)∧m≤uM.length∧zs=((M.take m).map fun r=>(r.w:Int) * r.w).map V.int) (JA (by lia:uM.length≤2000) (by decide)) (fun D m zs H' h=>SqL.of (h.1 _ _ e6))
   (fun D m zs H' h=>⟨h.2.1,by rw[h.2.2.2];simp;lia⟩) (fun D hD=>⟨ak.new hD _,ah,Je _,rfl⟩) ?_ ?_ (fun x σ H' R R' k h=>k _ _ h) ?_⟩
 ·rintro D m u zs H8 hu hD ⟨s8,uD,hm,ez⟩;obtain⟨r,er,ar,rfl,k8⟩:=bB k7 hu;have e8:Bx H8 ar r:=s8 _ _ k8;refine⟨rfl,ar,_,_,_,rfl,rfl,SqT.of e8,rfl,ar,_,_,_,rfl,rfl,SqT.of e8,rfl,.inl (wB r (Jh er)),uD,ak.set s8 hD _,ah,(IZ.mp hu).1,?_⟩;rw[Jw,er,ez];simp
 rotate_left
 ·intro σ H' R R' k h_;obtain⟨_,a0,h_⟩:=aM h_;obtain⟨b1,b2,b3,b4,b5,b6,b7,b8,h_⟩:=h_;obtain⟨_,a1,h_⟩:=aM h_;obtain⟨c1,c2,c3,c4,c5,c6,c7,c8,h_⟩:=h_;obtain⟨_,_,e1,e2,e3,h⟩:=gh h_;exact aZ a0 ⟨b1,b2,b3,b4,b5,b6,b7,b8,aZ a1 ⟨c1,c2,c3,c4,c5,c6,c7,c8,nW e1 e2 ⟨e3,k _ _ h⟩⟩⟩
 rintro D m6 H8 hD ⟨s8,uD,_,ez⟩;rw[Ji (by lia)]at ez;subst ez;have g3:=k5.trans s8.toT;have k9:=s8.tabs k6;refine⟨D,_,rfl,SqL.of uD,?_⟩;refine⟨ps,n,x1,y1,x,t,q0,rfl,kp g3,kt g3,gt,hn,ct,hq0',g2,k9,fun A9 i0 i1 lf uf H9 C9 d7 l0 l1 l2 m7 i2 l3 l4 =>?_⟩;have d8:=(nZ gt C9 hq0').1;have d9:=ft C9 hq0';have i3:∀ r∈aJ (sqs [] t 0 0 n) A9 q0.z,∀ r'∈aJ (sqs [] t 0 0 n) A9 q0.z,r=r'∨Sep r r'∨Sep r' r:=fun r B r' g0=>apart r ((ml C9 r).mp B) r' ((ml C9 r').mp g0);have ndL':(sqs [] t 0 0 n).Nodup:=by rw[← eL];exact k0
 have e0:=uv l0;have f1:=Ax d8 ndL' d9 i3 d7 e0;have f2:=Aw d8 ndL' d9 i3 d7 e0;have e9:dB (aJ (sqs [] t 0 0 n) A9 q0.z)=dB M:=mH d9 fl.nd (ml C9);have a9:((aJ (sqs [] t 0 0 n) A9 q0.z).map fun r=>(r.w:Int) * r.w).sum=(M.map fun r=>(r.w:Int) * r.w).sum:=@kr Sq (fun _ _=>Classical.propDecidable _) _ _ _ d9 fl.nd (fun r B=>(ml C9 r).mp B) fun r B hn=>absurd ((ml C9 r).mpr B) hn;rw[a9]at f1;rw[e9]at f2;have z9:q0.z∈i0:=by rw[C9.ez];exact I9.mpr ⟨q0,hq0',rfl⟩
 have lG:(GL (sqs [] t 0 0 n) (aJ (sqs [] t 0 0 n) A9 q0.z)).length≤9000000:=by
  have h1:=vI (L:=sqs [] t 0 0 n) (M:=aJ (sqs [] t 0 0 n) A9 q0.z) d8.sub;have lM:(aJ (sqs [] t 0 0 n) A9 q0.z).length≤1500:=by
   unfold aJ;rw[I0];exact JA (C9.bi z9).len C9.len
  rw[eL]at lc;have h2:(aJ (sqs [] t 0 0 n) A9 q0.z).length * (4 * (sqs [] t 0 0 n).length)≤1500 * (4 * 1500):=KY lM (by lia)
  lia
 have rP:=El d8 j4 lG d7 e0;have hR9':Paired (mf H9) uf (aK (DG (sqs [] t 0 0 n) (aJ (sqs [] t 0 0 n) A9 q0.z)) i1).1:=Paired.mapP l3 fun _ _ h=>h.weak;refine⟨lf,uf,_,rfl,i2,hR9',rP,fun pt i4 g4 i5 =>?_⟩;rw[f1,f2]at i5;have i6:=(g3.trans l1).trans g4.toT;have i7:=g4.tabs l2;refine⟨.inl ⟨by decide,by decide⟩,(leZ rfl),fun pu l5 =>?_⟩;have e4:=ak.new l5 (.tup [.int (2 * (M.map fun r=>(r.w:Int) * r.w).sum),.int (dB M)]);have l6:upd i4 pu (.tup [.int (2 * (M.map fun r=>(r.w:Int) * r.w).sum),.int (dB M)]) pu=some (.tup [.int (2 * (M.map fun r=>(r.w:Int) * r.w).sum),.int (dB M)]):=ah;dsimp only;generalize upd i4 pu (.tup [.int (2 * (M.map fun r=>(r.w:Int) * r.w).sum),.int (dB M)])=m8 at *;have g5:SeqAt.shaped (.tuple [.int (2 * (M.map fun r=>(r.w:Int) * r.w).sum),.int (dB M)])=true:=rfl;refine⟨_,_,.tup (e4 _ _ i5) (.cons (.int _) (.cons (.int _) .nil)),.tup l6 (.cons (.int _) (.cons (.int _) .nil)),g5,g5,aA (cz (fun c =>?_) (fun _ =>?_))⟩
 ·have c':(!PyData.eqv (.tuple [.int (2 * (M.map fun r=>(r.w:Int) * r.w).sum),.int (dB M)]) (.tuple [.int (2 * (M.map fun r=>(r.w:Int) * r.w).sum),.int (dB M)]))=true:=c;rw[SeqAt.eqv_refl _ (SeqAt.canLay_of_shaped g5)]at c';cases c'
 have Y:=i6.trans e4.toT;have b9:=e4.tabs i7;refine⟨rfl,aA (cz (fun c0 =>?_) (fun _=>fS ⟨Y,b9,_,_,_,_,_,_,_,_,_,_,_,_,_,rfl⟩))⟩;refine⟨_,_,rfl,.inl ⟨_,SqL.of (kl Y),rfl⟩,cP (aA (cz (fun c1 =>?_) (fun _=>fS ⟨Y,b9,_,_,_,_,_,_,_,_,_,_,_,_,_,rfl⟩)))⟩;refine⟨ps,_,_,_,rfl,rfl,SqT.of (kp Y),rfl,cP (aA (cz (fun c2 =>?_) (fun _=>fS ⟨Y,b9,_,_,_,_,_,_,_,_,_,_,_,_,_,rfl⟩)))⟩;have m9:(n:Int) < 40:=JB c2;refine⟨(leZ rfl),nw fun l7 n0 m1 c9 l8 =>?_⟩;have d3:=Y.trans c9.toT;have f0:=g4.trans (e4.trans c9);refine⟨ps,l7,lf,n,x1,y1,x,t,q0,uf,A9,i0,i1,(by rw[e9];rfl),kp d3,kt d3,gt,by lia,ct,l8,hq0',g2,C9,d7,e0,f0 _ _ i2,Paired.mapP hR9' fun _ _ h=>h.up f0,l4,rP,c9.tabs b9,fun n1 i8 i9=>(aA (fS ⟨d3.trans i8,i9,_,_,_,_,_,_,_,_,_,_,_,_,_,rfl⟩))⟩
end
theorem kd4 {P:Pg9}{w:Wd9}{K:Frag}{aC B G p2 J:Addr}{O U Y a0:Tok}{nC:Nat}(y:K.lookup aC=some ⟨.type "dict",none,.dict #[⟨PyData.keyHash w.params "up",.str "up" O,.ref B⟩,⟨PyData.keyHash w.params "right",.str "right" U,.ref G⟩,⟨PyData.keyHash w.params "down",.str "down" Y,.ref p2⟩,⟨PyData.keyHash w.params "left",.str "left" a0,.ref J⟩] nC,#[]⟩):
  KD P w K aC [(.inr "up",.ref B),(.inr "right",.ref G),(.inr "down",.ref p2),(.inr "left",.ref J)]:=by
 refine⟨_,[(.inr "up",.ref B),(.inr "right",.ref G),(.inr "down",.ref p2),(.inr "left",.ref J)],y,.cons ⟨rfl,rfl⟩ (.cons ⟨rfl,rfl⟩ (.cons ⟨rfl,rfl⟩ (.cons ⟨rfl,rfl⟩ .nil))),_,_,⟨rfl,rfl,rfl⟩,rfl,fun e he =>?_,.cons (gU ⟨_,rfl⟩) rfl (.cons (gU ⟨_,rfl⟩) rfl (.cons (gU ⟨_,rfl⟩) rfl (.cons (gU ⟨_,rfl⟩) rfl .nil))),(by show ([.inr "up",.inr "right",.inr "down",.inr "left"]:List Key).Nodup;decide +kernel)⟩
 simp only[List.mem_toArray,Jr,Lk,or_false]at he;rcases he with rfl | rfl | rfl | rfl
 ·exact⟨.inr "up",gU ⟨_,rfl⟩,rfl⟩
 ·exact⟨.inr "right",gU ⟨_,rfl⟩,rfl⟩
 ·exact⟨.inr "down",gU ⟨_,rfl⟩,rfl⟩
 ·exact⟨.inr "left",gU ⟨_,rfl⟩,rfl⟩
theorem lE {us:LV9}{n:Nat}(h:us.length=n + 1):∃ a t,us=a::t∧t.length=n:=by
 cases us with
 | nil=>cases h
 | cons a t=>exact⟨a,t,rfl,Nat.succ.inj h⟩
theorem HE {us:LV9}(h:us.length=1):∃ a,us=[a]:=by
 obtain⟨a,G,B,h⟩:=lE h;have e:=JP h;subst e;subst B;exact⟨a,rfl⟩
theorem FI {us:LV9}(h:us.length=2):∃ a b,us=[a,b]:=by
 obtain⟨a,J,B,h⟩:=lE h;obtain⟨b,O,G,h⟩:=lE h;have e:=JP h;subst e;subst G;subst B;exact⟨a,b,rfl⟩
theorem FH {us:LV9}(h:us.length=3):∃ a b c,us=[a,b,c]:=by
 obtain⟨a,O,B,h⟩:=lE h;obtain⟨b,U,G,h⟩:=lE h;obtain⟨c,Y,J,h⟩:=lE h;have e:=JP h;subst e;subst J;subst G;subst B;exact⟨a,b,c,rfl⟩
theorem HD {us:LV9}(h:us.length=4):∃ a b c d,us=[a,b,c,d]:=by
 obtain⟨a,U,B,h⟩:=lE h;obtain⟨b,Y,G,h⟩:=lE h;obtain⟨c,u2,J,h⟩:=lE h;obtain⟨d,u3,O,h⟩:=lE h;have e:=JP h;subst e;subst O;subst J;subst G;subst B;exact⟨a,b,c,d,rfl⟩
theorem IG {us:LV9}{d:Value}(h:(us++[d]).length=2):∃ a,us=[a]:=by
 match us,h with
 | [a],_=>exact⟨a,rfl⟩
 | [],h=>simp at h
 | _::_::_,h=>simp at h
structure Df (K:Frag)(x:Str)(st:Stmt)(f:Addr)(fd:Fd9):Prop where
 F:bE K x x st f fd .none
 a:nsIn K mainGlobals x=some (some (.ref f))
theorem df {K:Frag}{x:Str}{st:Stmt}{f:Addr}{U:Value}{od J:Option Addr}{G:Array (OV9)}{kV doc O B ct:Value}(a:nsIn K mainGlobals x=some (some (.ref f)))(l:K.lookup f=some ⟨U,od,.func (fnOf x x (cD st) (bU st) (aq st) .none kV doc O J B ct),G⟩)
  (c:codeIn K B x=true) (k:keepIn K (.ref f)=true):Df K x st f (fnOf x x (cD st) (bU st) (aq st) .none kV doc O J B ct):=⟨pV l c k,a⟩
theorem bd1 {K:Frag}{x q:Str}{st:Stmt}{f:Addr}{fd:Fd9}{G:Value}{J:Str}(F:bE K x q st f fd G)(h:∀ (kV doc O:Value) (U:Option Addr) (B ct:Value) (a:Value),bindArgs (fnOf x q (cD st) (bU st) (aq st) G kV doc O U B ct) ⟨[a],[]⟩=pure [(J,a)]:=by intros;rfl):fg K fd [J] []:=F.binds fun _ _ _ _ _ _ us Y=>by
 obtain⟨a,rfl⟩:=HE Y;exact h _ _ _ _ _ _ _ 
theorem bd2 {K:Frag}{x q:Str}{st:Stmt}{f:Addr}{fd:Fd9}{G:Value}{J O:Str}(F:bE K x q st f fd G)(h:∀ (kV doc U:Value) (Y:Option Addr) (B ct:Value) (a b:Value),bindArgs (fnOf x q (cD st) (bU st) (aq st) G kV doc U Y B ct) ⟨[a,b],[]⟩=pure [(J,a),(O,b)]:=by intros;rfl):fg K fd [J,O] []:=F.binds fun _ _ _ _ _ _ us hl=>by
 obtain⟨a,b,rfl⟩:=FI hl;exact h _ _ _ _ _ _ _ _ 
theorem bd3 {K:Frag}{x q:Str}{st:Stmt}{f:Addr}{fd:Fd9}{G:Value}{J O p2:Str}(F:bE K x q st f fd G)(h:∀ (kV doc U:Value) (Y:Option Addr) (B ct:Value) (a b c:Value),bindArgs (fnOf x q (cD st) (bU st) (aq st) G kV doc U Y B ct) ⟨[a,b,c],[]⟩=pure [(J,a),(O,b),(p2,c)]:=by intros;rfl):fg K fd [J,O,p2] []:=F.binds fun _ _ _ _ _ _ us hl=>by
 obtain⟨a,b,c,rfl⟩:=FH hl;exact h _ _ _ _ _ _ _ _ _ 
theorem bd4 {K:Frag}{x q:Str}{st:Stmt}{f:Addr}{fd:Fd9}{G:Value}{J O p2 U:Str}(F:bE K x q st f fd G)(h:∀ (kV doc Y:Value) (an:Option Addr) (B ct:Value) (a b c d:Value),bindArgs (fnOf x q (cD st) (bU st) (aq st) G kV doc Y an B ct) ⟨[a,b,c,d],[]⟩=pure [(J,a),(O,b),(p2,c),(U,d)]:=by intros;rfl):fg K fd [J,O,p2,U] []:=F.binds fun _ _ _ _ _ _ us hl=>by
 obtain⟨a,b,c,d,rfl⟩:=HD hl;exact h _ _ _ _ _ _ _ _ _ _ 
theorem GZ {l:PySem.W.OpenLaw}{w:Wd9}{K:Frag}{h:Heap}{mg:Mg9}{fa f0 f1 f2 f3 f4 f5 f6 f7 f8 f9 q8 q9 r4 r5 r6 r7 r8 r9 s0 s1 s2 s3 s4 s5 s6 s7 s8 s9 m0 t0 t1 t2 t3 t4 t5 t6 t7 t8 t9 u8 u9 v0 v1 v2 v3 v4 m1:Addr}{g0 g1 g2 g3 g4 g5 g6 g8 g9 v5 v6 v7 v8 v9 w0 w1 w2 w3 w4 w5 w6 w7 w8 w9 x0 x1 x2 x3 x4 x7 g32 g33 g34 g35 g36 g37 g38 g39 g40 g41 g42 g43 g44 g45:Fd9}(X:K.In h)(G:h.Ns mainGlobals mg)(hfa:mg "law" = some (.ref fa))
  {od7 an7 n2 n3 n4 l3:Option Addr} {sl7 n5 n6:Array (OV9)} {oc7 kV7 dc7 pm7 n7 ct7 n8 n9 o1 o2 h6 o3 o4 l4 l5 l6 h7 l8:Value}
  {o5:Addr} {do7:Option Addr} {dn7:Nat} {o6:Array (OV9)} {o7:Tok}
  (m2:Df K "is_side" nM f0 g0)
  (m3:Df K "is_code" nN f1 g1)
  (m4:Df K "need_code" jQ f2 g2)
  (m5:Df K "need_side" jP f3 g3)
  (m6:Df K "beside" qD f4 g4)
  (m7:Df K "is_whole" lX f5 g5)
  (m8:Df K "is_level" lY f6 g6)
  (a7:nsIn K mainGlobals "need_level" = some (some (.ref f7))) (l7:K.lookup f7=some ⟨oc7,od7,.func (fnOf "need_level" "need_level" (cD dA) (bU dA) (aq dA) (.ref o5) kV7 dc7 pm7 an7 n7 ct7),sl7⟩) (c7:codeIn K n7 "need_level" = true) (k7:keepIn K (.ref f7)=true)
  (d7:K.lookup o5=some ⟨.type "tuple",do7,.seq #[.int 0 o7] dn7,o6⟩)
  (m9:Df K "width_of" lS f8 g8)
  (n0:Df K "need_place" je f9 g9)
  (h8:Df K "code_at" nO q8 v5)
  (h9:Df K "corner" qB q9 v6)
  (i0:Df K "overlap" nH r4 v7)
  (i1:Df K "common" qC r5 v8)
  (e2:Df K "leaves_below" gL r6 v9)
  (i2:Df K "leaves" qz r7 w0)
  (e3:Df K "leaves_along" gM r8 w1)
  (i3:Df K "beyond_leaf" iw r9 w2)
  (i4:Df K "touches" nG s0 w3)
  (i5:Df K "leaf_at" nI s1 w4)
  (i6:Df K "alike_around" gP s2 w5)
  (i7:Df K "members_from" gK s3 w6)
  (i8:Df K "rim" BX s4 w7)
  (i9:Df K "bare_parts" jj s5 w8)
  (j0:Df K "ends_of_part" gO s6 w9)
  (j1:Df K "pieces_round" gI s7 x0)
  (j2:Df K "piece_behind" gJ s8 x1)
  (j3:Df K "ring_from" jO s9 x2)
  (a28:nsIn K mainGlobals "rings" = some (some (.ref m0))) (o8:K.lookup m0=some ⟨n8,n2,.func (fnOf "rings" "rings" (cD i_) (bU i_) (aq i_) .none n9 o1 o2 n3 h6 o3),n5⟩) (o9:codeIn K h6 "rings" = true) (k28:keepIn K (.ref m0)=true)
  (j4:Df K "_law_at" qA t0 x3)
  (j5:Df K "_law_code" lW t1 x4)
  (j6:Df K "_law_colour" ji t2 x7)
  (j7:Df K "_law_paints" jg t3 g32)
  (j8:Df K "_law_tree_of" ir t4 g33)
  (e4:Df K "_law_tree_by" iu t5 g34)
  (j9:Df K "_law_grid" lV t6 g35)
  (k0:Df K "_law_tree_of_rows" dY t7 g36)
  (k1:Df K "_law_sheet_by_digits" dh t8 g37)
  (k2:Df K "_law_sheet" jS t9 g38)
  (e5:Df K "_law_leaves" jh u8 g39)
  (k3:Df K "_law_square" jf u9 g40)
  (k4:Df K "_law_met" nK v0 g41)
  (k5:Df K "_law_land" lU v1 g42)
  (k6:Df K "_law_rim" nJ v2 g43)
  (k8:Df K "_law_sums" lT v3 g44)
  (k9:Df K "_law_twice" jR v4 g45)
  (a46:nsIn K mainGlobals "law" = some (some (.ref m1))) (l46:K.lookup m1=some ⟨o4,n4,.func (fnOf "law" "law" (cD mG) (bU mG) (aq mG) .none l4 l5 l6 l3 h7 l8),n6⟩) (c46:codeIn K h7 "law" = true) (k46:keepIn K (.ref m1)=true)
  (z0:nsIn K mainGlobals "isinstance" = some none)
  (z1:nsIn K mainGlobals "int" = some none)
  (z2:nsIn K mainGlobals "bool" = some none)
  {zt3:Tok} (z3:nsIn K mainGlobals "MOST" = some (some (.int 40 zt3)))
  (z4:nsIn K mainGlobals "all" = some none)
  (z5:nsIn K mainGlobals "str" = some none)
  (z6:nsIn K mainGlobals "len" = some none)
  {zt7:Tok} (z7:nsIn K mainGlobals "QUARTERS" = some (some (.str "0123" zt7)))
  (z8:nsIn K mainGlobals "range" = some none)
  (z9:nsIn K mainGlobals "min" = some none)
  (z10:nsIn K mainGlobals "max" = some none)
  (z11:nsIn K mainGlobals "tuple" = some none)
  (z12:nsIn K mainGlobals "sorted" = some none)
  (z13:nsIn K mainGlobals "dict" = some none)
  (z14:nsIn K mainGlobals "enumerate" = some none)
  (z15:nsIn K mainGlobals "abs" = some none)
  (z16:nsIn K mainGlobals "sum" = some none)
  {aS aC p0 p1 p2 p3:Addr} {oS r0 r1 r2 r3:Option Addr} {ts0 ts1 ts2 ts3 dk0 dk1 dk2 dk3:Tok} {nC nS:Nat} {slS:Array (OV9)}
  (u0:nsIn K mainGlobals "SIDES" = some (some (.ref aS))) (u1:K.lookup aS=some ⟨.type "tuple",oS,.seq #[.str "up" ts0,.str "right" ts1,.str "down" ts2,.str "left" ts3] nS,slS⟩)
  (u2:nsIn K mainGlobals "CROSSINGS" = some (some (.ref aC))) (u3:K.lookup aC=some ⟨.type "dict",none,.dict #[⟨PyData.keyHash w.params "up",.str "up" dk0,.ref p0⟩,⟨PyData.keyHash w.params "right",.str "right" dk1,.ref p1⟩,⟨PyData.keyHash w.params "down",.str "down" dk2,.ref p2⟩,⟨PyData.keyHash w.params "left",.str "left" dk3,.ref p3⟩] nC,#[]⟩)
  {ta0 tb0:Tok} {nn0:Nat} {sk0:Array (OV9)} (u4:K.lookup p0=some ⟨.type "tuple",r0,.seq #[.str "2301" ta0,.str "23" tb0] nn0,sk0⟩)
  {ta1 tb1:Tok} {nn1:Nat} {sk1:Array (OV9)} (u5:K.lookup p1=some ⟨.type "tuple",r1,.seq #[.str "1032" ta1,.str "02" tb1] nn1,sk1⟩)
  {ta2 tb2:Tok} {nn2:Nat} {sk2:Array (OV9)} (u6:K.lookup p2=some ⟨.type "tuple",r2,.seq #[.str "2301" ta2,.str "01" tb2] nn2,sk2⟩)
  {ta3 tb3:Tok} {nn3:Nat} {sk3:Array (OV9)} (u7:K.lookup p3=some ⟨.type "tuple",r3,.seq #[.str "1032" ta3,.str "13" tb3] nn3,sk3⟩)
  {B a1:Addr}
  (y0:nsIn K mainGlobals "NoSide" = some (some (.ref B)))
  (y1:nsIn K mainGlobals "SheetError" = some (some (.ref a1)))
  (y2:excIn K B bmV "ValueError.__new__" = true)
  (y3:findIn K (.ref B) "__getattribute__" = some (some (.builtin "BaseException.__getattribute__")))
  (y4:findIn K (.ref B) "__getattr__" = some none)
  (y5:findIn K (.ref B) "__class__" = some (some (.builtin "object.__class__")))
  (y6:subIn K (.ref B) (.type "object")=some true)
  (y7:subIn K (.ref B) (.type "BaseException")=some true)
  {h2:ClassData}
  (y8:PySem.W.clsIn K B=some h2)
  (y9:PySem.W.exmOne K (.ref B) (.ref a1)=some true)
  (y10:kitOne K (.ref B) (.type "ValueError")=some true)
  {ts:List Addr} {c5 l0:Addr} {p4:Value} {p5:Option Addr} {l9:Array Value} {p6:Array (OV9)}
  (p7:h6=.ref l0) (p8:K.lookup l0=some ⟨p4,p5,.fields l9,p6⟩) (p9:l9[11]? = some (.ref c5)) (q4:PySem.W.codeHdIn K l0 c5=true) (n28:K.lookup c5=none) (m28:c5∈ts)
  (nd:([c5]:List Addr).Nodup)
  : ∃ (fd:Fd9) (Ps:List Addr) (sp:Sp),(∀ (s:Sh9) (v:Value),BindsTo s fd ⟨[v],[]⟩ [("_law_script",v)])∧(∀ Pt∈Ps,Pt∈ts∧K.lookup Pt=none∧∃ c,PySem.W.CodeHd h c Pt) ∧
   (∀ base:Heap,K.In base→base.Ns mainGlobals mg→nA mg base→bF l.prog w K mg base (CXe l.prog w) 52 fa fd ["_law_script"] sp) ∧
   ∀ (H:Hp) (a:Addr) (ns:List Int),ns.length≤63→(∀ Pt∈Ps,H Pt=some (.tbl #[]))→SqL K H a (ns.map V.int)→sp [.ref a] H (fun v _=>v=.bl true) fun _ _ _=>False:=by
 have e:=hfa.symm.trans (mg_of X G a46);cases e;have T:Tx K mg:=⟨mg_none_of X G z0,mg_none_of X G z1,mg_none_of X G z2,⟨_,mg_of X G z3⟩,mg_none_of X G z4,mg_none_of X G z5,mg_none_of X G z6,⟨_,mg_of X G z7⟩,mg_none_of X G z8,mg_none_of X G z9,mg_none_of X G z10,mg_none_of X G z11,mg_none_of X G z12,mg_none_of X G z13,mg_none_of X G z14,mg_none_of X G z15,mg_none_of X G z16⟩;have U:Ty l.prog w K mg:=⟨⟨aS,mg_of X G u0,_,_,_,u1,rfl,rfl,(by show 4≤sizeLine;decide),.cons ⟨_,rfl⟩ (.cons ⟨_,rfl⟩ (.cons ⟨_,rfl⟩ (.cons ⟨_,rfl⟩ .nil)))⟩,aC,p0,p1,p2,p3,mg_of X G u2,kd4 u3,⟨_,_,_,u4,rfl,rfl,(by show 2≤sizeLine;decide),.cons ⟨_,rfl⟩ (.cons ⟨_,rfl⟩ .nil)⟩,⟨_,_,_,u5,rfl,rfl,(by show 2≤sizeLine;decide),.cons ⟨_,rfl⟩ (.cons ⟨_,rfl⟩ .nil)⟩,⟨_,_,_,u6,rfl,rfl,(by show 2≤sizeLine;decide),.cons ⟨_,rfl⟩ (.cons ⟨_,rfl⟩ .nil)⟩,⟨_,_,_,u7,rfl,rfl,(by show 2≤sizeLine;decide),.cons ⟨_,rfl⟩ (.cons ⟨_,rfl⟩ .nil)⟩⟩;have Y:Yx K mg:=⟨B,a1,mg_of X G y0,mg_of X G y1,⟨mg_of X G y0,y2⟩,⟨y3,y4,y5,y6,y7,by rw[y8];rfl⟩,y9,y10⟩;have F7:=pV (st:=dA) l7 c7 k7;have q5:=pV (st:=i_) o8 o9 k28;have F46:=pV (st:=mG) l46 c46 k46;have b7:=F7.bindsD (ps:=["level","least"]) (ds:=[]) d7 rfl fun _ _ _ _ _ _ us hl=>by obtain⟨a,b,rfl⟩:=FI ((Jz List.length (J_ us)).symm.trans hl);exact⟨_,rfl,rfl⟩
 have bd7:=F7.bindsD (ps:=["level","least"]) (ds:=[.int 0 o7]) d7 rfl fun _ _ _ _ _ _ us hl=>by obtain⟨a,rfl⟩:=IG hl;exact⟨_,rfl,rfl⟩
 have b28:=q5.binds (ps:=["sheet","x","y"]) fun _ _ _ _ _ _ us hl=>by obtain⟨a,b,c,rfl⟩:=FH hl;exact rfl
 have q6:=BL p7 p8 p9 q4;have q7:=E8 (st:=i_) o8 o9 q6;obtain⟨Tb,n1⟩:∃ Tb:AS9,Tb=[(c5,xS)]:=⟨_,rfl⟩;have hnd:(Tb.map (·.1)).Nodup:=by rw[n1];exact nd
 have h3:(c5,xS)∈Tb:=by rw[n1];simp
 refine⟨fnOf "law" "law" (cD mG) (bU mG) (aq mG) .none l4 l5 l6 l3 h7 l8,Tb.map (·.1),BU K Tb,fun s v=>.of_eq rfl,fun Pt l2 =>?_,fun base KXb _ hB =>?_,fun H a ns hl hO hS=>⟨a,ns,rfl,hS,hl,fT.start hO,fun _=>rfl⟩⟩
 ·rw[n1]at l2;have l2:=Jc.mp l2;subst l2;exact⟨m28,n28,(vR X q6).elim fun c h=>⟨c,h.2⟩⟩
 have O:∀ {x st f fd j ps sp},Df K x st f fd→bF l.prog w K mg base (CXe l.prog w) j f fd ps sp→fg K fd ps []→Fok l.prog w K mg base (CXe l.prog w) j x ps [] sp:=fun d o b=>fok d.F o b (mg_of X G d.a);have e8:=O m2 (yb T U m2.F) (bd1 m2.F);have e9:=O m3 (wI T m3.F) (bd1 m3.F);have a2:=O m4 (uT T bj m4.F e9) (bd1 m4.F);have d5:=O m5 (uR T Y bj m5.F e8) (bd1 m5.F);have h4:=O m6 (AQ T Y U bj m6.F a2 d5) (bd2 m6.F);have b5:=O m7 (ww T m7.F) (bd1 m7.F);have b6:=O m8 (wx T bj m8.F b5) (bd1 m8.F);have d0:Fok l.prog w K mg base (CXe l.prog w) 3 "need_level" ["level","least"] [] (dI):=fok F7 (lj T bj F7 b6) b7 (mg_of X G a7)
 have b9:Fok l.prog w K mg base (CXe l.prog w) 3 "need_level" ["level","least"] [.int 0] (dI):=IP F7 (lj T bj F7 b6) bd7 (.cons ⟨_,rfl⟩ .nil) (mg_of X G a7)
 have a9:=O m9 (wp T m9.F) (bd1 m9.F);have d1:=O n0 (sf T bj n0.F a9 b5) (bd3 n0.F);have g7:=O h8 (yc T bj h8.F b9 d1) (bd3 h8.F);have b3:=O h9 (AN T bj h9.F a2 d0 a9) (bd2 h9.F);have h0:=O i0 (x6 T i0.F) (bd4 i0.F);have h5:=O i1 (AO T bj i1.F a2 b3 h0) (bd3 i1.F);have c0:=O e2 (jE T bj e2.F (bd2 e2.F) (mg_of X G e2.a) 41) (bd2 e2.F);have b4:=O i2 (AL T bj i2.F c0) (bd1 i2.F);have c1:=O e3 (jF T bj e3.F (bd3 e3.F) (mg_of X G e3.a) 41) (bd3 e3.F);have b0:=O i3 (qT T Y U bj i3.F h4 c1) (bd3 i3.F);have h1:=O i4 (x5 T Y bj i4.F b4 b0) (bd1 i4.F);have c6:=O i5 (x8 T bj i5.F g7) (bd3 i5.F);have a4:=O i6 (o0 T bj i6.F b4 h1) (bd1 i6.F);have a5:=O i7 (oY T i7.F) (bd2 i7.F);have l1:=O i8 (Gk T bj i8.F a9 h5 c6 a4 a5) (bd3 i8.F);have d2:=O i9 (sr T Y U bj i9.F b3 b0) (bd4 i9.F);have c2:=O j0 (oZ T j0.F) (bd4 j0.F);have c3:=O j1 (oW T bj j1.F b4 b3 d2 c2) (bd2 j1.F);have c4:=O j2 (oX T j2.F) (bd2 j2.F);have d6:=O j3 (uQ T bj j3.F c4) (bd2 j3.F);have e6:Fok l.prog w K mg base (CXe l.prog w) 50 "rings" ["sheet","x","y"] [] (mw l.prog w Tb):=fok q5 (CF T bj q7 KXb hB h3 hnd c6 a4 a5 c3 d6) b28 (mg_of X G a28)
 have a3:=O j4 (AM T j4.F) (bd2 j4.F);have d8:=O j5 (wv T j5.F) (bd2 j5.F);have b1:=O j6 (sk T j6.F) (bd1 j6.F);have c8:=O j7 (sj T bj j7.F a3 d8 b1) (bd4 j7.F);have a6:=O j8 (qS T j8.F) (bd4 j8.F);have a8:=O e4 (jZ T bj e4.F a6 (bd1 e4.F) (mg_of X G e4.a) 41) (bd1 e4.F);have d9:=O j9 (wu T bj j9.F a3) (bd3 j9.F);have J:=O k0 (kU T bj k0.F a6) (bd1 k0.F);have a0:=O k1 (jm T bj k1.F J a8) (bd1 k1.F);have d3:=O k2 (uV T bj k2.F a3 a0 J d9 c8 b1 a8) (bd1 k2.F);have c9:=O e5 (lv T bj e5.F (bd2 e5.F) (mg_of X G e5.a) 41) (bd2 e5.F);have b2:=O k3 (si T k3.F) (bd2 k3.F);have b8:=O k4 (x_ T k4.F) (bd2 k4.F);have e0:=O k5 (wt T bj k5.F b2 b8) (bd3 k5.F);have e7:=O k6 (x9 T bj k6.F b8) (bd1 k6.F);have e1:=O k8 (wq T k8.F) (bd1 k8.F);have d4:=O k9 (uU T bj k9.F l1 e6) (bd4 k9.F);exact Gm T bj F46 d3 c9 a3 b2 e0 e7 l1 e6 e1 d4
theorem Im {l:PySem.W.OpenLaw}{q:Pg9}{B:List Str}{Y:(Mg9)→Heap→Prop}{G:Wd9→Heap→Prop}{d:DefRec}{K:Params→Frag}{ts:List Addr}(hn:l.most=some 63)(J:d.params.defaults=[])
  (hY:∀ (w:Wd9) (h:Heap),G w h→(K w.params).In h) (hT:∀ (w:Wd9) (h:Heap),G w h→∀ P∈ts,h.get? P=some (PySem.W.tabObj #[]))
  (F:∀ (w:Wd9) (mg:Mg9) (O:Addr) (h:Heap),(K w.params).In h→h.Ns mainGlobals mg→mg d.name=some (.ref O) →
   ∃ (fd:Fd9) (Ps:List Addr) (sp:Sp),(∀ (s:Sh9) (u:Value),BindsTo s fd ⟨[u],[]⟩ [("_law_script",u)])∧(∀ Pt∈Ps,Pt∈ts∧(K w.params).lookup Pt=none∧∃ c,PySem.W.CodeHd h c Pt) ∧
    (∀ base:Heap,(K w.params).In base→base.Ns mainGlobals mg→nA mg base→bF l.prog w (K w.params) mg base (CXe l.prog w) 52 O fd ["_law_script"] sp) ∧
    ∀ (H:Hp) (a:Addr) (U:List Int),U.length≤63→(∀ P∈Ps,H P=some (.tbl #[]))→SqL (K w.params) H a (U.map V.int)→sp [.ref a] H (fun v _=>v=.bl true) fun _ _ _=>False) :
  PySem.W.WalkO q B Y G l.row.toRowW d [] (fun f vs=>PySem.call f vs) :=
 L2.BC (n:=63) (k:=52) (x := "_law_script") (CX:=fun w=>(CXe l.prog w)) hn (by decide) J ⟨rfl,by decide,by decide⟩ hY hT F fun _ _ _ _ _ z=>bj _ _ _ _ _ z
end Qs
end
end
open Lean in
local macro_rules
 | `(#check $s:str) =>return mkNullNode (← (s.getString.splitOn " ").toArray.mapM fun n => `(theorem $(mkIdent (.str `PySem.W.Fast s!"tw{n.foldl (fun a c=>a*62+c.toNat-if c<'A' then 48 else if c<'a' then 55 else 61) 0}")) : True := ⟨⟩))
#check "6T7ol5cc6Xm 9k2OoYfXM5V CCY5tjkfduf 4Qx7TAFn5Up Gz2Rnh0tp4h DegjdAmDgx7 J1K0g0JsrH8 C0DiSWDezJj Pu8TBKIXg6 HzGbpLpSIJt J5zk5fhFw5r Lsn8scWBFGX LYiM4LLXxi2 5iDE4EapPRM 7PBieQ7aUMw CCiQQdJ8tHw 9rkTZqSONS6 9vDxnf28IUS 3K6cLzPM5Ot KieqTSpjluy C6AjysRMOP6 26rSrciBmMB 62966040KV DChkayXr2oY 5LRcNOOAnRL B46oEfemDcw LNhm9VGoE1X 8CNXFJeR1Qw JspBXKUw9Yg IABFMyya160 D69hvf0c4qE DD7p7FyIdh2 AAa2qXHP1FM AZebEGnlSw3 7s6dkjv9o8p CxzCM9kYkgD Ahpdk2YA6kD 8W2SAt78wtl HMzTt0GvLKE JQEAeW0289j 8vsdvapCxle GCeJ5twV8gR I8kX0Q03XMe BmxD1ypemR6 602qGoYOnIm 8RkONX4RJVZ 2fQeaeJkrou JJJtlAdyydP 2mf2cGNOdbD 8j4KZhvysAa 2Mu3WJpGC9z KvIosAJOopk AMpACsR2ppQ LHaeKNGj3RU IH3MhjCIba0 FApMPEP4X43 Bqf90RYjOcN 8Ta2zxaW4hy 27DQbaiewGa 3G6PBjIkckf 5NALSyvEfhz D353B6Tx0PK 2dGYpur2P1Z 4HcbwqS8si8 ByYpePNceTW 2xJqNzlSieQ tHOJsm6YqY CPgxkSQIucV 6Up8jXY8voV GGTVS6UUqah AulZTDGbzqZ H42Vfms0pEe AmmnBiWWGme C69jT0t15LN 2lFjXRc6lFn 9j6AXtiIATD 6oWMfxS2g4T 901ezd90ryK EWd4qKIIzgt GAt2dw1sCY3 ERhcnj24QNk 1u4sAZ3qDGY 3hqAnJbb6Ec AvUOjJCd41h LvLLFc5Wmbc GUqGogl3wdw K8zR23uPaMj Kxf8GQb9JgF LUCBv9KQIP0 IxI5oRaFUge 65GEN3CyD1v IK3aoVD2Fas G82DdcsPqre DZQ0CsgcHJU FKp4rjNqIKa CHrN4ZOk85v KGBNGLoNJL2 3INAbXX3Qzm FdMqCiLlQn5 Jl3CmR5d3zk ENepYfenY2E BsbFjwlvsEw Jhmp9FEAJbm Eq3wjHPfRG3 8j9Wrsh9Ldp 5HVht5kIONt 1iUynGhceiH 1FvmxlcTpkX 6loo4w2wTGS 5kP2u7cRwe6 Ci9CgEzRu1k CVzKMWID49r HceMt3jKTf3 34JNdx698RM 16sPrb8eJKZ LOTMqRjHU6S JFGj2NPghNL DC7hkjfOm9I 8JzLa35aAZG 3Abp2xEJjSP 8s8PEJOLQHQ JfuSTojOcmC 91AVYu8audP DPwWOvgAvpQ BpgNZWvR2e8 6cA5Eh158Qe 2fM17GFLZK8 EAQc0DL5SPR 1hbj2ZufnzV K0syThlN8Aw GWyoz7UHuFA 9W9I5Z7qsj7 LiV7iu5U6Hr E2AuJJ4pwiK LGvcV1rbNin LDagLKgSzVh G7H7KgBhKuU 1VnJawZODOw 8awxSjfnBSg KUq7jssrndO 4bqvMWhSqlM Kgr5btf02e2 6z7csqbNsiG 3jBkehvUqLG 9vgWeBsm0Pa AlhPX6ShSJk 2zCVQDPwJzd DaRVWfGM3zF 4i0NJw1UkxC BZfKEozLB4E 3dQgT0tQeQ2 D8ptCPuDB64 Eb2EoCyr2r0 GW2N3Tr5pPy JGPLyeh07be 3B5NGT44Ln6 KGWPOh57QIt 3BrUQESbpIk IkpQXIr7Jr3 IoKFU5Dj7SO 1lCqliXSKN4 GMNM0FvjHAP 8Q0sv3cJWQv E68dWTRiC11 5cl3kVtECoW J8BmjuZV9zN 4k8xKMiKYzo 9unPQsQ8EZD 2Vigm2WEH6b KrIDWM5Y3ST BSgR0HZ9GUB BbxvJ4pvblY JKnHVi1CgaN HcxTibMtp86 Bd9sc6H3WfZ Ba2cvydLPFF B2onhkrS3AP KbrC2Q2WmXR Heh6DxuS6bg 22YeDNV2Oxc 57cw7tepM9P Hphd3D102z0 Kufw63GENRm 1wluX6Uzijh 83zvWcoTSJl VY6c8WMCWh 4ujLNvNNRlu H7Phn0hymQ4 2phQG3nj3gA 82vVdr66mxn KeqfTWrJ90Z 4RaOkr03YtO 9IowfQtUAZX Hf1perAvCEx 81S1YbM5bvd I7v7YVe0FZ3 GVhYjYRpUJG DzFLp6l59vX 7C6UznzBENF LhbDiEIgH6A 6bjrT89AXC8 JIaEuQIS60e GDlyu588Ple FmA7oW6hYWs KtZAmOjPaQq CqSRMHmuUbG AtvVCBIhPek 3Xheg9HRcWx 6Fou0aQPlMY CEo5ASR1kMT JQd6X0PEZvS GnMPw225voL 4dMLPZ9FSda 4xS3oshmAYE BcE1g4h6WVp 6xmUCsCWFkX CJ6OIyRtbAR Ho5b8qeDOeR 1xwV9MHVL9M EWvpDocx59A 683OIFCX1DS 3wyG5V8Kp0K 6yWzrf6XVhB FhPzUMu4HOr 1zmUavSD8v6 CU5kV2XSozC Abz9AloTfV4 F83tbDJCTV5 FLqxbZyCXgM KkXz9SuWy5s 7Fk1wgI7uQ9"
open PySem PySem.W PyProof.Rows
set_option maxRecDepth 100000 in
set_option maxHeartbeats 0 in
theorem PySem.Challenge.cw_quartersheet_k66_whole_rings_area_and_ri_holds : PySem.Challenge.rw_quartersheet_k66_whole_rings_area_and_ri.Holds := by
 w_on;o_law;k_head;(case hw=>w_witness2)
 k_fill
 refine Qs.Im (l:=PySem.Challenge.rw_quartersheet_k66_whole_rings_area_and_ri) rfl rfl (fun w h Y=>PySem.W.km_in_of Y) (fun w h Y=>PySem.W.km_tabs_of Y) ?F
 case F =>
  intro w mg fa h KX G hmg
  refine' Qs.GZ KX G hmg (Qs.df ..) (Qs.df ..) (Qs.df ..) (Qs.df ..) (Qs.df ..) (Qs.df ..) (Qs.df ..) _ _ _ _ _ (Qs.df ..) (Qs.df ..) (Qs.df ..) (Qs.df ..) (Qs.df ..) (Qs.df ..) (Qs.df ..) (Qs.df ..) (Qs.df ..) (Qs.df ..) (Qs.df ..) (Qs.df ..) (Qs.df ..) (Qs.df ..) (Qs.df ..) (Qs.df ..) (Qs.df ..) (Qs.df ..) (Qs.df ..) (Qs.df ..) _ _ _ _ (Qs.df ..) (Qs.df ..) (Qs.df ..) (Qs.df ..) (Qs.df ..) (Qs.df ..) (Qs.df ..) (Qs.df ..) (Qs.df ..) (Qs.df ..) (Qs.df ..) (Qs.df ..) (Qs.df ..) (Qs.df ..) (Qs.df ..) (Qs.df ..) (Qs.df ..) _ _ _ _ _ _ _ _ _ _ _ _ _ _ _ _ _ _ _ _ _ _ _ _ _ _ _ _ _ _ _ _ _ _ _ _ _ _ _ _ _ _ _ _ _ _ _
  all_goals try first | k_is | exact rfl | kernel_rfl | decide | k_exc | kts_exm | kit_is
