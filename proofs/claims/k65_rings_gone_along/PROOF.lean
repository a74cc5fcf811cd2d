import PyProof.Rows.All
import Wide.All
import OpenK.AllK
import Wide.FinOn
import Lean
import PyProof.EqAt
import PyProof.EqKinds
import PyProof.TupleCall
import PySem.Challenge.RW_quartersheet_k65_rings_gone_along
set_option Elab.async false
set_option linter.all false
set_option maxRecDepth 100000
set_option maxHeartbeats 4000000
noncomputable section
section
open PySem PySem.Spec PyProof.Rows
abbrev Ho:=@wpAny_bind
abbrev Hq:=@Heap.get?_push_of_some
abbrev Hr:=@decide_eq_true
abbrev Hs:=@List.length_append
abbrev Ht:=@Nat.le_refl
abbrev Hu:=@Bool.false_eq_true
abbrev Hv:=@List.mem_singleton
abbrev Hw:=@List.length_map
abbrev Hx:=@List.getElem?_eq_some_iff
abbrev Hy:=@Array.getElem?_eq_getElem
abbrev Hz:=@List.mem_map
abbrev HD:=@List.mem_append
abbrev HE:=@Nat.zero_le
abbrev HF:=@List.mem_cons_of_mem
abbrev HG:=@of_decide_eq_true
abbrev HH:=@List.mem_of_getElem?
abbrev HJ:=@wpAny_pure
abbrev HK:=@PassesOwn.never
abbrev HL:=@Heap.lt_size
abbrev HM:=@List.take_of_length_le
abbrev HN:=@Bool.false_ne_true
abbrev HP:=@List.mem_cons_self
abbrev HQ:=@Heap.get?_push_size
abbrev HR:=@wpS_bind
abbrev HS:=@Nat.lt_of_lt_of_le
abbrev HU:=@List.getElem?_eq_getElem
abbrev HV:=@List.size_toArray
abbrev HW:=@List.append_assoc
abbrev HX:=@List.length_cons
abbrev HY:=@Heap.get?_update_other
abbrev HZ:=@List.mem_cons
abbrev H_:=@Nat.le_trans
abbrev Ia:=@List.mem_append_right
abbrev Ib:=@wpS_pure
abbrev Ic:=@List.take_add_one
abbrev Ie:=@List.eq_nil_of_length_eq_zero
abbrev Ig:=@List.map_cons
abbrev Ih:=@decide_eq_false
abbrev Ii:=@Option.isSome_iff_exists
abbrev Ij:=@congrArg
abbrev Ik:=@Nat.ne_of_lt
abbrev Il:=@Array.length_toList
abbrev Im:=@List.map_append
abbrev Io:=@decide_eq_true_iff
abbrev Ip:=@List.mem_filter
abbrev Iq:=@List.getElem?_append_left
abbrev Ir:=@List.getElem?_map
abbrev Iu:=@List.pairwise_append
abbrev Iv:=@List.mem_append_left
abbrev Iw:=@Option.map_eq_some_iff
abbrev Ix:=@List.drop_eq_getElem_cons
abbrev Iy:=@Int.toNat_natCast
abbrev Iz:=@List.mem_map_of_mem
abbrev IA:=@List.getElem?_append_right
abbrev IB:=@List.take_append_drop
abbrev IC:=@List.length_take
abbrev ID:=@Bool.eq_iff_iff
abbrev IE:=@Array.toList_append
abbrev IF:=@Array.getD_eq_getD_getElem?
abbrev IG:=@List.pairwise_map
abbrev IH:=@List.length_singleton
abbrev II:=@List.append_nil
abbrev IJ:=@wpAny_mono
abbrev IK:=@List.map_map
abbrev IL:=@List.length_filter_le
abbrev IM:=@Nat.add_mul
abbrev IN:=@List.map_congr_left
abbrev IP:=@Option.isSome_map
abbrev IQ:=@List.pairwise_iff_getElem
abbrev IR:=@Nat.pow_succ
abbrev IS:=@List.getElem?_of_mem
abbrev IT:=@Array.getElem?_toList
abbrev IU:=@Nat.pow_le_pow_right
abbrev IV:=@List.nil_append
abbrev IW:=@Bool.and_eq_true
abbrev IX:=@Nat.two_pow_pos
abbrev IY:=@Nat.mul_assoc
abbrev IZ:=@List.nodup_cons
abbrev I8:=@List.filter_cons_of_neg
abbrev I9:=@List.mem_of_mem_take
abbrev I_:=@Array.perm_iff_toList_perm
abbrev Ja:=@Array.getElem?_eq_some_iff
abbrev Jb:=@Nat.zero_add
abbrev Jc:=@List.find?_cons
abbrev Jd:=@Int.natCast_mul
abbrev Je:=@List.filter_append
abbrev Jf:=@Int.emod_lt_of_pos
abbrev Jg:=@Nat.pow_add
abbrev Jh:=@List.take_length
abbrev Ji:=@List.length_drop
abbrev Jj:=@Nat.lt_or_ge
abbrev Jk:=@Nat.le_of_lt
abbrev Jl:=@List.flatMap_append
abbrev Jm:=@List.drop_of_length_le
abbrev Jn:=@Nat.le_of_not_lt
abbrev Jo:=@Nat.ne_of_gt
abbrev Jp:=@Nat.lt_of_le_of_lt
abbrev Jq:=@Nat.lt_irrefl
abbrev Jr:=@Nat.mul_le_mul
abbrev Js:=@List.mem_range
abbrev Jt:=@List.getElem?_eq_none_iff
abbrev Ju:=@List.extract_eq_take_drop
abbrev Jv:=@Int.le_refl
abbrev Jw:=@Array.getElem_toList
abbrev Jx:=@List.length_range
abbrev Jy:=@List.foldl_append
abbrev Jz:=@Int.natCast_add
abbrev JA:=@Int.emod_nonneg
abbrev JB:=@List.pairwise_singleton
abbrev JC:=@List.filter_cons_of_pos
abbrev JD:=@of_decide_eq_false
abbrev JE:=@Nat.eq_zero_or_pos
abbrev JF:=@List.pairwise_cons
abbrev JG:=@List.range_succ
abbrev JH:=@List.perm_append_comm
abbrev JI:=@List.length_replicate
abbrev JJ:=@List.forIn_cons
abbrev JK:=@Int.zero_add
abbrev JL:=@List.nodup_append
abbrev JM:=@Bool.eq_false_iff
abbrev JN:=@List.mem_of_mem_drop
abbrev JO:=@Array.toList_extract
abbrev JP:=@List.mem_of_find?_eq_some
abbrev JQ:=@List.lt_irrefl
abbrev JR:=@Array.toList_inj
abbrev JS:=@List.flatten_append
abbrev JT:=@List.filterMap_cons
abbrev JU:=@Option.map_some
abbrev JV:=@Nat.not_lt_zero
abbrev JW:=@List.of_mem_zip
abbrev JX:=@List.getElem?_replicate
abbrev JY:=@List.getElem?_drop
abbrev JZ:=@List.any_cons
abbrev J0:=@List.length_pos_of_mem
abbrev J_:=@Array.getElem?_eq_none
abbrev Ka:=@Nat.lt_succ_of_lt
abbrev Kb:=@List.find?_isSome
abbrev Kc:=@Array.getElem?_setIfInBounds_ne
abbrev Kd:=@List.drop_take
abbrev Ke:=@Nat.sub_zero
abbrev Kf:=@Nat.lt_trans
abbrev Kg:=@List.singleton_append
abbrev Kh:=@Heap.get?_update_self
abbrev Ki:=@Nat.lt_succ_self
abbrev Kj:=@Nat.mul_le_mul_right
abbrev Kk:=@Array.toList_reverse
abbrev Kl:=@Array.getElem?_setIfInBounds
abbrev Km:=@List.getElem_of_mem
abbrev Kn:=@List.foldl_cons
abbrev Ko:=@wpS_mono
abbrev Kq:=@Nat.succ_pos
abbrev Kr:=@Nat.mul_comm
abbrev Ks:=@List.map_nil
abbrev Kt:=@Int.le_trans
abbrev Ku:=@Array.forIn_toList
abbrev Kv:=@List.drop_drop
abbrev Kw:=@Nat.lt_trichotomy
abbrev Kx:=@Nat.lt_of_succ_lt
abbrev Ky:=@List.take_sublist
abbrev Kz:=@List.ext_getElem?
abbrev KA:=@List.sum_cons
abbrev KB:=@List.all_cons
abbrev KC:=@Nat.le_add_right
abbrev KE:=@List.not_mem_nil
abbrev KF:=@List.lookup_cons
abbrev KG:=@List.all_eq_true
abbrev KH:=@Array.toList_map
abbrev KI:=@Nat.div_add_mod
abbrev KJ:=@Nat.add_zero
abbrev KL:=@List.prefix_rfl
abbrev KM:=@List.length_nil
abbrev KN:=@List.find?_some
abbrev KO:=@Nat.add_eq
abbrev KP:=@List.forIn_nil
abbrev KQ:=@Nat.one_mul
abbrev KR:=@List.map_id
end
namespace Tim
open PySem PyProof.Rows
variable {prog:Program}{A:Around}{E:Value→Shared→Prop}{s:Shared}{a₀:Array Keyed}{κ:SortKind}{key:Keyed→Int}
section
variable {w:World}
def dF (prog:Program)(w:World)(A:Around)(E:Value→Shared→Prop)(s:Shared)(a₀:Array Keyed)(κ:SortKind)(key:Keyed→Int):Prop :=
 ∀ (x y:Keyed) (C:Bool→Shared→Prop),x∈a₀.toList→y∈a₀.toList→C (decide (key x < key y)) s→wpAny (model prog w) A (keyLt' κ x.1 y.1) C (fun _ _=>False) s
structure SB (a₀:Array Keyed)(κ:SortKind)(st:SortSt):Prop where
 perm:(arrOf st).Perm a₀
 kind:kindOf st=κ
 ok:failedOf st=none
theorem SB.size {st:SortSt}(h:SB a₀ κ st):(arrOf st).size=a₀.size:=h.perm.size_eq
theorem SB.mem {st:SortSt}(h:SB a₀ κ st)(B:x∈(arrOf st).toList):x∈a₀.toList:=(I_.mp h.perm).mem_iff.mp B
theorem SB.set {st:SortSt}(h:SB a₀ κ st)(B:xs.Perm (arrOf st)):SB a₀ κ (setArr st xs):=⟨B.trans h.perm,h.kind,h.ok⟩
def kat (key:Keyed→Int)(xs:Array Keyed)(i:Nat):Int:=match xs[i]? with
 | some p=>key p
 | none=>0
theorem gG (h:xs[i]? = ys[j]?):kat key xs i=kat key ys j:=by unfold kat;rw[h]
theorem ay (h:xs[i]? = some p):kat key xs i=key p:=by unfold kat;rw[h]
def Seg (key:Keyed→Int)(xs:Array Keyed)(lo hi:Nat):Prop:=∀ i j,lo≤i→i≤j→j < hi→kat key xs i≤kat key xs j
theorem vR (L:dF prog w A E s a₀ κ key){st:SortSt}(B:kindOf st=κ)(G:x∈a₀.toList)(J:y∈a₀.toList)(h:Q (some (decide (key x < key y))) st):
  wpS (model prog w) A E s (lt' x y) Q st:=by
 rw[lt'_eq];refine HR (wpS_get ?_);rw[B];refine HR (wpS_lift (wpAny_attempt (IJ (L x y (fun b s'=>b=decide (key x < key y)∧s'=s) G J ⟨rfl,rfl⟩) (fun b s' O =>?_) fun _ _ e=>e.elim)));obtain⟨rfl,rfl⟩:=O;exact⟨rfl,Ib h⟩
theorem dh {st:SortSt}(hi:arr[i]? = some p)(h:Q p st):wpS (model prog w) A E s (elem' arr i) Q st:=by
 rw[elem'_eq,hi];exact Ib h
theorem eZ {xs:Array Keyed}{i:Nat}{p:Keyed}(h:xs[i]? = some p):p∈xs.toList:=by
 have:p∈xs:=Array.mem_of_getElem? h
 exact Array.mem_toList_iff.mpr this
theorem mH (L:dF prog w A E s a₀ κ key){i j:Nat}{st:SortSt}{Q:Option Bool→SortSt→Prop}(B:SB a₀ κ st)(hi:i < a₀.size)(hj:j < a₀.size)(h:Q (some (decide (kat key (arrOf st) i < kat key (arrOf st) j))) st):
  wpS (model prog w) A E s (ltAt' i j) Q st:=by
 rw[ltAt'_eq];refine HR (wpS_get ?_);have G:(arrOf st)[i]? = some ((arrOf st)[i]'(by rw[B.size];exact hi)):=Hy _;have J:(arrOf st)[j]? = some ((arrOf st)[j]'(by rw[B.size];exact hj)):=Hy _;refine HR (dh G (HR (dh J ?_)));refine vR L B.kind (B.mem (eZ G)) (B.mem (eZ J)) ?_;rw[ay G,ay J]at h;exact h
def fN:Bool→Keyed→Array Keyed→Nat→Nat→Nat→StateT SortSt Sem (Option Nat):=sortPriv% PySem.Builtin.gallop
def mD (left:Bool)(x:Keyed)(u:Array Keyed)(base i:Nat):StateT SortSt Sem (Option Bool):=do
 let y ← elem' u (base + i)
 if left then lt' y x else return (← lt' x y).map (!·)
abbrev St3:=Option (Option Nat) × Nat × Nat
def vU (left:Bool)(x:Keyed)(u:Array Keyed)(base n p q:Nat):StateT SortSt Sem (Option Nat):=do
 let r ← forIn [0:n] ((none,p,q):St3) fun _ r =>
  if r.2.1 ≥ r.2.2 then pure (ForInStep.done (none,r.2.1,r.2.2)) else do
   let y ← mD left x u base (r.2.1 + (r.2.2 - r.2.1) / 2)
   match y with
   | some more=>if more=true then pure (ForInStep.yield (none,r.2.1 + (r.2.2 - r.2.1) / 2 + 1,r.2.2)) else pure (ForInStep.yield (none,r.2.1,r.2.1 + (r.2.2 - r.2.1) / 2))
   | _=>pure (ForInStep.done (some none,r.2.1,r.2.2))
 match r.1 with
 | some v=>pure v
 | none=>pure (some r.2.2)
def Cd (left:Bool)(x:Keyed)(u:Array Keyed)(base n room:Nat)(pl:Nat→Nat)(stop:Bool→Bool):StateT SortSt Sem St3 :=
 forIn [0:n] ((none,0,1):St3) fun _ r =>
  if r.2.2 ≥ room then pure (ForInStep.done (none,r.2.1,r.2.2)) else do
   let y ← mD left x u base (pl r.2.2)
   match y with
   | some more=>if stop more=true then pure (ForInStep.done (none,r.2.1,r.2.2)) else pure (ForInStep.yield (none,r.2.2,2 * r.2.2 + 1))
   | _=>pure (ForInStep.done (some none,r.2.1,r.2.2))
theorem xE (left:Bool)(x:Keyed)(u:Array Keyed)(base n B:Nat):fN left x u base n B=(do
  let mut was:=0
  let mut step:=1
  let mut p:=0
  let mut q:=0
  let some right ← mD left x u base B | return none
  if right then
   let room:=n - B
   for _ in [0:n] do
    if step ≥ room then break
    let some more ← mD left x u base (B + step) | return none
    if !more then break
    was:=step
    step:=2 * step + 1
   p:=B + was + 1
   q:=B + min step room
  else
   let room:=B + 1
   for _ in [0:n] do
    if step ≥ room then break
    let some found ← mD left x u base (B - step) | return none
    if found then break
    was:=step
    step:=2 * step + 1
   p:=B + 1 - min step room
   q:=B - was
  for _ in [0:n] do
   if p ≥ q then break
   let m:=p + (q - p) / 2
   let some more ← mD left x u base m | return none
   if more then p:=m + 1 else q:=m
  return some q):=rfl
theorem xD (left:Bool)(x:Keyed)(u:Array Keyed)(base n B:Nat):fN left x u base n B=(do
  let y ← mD left x u base B
  match y with
  | some right =>
   if right=true then do
    let r ← Cd left x u base n (n - B) (fun k=>B + k) (fun m => !m)
    match r.1 with
    | some v=>pure v
    | none=>vU left x u base n (B + r.2.1 + 1) (B + min r.2.2 (n - B))
   else do
    let r ← Cd left x u base n (B + 1) (fun k=>B - k) (fun m=>m)
    match r.1 with
    | some v=>pure v
    | none=>vU left x u base n (B + 1 - min r.2.2 (B + 1)) (B - r.2.1)
  | _=>pure none):=by
 rw[xE];unfold Cd vU;dsimp only
 congr 1
 funext y
 cases y with
 | none=>rfl
 | some r =>
  cases r with
  | true =>
   dsimp only;rw[if_pos rfl,if_pos rfl]
   congr 1
   funext r
   obtain⟨G,J,O⟩:=r;cases G with
   | some v=>rfl
   | none =>
    dsimp only
    congr 1
    funext r
    obtain⟨G,J,O⟩:=r;cases G<;>rfl
  | false =>
   dsimp only;rw[if_neg (by decide),if_neg (by decide)]
   congr 1
   funext r
   obtain⟨G,J,O⟩:=r;cases G with
   | some v=>rfl
   | none =>
    dsimp only
    congr 1
    funext r
    obtain⟨G,J,O⟩:=r;cases G<;>rfl
def aO (key:Keyed→Int)(left:Bool)(x:Keyed)(u:Array Keyed)(base i:Nat):Bool:=if left then decide (kat key u (base + i) < key x) else !decide (key x < kat key u (base + i))
theorem iu (B:Seg key u base (base + n))(G:j≤i)(hi:i < n)(h:aO key left x u base i=true):aO key left x u base j=true:=by
 have:=B (base + j) (base + i) (by simp) (by lia) (by lia)
 unfold aO at h ⊢;cases left with
 | true =>
  rw[if_pos rfl]at h ⊢;have h':=HG h;exact Hr (by lia)
 | false =>
  rw[if_neg (by decide)]at h ⊢;have h':¬ key x < kat key u (base + i):=by simpa using h
  have:¬ key x < kat key u (base + j):=by lia
  simpa using this
theorem tL (L:dF prog w A E s a₀ κ key){left:Bool}{x:Keyed}{u:Array Keyed}{base n i:Nat}{st:SortSt}{Q:Option Bool→SortSt→Prop}(G:kindOf st=κ)(J:x∈a₀.toList)(O:∀ y∈u.toList,y∈a₀.toList)
  (U:base + n≤u.size) (hi:i < n) (h:Q (some (aO key left x u base i)) st):wpS (model prog w) A E s (mD left x u base i) Q st:=by
 unfold mD;have B:u[base + i]? = some (u[base + i]'(by lia)):=Hy _;refine HR (dh B ?_);unfold aO at h;rw[ay B]at h;cases left with
 | true =>
  rw[if_pos rfl]at h ⊢;exact vR L G (O _ (eZ B)) J h
 | false =>
  rw[if_neg (by decide)]at h ⊢;exact HR (vR L G J (O _ (eZ B)) (Ib h))
theorem yC (L:dF prog w A E s a₀ κ key){st:SortSt}(hk:kindOf st=κ)(hx:x∈a₀.toList)(hu:∀ y∈u.toList,y∈a₀.toList)
  (hb:base + n≤u.size) (Y:Seg key u base (base + n)) (O:p≤q) (hq:q≤n) (lo:∀ i,i < p→aO key left x u base i=true) (hi:∀ i,q≤i→i < n→aO key left x u base i=false)
  (h:∀ k,k≤n→(∀ i,i < k→aO key left x u base i=true)→(∀ i,k≤i→i < n→aO key left x u base i=false)→Q (some k) st):wpS (model prog w) A E s (vU left x u base n p q) Q st:=by
 unfold vU;refine HR (Ko (wpS_forRange (I:=fun t c B=>B=st∧∃ p q,c=(none,p,q)∧p≤q∧q≤n∧q - p≤n - t∧(∀ i,i < p→aO key left x u base i=true)∧(∀ i,q≤i→i < n→aO key left x u base i=false))
  (Q:=fun c B=>B=st∧∃ q,c=(none,q,q)∧q≤n∧(∀ i,i < q→aO key left x u base i=true)∧(∀ i,q≤i→i < n→aO key left x u base i=false)) ?step ?fin ⟨rfl,p,q,rfl,O,hq,by lia,lo,hi⟩) ?post)
 case post =>
  rintro c B ⟨rfl,q,rfl,h1,h2,U⟩;exact Ib (h q h1 h2 U)
 case fin =>
  rintro c B ⟨rfl,p,q,rfl,h1,h2,U,G,J⟩;have e:p=q:=by lia
  subst e;exact⟨rfl,p,rfl,h2,G,J⟩
 case step =>
  rintro t c B _ ht ⟨rfl,p,q,rfl,h1,h2,U,G,J⟩;dsimp only;by_cases e:p ≥ q
  ·rw[if_pos e];have e':p=q:=by lia
   subst e';exact Ib ⟨rfl,p,rfl,h2,G,J⟩
  ·rw[if_neg e];refine HR (tL L hk hx hu hb (n:=n) (by lia) ?_);dsimp only;cases hm:aO key left x u base (p + (q - p) / 2) with
   | true =>
    rw[if_pos rfl];exact Ib ⟨rfl,_,_,rfl,by lia,h2,by lia,fun i hi=>iu Y (by lia) (by lia) hm,J⟩
   | false =>
    rw[if_neg (by decide)];refine Ib ⟨rfl,_,_,rfl,by simp,by lia,by lia,G,fun i h6 h7 =>?_⟩;cases z:aO key left x u base i with
    | false=>rfl
    | true=>rw[iu Y h6 h7 z]at hm;cases hm
theorem Cc (L:dF prog w A E s a₀ κ key)(G:∀ m,stop m=(m != good)){st:SortSt}(hk:kindOf st=κ)(hx:x∈a₀.toList)(hu:∀ y∈u.toList,y∈a₀.toList)
  (hb:base + n≤u.size) (hr:room≤n) (U:∀ k,k < room→pl k < n) (h0:aO key left x u base (pl 0)=good) (Y:0 < room)
  (h:∀ B step,B < step→B < room→aO key left x u base (pl B)=good→(room≤step∨aO key left x u base (pl step) = !good)→Q (none,B,step) st):wpS (model prog w) A E s (Cd left x u base n room pl stop) Q st:=by
 unfold Cd;refine wpS_forRange (I:=fun t c J=>J=st∧∃ B step,c=(none,B,step)∧B < step∧B < room∧t + 1≤step∧aO key left x u base (pl B)=good) ?step ?fin ⟨rfl,0,1,rfl,by simp,Y,by simp,h0⟩
 case fin =>
  rintro c J ⟨rfl,B,step,rfl,h1,h2,h3,O⟩;exact h B step h1 h2 O (.inl (by lia))
 case step =>
  rintro t c J _ ht ⟨rfl,B,step,rfl,h1,h2,h3,O⟩;dsimp only;by_cases e:step ≥ room
  ·rw[if_pos e];exact Ib (h B step h1 h2 O (.inl e))
  ·rw[if_neg e];refine HR (tL L hk hx hu hb (U step (by lia)) ?_);dsimp only;by_cases hm:aO key left x u base (pl step)=good
   ·have e2:stop (aO key left x u base (pl step))=false:=by rw[G,hm];cases good<;>rfl
    rw[e2,if_neg (by decide)];exact Ib ⟨rfl,step,2 * step + 1,rfl,by lia,by lia,by lia,hm⟩
   ·have hm':aO key left x u base (pl step) = !good:=by
     cases q:aO key left x u base (pl step)<;>cases good<;>simp_all
    have e2:stop (aO key left x u base (pl step))=true:=by rw[G,hm'];cases good<;>rfl
    rw[e2,if_pos rfl];exact Ib (h B step h1 h2 O (.inr hm'))
theorem fU (L:dF prog w A E s a₀ κ key){st:SortSt}(G:kindOf st=κ)(J:x∈a₀.toList)(O:∀ y∈u.toList,y∈a₀.toList)
  (U:base + n≤u.size) (hh:hint < n) (Y:Seg key u base (base + n))
  (h:∀ k,k≤n→(∀ i,i < k→aO key left x u base i=true)→(∀ i,k≤i→i < n→aO key left x u base i=false)→Q (some k) st):wpS (model prog w) A E s (fN left x u base n hint) Q st:=by
 rw[xD];have dn:∀ i,i < n→aO key left x u base i=false→∀ j,i≤j→j < n→aO key left x u base j=false:=fun i hi e j hj a1=>by
  cases q:aO key left x u base j with
  | false=>rfl
  | true=>rw[iu Y hj a1 q]at e;cases e
 refine HR (tL L G J O U hh ?_);dsimp only;cases hp:aO key left x u base hint with
 | true =>
  rw[if_pos rfl];refine HR (Cc L (by intro m;cases m<;>rfl) G J O U (by simp) (fun k G=>by lia) hp (by lia) fun a0 step h1 h2 h3 B =>?_);dsimp only;refine yC L G J O U Y (by lia) (by lia) (fun i hi=>iu Y (by lia) (by lia) h3) (fun i h5 h6 =>?_) h;rcases B with B | B
  ·lia
  ·by_cases h7:n - hint≤step
   ·lia
   ·exact dn (hint + step) (by lia) B i (by lia) h6
 | false =>
  rw[if_neg (by decide)];refine HR (Cc L (by intro m;cases m<;>rfl) G J O U (by assumption) (fun k G=>by lia) hp (by simp) fun a0 step h1 h2 h3 B =>?_);dsimp only;refine yC L G J O U Y (by omega) (by lia) (fun i hi =>?_) (fun i h5 h6=>dn (hint - a0) (by lia) h3 i h5 h6) h;rcases B with B | B
  ·lia
  ·by_cases h7:hint + 1≤step
   ·lia
   ·exact iu Y (by lia) (by lia) B
end
end Tim
set_option maxHeartbeats 4000000
namespace Tim
open PySem PyProof.Rows
variable {prog:Program}{A:Around}{E:Value→Shared→Prop}{s:Shared}{a₀:Array Keyed}{κ:SortKind}{key:Keyed→Int}
section
variable {w:World}
def loP:Array Keyed→Array Keyed→StateT SortSt Sem (Array Keyed):=sortPriv% PySem.Builtin.mergeLo
abbrev aX (st:SortSt)(g:Nat):SortSt:=SortSt.mk' (kindOf st) (arrOf st) (pendingOf st) g (failedOf st)
abbrev St7:=Option (Array Keyed) × Array Keyed × Nat × Nat × Nat × Nat × Nat
abbrev St6:=Option (Array Keyed) × Array Keyed × Nat × Nat × Nat × Nat
abbrev St5:=Option (Array Keyed) × Array Keyed × Nat × Nat × Nat
def qP (u v o:Array Keyed)(i j:Nat):Array Keyed:=o++u.extract i u.size++v.extract j v.size
def xF (u v o:Array Keyed)(i j:Nat):Array Keyed:=o++v.extract j v.size++u.extract i u.size
def tQ (u v:Array Keyed)(g:Nat)(r:St6):StateT SortSt Sem (ForInStep St6):=do
 let y ← elem' v r.2.2.2.1
 let x ← elem' u r.2.2.1
 let z ← lt' y x
 match z with
 | some won =>
  if won=true then do
   let y ← elem' v r.2.2.2.1
   if (r.2.2.2.1 + 1 == v.size)=true then pure (.done (some (qP u v (r.2.1.push y) r.2.2.1 (r.2.2.2.1 + 1)),r.2.1.push y,r.2.2.1,r.2.2.2.1 + 1,0,r.2.2.2.2.2 + 1))
   else if r.2.2.2.2.2 + 1 ≥ g then pure (.done (none,r.2.1.push y,r.2.2.1,r.2.2.2.1 + 1,0,r.2.2.2.2.2 + 1))
   else pure (.yield (none,r.2.1.push y,r.2.2.1,r.2.2.2.1 + 1,0,r.2.2.2.2.2 + 1))
  else do
   let x ← elem' u r.2.2.1
   if (r.2.2.1 + 1 + 1 == u.size)=true then pure (.done (some (xF u v (r.2.1.push x) (r.2.2.1 + 1) r.2.2.2.1),r.2.1.push x,r.2.2.1 + 1,r.2.2.2.1,r.2.2.2.2.1 + 1,0))
   else if r.2.2.2.2.1 + 1 ≥ g then pure (.done (none,r.2.1.push x,r.2.2.1 + 1,r.2.2.2.1,r.2.2.2.2.1 + 1,0))
   else pure (.yield (none,r.2.1.push x,r.2.2.1 + 1,r.2.2.2.1,r.2.2.2.2.1 + 1,0))
 | _=>pure (.done (some (qP u v r.2.1 r.2.2.1 r.2.2.2.1),r.2.1,r.2.2.1,r.2.2.2.1,r.2.2.2.2.1,r.2.2.2.2.2))
def uB (u v o:Array Keyed)(i j g ca cb:Nat):StateT SortSt Sem (ForInStep St7):=do
 let x ← elem' u i
 if (i + 1 + 1 == u.size)=true then pure (.done (some (xF u v (o.push x) (i + 1) j),o.push x,i + 1,j,g,ca,cb))
 else if (decide (ca < 7) && decide (cb < 7))=true then pure (.done (none,o.push x,i + 1,j,g,ca,cb))
 else pure (.yield (none,o.push x,i + 1,j,g,ca,cb))
def uA (u v o:Array Keyed)(i j g ca cb:Nat):StateT SortSt Sem (ForInStep St7):=do
 let y ← elem' v j
 if (j + 1 == v.size)=true then pure (.done (some (qP u v (o.push y) i (j + 1)),o.push y,i,j + 1,g,ca,cb)) else do
  let x ← elem' u i
  let z ← fN true x v (j + 1) (v.size - (j + 1)) 0
  match z with
  | some k =>
   if k > 0 then
    if (j + 1 + k == v.size)=true then pure (.done (some (qP u v (o.push y++v.extract (j + 1) (j + 1 + k)) i (j + 1 + k)),o.push y++v.extract (j + 1) (j + 1 + k),i,j + 1 + k,g,ca,k))
    else uB u v (o.push y++v.extract (j + 1) (j + 1 + k)) i (j + 1 + k) g ca k
   else uB u v (o.push y) i (j + 1) g ca k
  | _=>pure (.done (some (qP u v (o.push y) i (j + 1)),o.push y,i,j + 1,g,ca,cb))
def uw (u v o:Array Keyed)(i j g ca cb:Nat):StateT SortSt Sem (ForInStep St7):=do
 modify fun st=>aX st g
 let y ← elem' v j
 let z ← fN false y u i (u.size - i) 0
 match z with
 | some k =>
  if k > 0 then
   if (i + k + 1 == u.size)=true then pure (.done (some (xF u v (o++u.extract i (i + k)) (i + k) j),o++u.extract i (i + k),i + k,j,g,k,cb))
   else if (i + k == u.size)=true then pure (.done (some (qP u v (o++u.extract i (i + k)) (i + k) j),o++u.extract i (i + k),i + k,j,g,k,cb))
   else uA u v (o++u.extract i (i + k)) (i + k) j g k cb
  else uA u v o i j g k cb
 | _=>pure (.done (some (qP u v o i j),o,i,j,g,ca,cb))
def uz (u v:Array Keyed)(r:St7):StateT SortSt Sem (ForInStep St7) :=
 if r.2.2.2.2.1 > 1 then uw u v r.2.1 r.2.2.1 r.2.2.2.1 (r.2.2.2.2.1 - 1) r.2.2.2.2.2.1 r.2.2.2.2.2.2 else uw u v r.2.1 r.2.2.1 r.2.2.2.1 r.2.2.2.2.1 r.2.2.2.2.2.1 r.2.2.2.2.2.2
def nH (u v:Array Keyed)(r:St5):StateT SortSt Sem (ForInStep St5):=do
 let q ← forIn [0:u.size + v.size] ((none,r.2.1,r.2.2.1,r.2.2.2.1,0,0):St6) fun _ q=>tQ u v r.2.2.2.2 q
 match q.1 with
 | some z=>pure (.done (some z,q.2.1,q.2.2.1,q.2.2.2.1,r.2.2.2.2))
 | none=>do
  liftM (rule "list.sort.gallop")
  let p ← forIn [0:u.size + v.size] ((none,q.2.1,q.2.2.1,q.2.2.2.1,r.2.2.2.2 + 1,q.2.2.2.2.1,q.2.2.2.2.2):St7) fun _ p=>uz u v p
  match p.1 with
  | some z=>pure (.done (some z,p.2.1,p.2.2.1,p.2.2.2.1,p.2.2.2.2.1))
  | none=>do
   modify fun st=>aX st (p.2.2.2.2.1 + 1)
   pure (.yield (none,p.2.1,p.2.2.1,p.2.2.2.1,p.2.2.2.2.1 + 1))
theorem Ff (u v:Array Keyed):loP u v=(do
  liftM (rule "list.sort.merge-lo")
  let y ← elem' v 0
  if (1 == v.size)=true then pure (qP u v #[y] 0 1) else
   if (0 + 1 == u.size)=true then pure (xF u v #[y] 0 1) else do
    let st ← get
    let r ← forIn [0:u.size + v.size] ((none,#[y],0,1,gallopOf st):St5) fun _ r=>nH u v r
    match r.1 with
    | some z=>pure z
    | none=>liftM (unsupported "internal:list.sort.merge-bound" : Sem (Array Keyed))):=by
 kernel_rfl
abbrev Srt (key:Keyed→Int)(l:List Keyed):Prop:=l.Pairwise fun x y=>key x≤key y
theorem md:Srt key u.toList↔Seg key u 0 u.size:=by
 constructor
 ·intro h i j _ B hj;by_cases e:i=j
  ·subst e;exact Jv _
  have G:u[i]? = some (u.toList[i]'(by simp;lia)):=by simp
  have J:u[j]? = some (u.toList[j]'(by simp;omega)):=by simp
  rw[ay G,ay J];exact IQ.mp h i j (by simp;lia) (by simp;omega) (by lia)
 ·intro h;refine IQ.mpr fun i j hi hj B =>?_;have hi':i < u.size:=by simpa using hi
  have hj':j < u.size:=by simpa using hj
  have G:u[i]? = some (u.toList[i]):=by simp
  have J:u[j]? = some (u.toList[j]):=by simp
  have:=h i j (HE _) (by lia) hj'
  rw[ay G,ay J]at this;exact this
theorem sY (h1:Srt key (o++m))(h2:Srt key (o++r))(J:∀ x∈m,∀ y∈r,key x≤key y):Srt key (o++m++r):=by
 unfold Srt at h1 h2 ⊢;rw[Iu]at h1 h2 ⊢;refine⟨Iu.mpr h1,h2.2.1,fun x B y G =>?_⟩;rcases HD.mp B with B | B
 ·exact h2.2.2 x B y G
 ·exact J x B y G
def Res (key:Keyed→Int)(u v z:Array Keyed):Prop:=z.toList.Perm (u.toList++v.toList)∧Srt key z.toList
structure MI (key:Keyed→Int)(u v o:Array Keyed)(i j:Nat):Prop where
 perm:(o.toList++(u.toList.drop i++v.toList.drop j)).Perm (u.toList++v.toList)
 sa:Srt key (o.toList++u.toList.drop i)
 sb:Srt key (o.toList++v.toList.drop j)
 hi:i≤u.size
 hj:j≤v.size
theorem MI.len (h:MI key u v o i j):o.size=i + j:=by
 have:=h.perm.length_eq
 have h1:=h.hi;have h2:=h.hj;simp only[Hs,Ji,Il]at this
 lia
theorem MI.takeA (h:MI key u v o i j)(B:o'.toList=o.toList++(u.toList.drop i).take k)(G:i + k≤u.size)(J:∀ x∈(u.toList.drop i).take k,∀ y∈v.toList.drop j,key x≤key y):MI key u v o' (i + k) j:=by
 have e:(u.toList.drop i).take k++u.toList.drop (i + k)=u.toList.drop i:=by rw[← Kv];exact IB _ _
 refine⟨?_,?_,?_,G,h.hj⟩
 ·rw[B]
  have:o.toList++(u.toList.drop i).take k++(u.toList.drop (i + k)++v.toList.drop j)=o.toList++(u.toList.drop i++v.toList.drop j):=by
   rw[HW,← HW ((u.toList.drop i).take k),e]
  rw[this];exact h.perm
 ·rw[B,HW,e];exact h.sa
 ·rw[B];have h1:Srt key (o.toList++(u.toList.drop i).take k):=by
   have:=h.sa
   rw[← e,← HW]at this;exact (Iu.mp this).1
  exact sY h1 h.sb J
theorem zH (o T U D W:List Keyed)(e:T++D=W):(o++T++(U++D)).Perm (o++(U++W)):=by
 rw[← e,HW];refine List.Perm.append_left _ ?_;rw[← HW,← HW];exact List.Perm.append_right _ JH
theorem MI.takeB (h:MI key u v o i j)(B:o'.toList=o.toList++(v.toList.drop j).take k)(G:j + k≤v.size)(J:∀ x∈(v.toList.drop j).take k,∀ y∈u.toList.drop i,key x≤key y):MI key u v o' i (j + k):=by
 have e:(v.toList.drop j).take k++v.toList.drop (j + k)=v.toList.drop j:=by rw[← Kv];exact IB _ _
 refine⟨?_,?_,?_,h.hi,G⟩
 ·rw[B];exact (zH _ _ _ _ _ e).trans h.perm
 ·rw[B];have h1:Srt key (o.toList++(v.toList.drop j).take k):=by
   have:=h.sb
   rw[← e,← HW]at this;exact (Iu.mp this).1
  exact sY h1 h.sa J
 ·rw[B,HW,e];exact h.sb
theorem pJ (u:Array Keyed)(i:Nat):(u.extract i u.size).toList=u.toList.drop i:=by
 rw[JO,Ju,HM (by simp)]
theorem DX (u:Array Keyed)(i k:Nat):(u.extract i (i + k)).toList=(u.toList.drop i).take k:=by
 rw[JO,Ju]
 congr 1
 simp
theorem mO (h:MI key u v o i j)(B:i=u.size∨j=v.size):Res key u v (qP u v o i j):=by
 have e:(qP u v o i j).toList=o.toList++u.toList.drop i++v.toList.drop j:=by
  unfold qP;rw[IE,IE,pJ,pJ]
 refine⟨by rw[e,HW];exact h.perm,?_⟩;rw[e];rcases B with B | B
 ·rw[B,Jm (by simp),II];exact h.sb
 ·rw[B,Jm (l:=v.toList) (by simp),II];exact h.sa
theorem pG (h:MI key u v o i j)(B:∀ x∈v.toList.drop j,∀ y∈u.toList.drop i,key x≤key y):Res key u v (xF u v o i j):=by
 have e:(xF u v o i j).toList=o.toList++v.toList.drop j++u.toList.drop i:=by
  unfold xF;rw[IE,IE,pJ,pJ]
 refine⟨?_,?_⟩
 ·rw[e,HW];exact (List.Perm.append_left _ JH).trans h.perm
 ·rw[e];exact sY h.sb h.sa B
end
section
variable {w:World}
structure Pre (a₀:Array Keyed)(key:Keyed→Int)(u v:Array Keyed):Prop where
 mu:∀ y∈u.toList,y∈a₀.toList
 mv:∀ y∈v.toList,y∈a₀.toList
 su:Seg key u 0 u.size
 sv:Seg key v 0 v.size
 hu:1≤u.size
 hv:1≤v.size
 first:kat key v 0 < kat key u 0
 last:kat key v (v.size - 1) < kat key u (u.size - 1)
theorem fM {u:Array Keyed}{i:Nat}{y:Keyed}(h:y∈u.toList.drop i):∃ t,i≤t∧t < u.size∧u[t]? = some y:=by
 obtain⟨t,B,e⟩:=Km h;rw[Ji,Il]at B;rw[List.getElem_drop]at e;refine⟨i + t,by simp,by lia,?_⟩;rw[← e,Jw];exact Hy _
theorem gL {u:Array Keyed}{i k:Nat}{y:Keyed}(h:y∈(u.toList.drop i).take k):∃ t,i≤t∧t < i + k∧t < u.size∧u[t]? = some y:=by
 obtain⟨t,B,e⟩:=Km h;rw[IC,Ji,Il]at B;rw[List.getElem_take,List.getElem_drop]at e;refine⟨i + t,by simp,by lia,by lia,?_⟩;rw[← e,Jw];exact Hy _
theorem Pre.lastA {u v:Array Keyed}{i j:Nat}(P:Pre a₀ key u v)(hi:i + 1=u.size):∀ x∈v.toList.drop j,∀ y∈u.toList.drop i,key x≤key y:=fun x G y J=>by
 obtain⟨t,h1,h2,O⟩:=fM G;obtain⟨r,U,Y,B⟩:=fM J;have e:r=u.size - 1:=by lia
 rw[e]at B;rw[← ay (key:=key) O,← ay (key:=key) B]
 have:=P.sv t (v.size - 1) (HE _) (by lia) (by lia)
 have:=P.last
 lia
theorem ir (o:Array Keyed)(u:Array Keyed)(h:u[i]? = some x):(o.push x).toList=o.toList++(u.toList.drop i).take 1:=by
 obtain⟨hi,e⟩:=Ja.mp h
 have:u.toList.drop i=x::u.toList.drop (i + 1):=by
  rw[Ix (by simpa using hi),Jw,e]
 rw[this];simp
theorem E_ (L:dF prog w A E s a₀ κ key){u v o:Array Keyed}{i j g ca cb:Nat}{st:SortSt}{Q:ForInStep St6→SortSt→Prop}(hk:kindOf st=κ)(P:Pre a₀ key u v)(M:MI key u v o i j)(hi:i + 1 < u.size)(hj:j < v.size)
  (hd:∀ z r,Res key u v z→Q (.done (some z,r)) st) (hn:∀ o' i' j' ca' cb',MI key u v o' i' j'→i' + 1 < u.size→j' < v.size→o.size < o'.size→Q (.done (none,o',i',j',ca',cb')) st∧Q (.yield (none,o',i',j',ca',cb')) st) :
  wpS (model prog w) A E s (tQ u v g (none,o,i,j,ca,cb)) Q st:=by
 unfold tQ;have B:v[j]? = some v[j]:=Hy hj;have G:u[i]? = some u[i]:=Hy (by omega);dsimp only;refine HR (dh B (HR (dh G (HR (vR L hk (P.mv _ (eZ B)) (P.mu _ (eZ G)) ?_)))));dsimp only;have ml:=M.len;by_cases c:key v[j] < key u[i]
 ·rw[if_pos (Hr c)];refine HR (dh B ?_);have M':MI key u v (o.push v[j]) i (j + 1):=M.takeB (ir o v B) (by assumption) fun x O y U=>by
   obtain⟨t,t1,t2,t3,J⟩:=gL O;obtain⟨r,Y,r2,r3⟩:=fM U;have et:t=j:=by lia
   rw[et,B]at J;have ex:=Option.some.inj J
   have:=P.su i r (HE _) Y r2
   rw[ay G,ay r3]at this;rw[← ex];lia
  have ml':=M'.len;by_cases e:j + 1=v.size
  ·rw[if_pos (by simpa using e)];exact Ib (hd _ _ (mO M' (.inr e)))
  ·rw[if_neg (by simpa using e)];obtain⟨q1,q2⟩:=hn _ i (j + 1) 0 (cb + 1) M' hi (by lia) (by simp)
   split
   ·exact Ib q1
   ·exact Ib q2
 ·rw[if_neg (by simpa using c)];refine HR (dh G ?_);have M':MI key u v (o.push u[i]) (i + 1) j:=M.takeA (ir o u G) (by lia) fun x O y U=>by
   obtain⟨t,t1,t2,t3,J⟩:=gL O;obtain⟨r,Y,r2,r3⟩:=fM U;have et:t=i:=by lia
   rw[et,G]at J;have ex:=Option.some.inj J
   have:=P.sv j r (HE _) Y r2
   rw[ay B,ay r3]at this;rw[← ex];lia
  have ml':=M'.len;by_cases e:i + 1 + 1=u.size
  ·rw[if_pos (by simpa using e)];exact Ib (hd _ _ (pG M' (P.lastA e)))
  ·rw[if_neg (by simpa using e)];obtain⟨q1,q2⟩:=hn _ (i + 1) j (ca + 1) 0 M' (by lia) hj (by simp)
   split
   ·exact Ib q1
   ·exact Ib q2
theorem sr {u v o:Array Keyed}{i j g J O n:Nat}{st:SortSt}{Q:ForInStep St7→SortSt→Prop}(P:Pre a₀ key u v)(M:MI key u v o i j)(hi:i + 1 < u.size)(hj:j < v.size)(Y:∀ y∈v.toList.drop j,kat key u i≤key y)(hs:n≤o.size)
  (hd:∀ z r,Res key u v z→Q (.done (some z,r)) st) (hn:∀ o' i' j' g' ca' cb',MI key u v o' i' j'→i' + 1 < u.size→j' < v.size→n < o'.size→Q (.done (none,o',i',j',g',ca',cb')) st∧Q (.yield (none,o',i',j',g',ca',cb')) st) :
  wpS (model prog w) A E s (uB u v o i j g J O) Q st:=by
 unfold uB;have B:u[i]? = some u[i]:=Hy (by omega);refine HR (dh B ?_);have ml:=M.len;have M':MI key u v (o.push u[i]) (i + 1) j:=M.takeA (ir o u B) (by lia) fun x G y hy=>by
  obtain⟨t,t1,t2,t3,U⟩:=gL G;have et:t=i:=by lia
  rw[et,B]at U;have ex:=Option.some.inj U
  have:=Y y hy
  rw[ay B]at this;rw[← ex];exact this
 have ml':=M'.len;by_cases e:i + 1 + 1=u.size
 ·rw[if_pos (by simpa using e)];exact Ib (hd _ _ (pG M' (P.lastA e)))
 ·rw[if_neg (by simpa using e)];obtain⟨q1,q2⟩:=hn _ (i + 1) j g J O M' (by lia) hj (by lia)
  split
  ·exact Ib q1
  ·exact Ib q2
theorem wD (o u:Array Keyed)(i k:Nat):(o++u.extract i (i + k)).toList=o.toList++(u.toList.drop i).take k:=by rw[IE,DX]
theorem oU (h:Seg key u a b)(h1:a≤c)(h2:d≤b):Seg key u c d:=fun i j x y z=>h i j (by lia) y (by lia)
theorem so (L:dF prog w A E s a₀ κ key){u v o:Array Keyed}{i j g ca cb n:Nat}{st:SortSt}{Q:ForInStep St7→SortSt→Prop}(hk:kindOf st=κ)(P:Pre a₀ key u v)(M:MI key u v o i j)(hi:i + 1 < u.size)(hj:j < v.size)(hx:∀ y∈u.toList.drop i,kat key v j≤key y)(hs:n≤o.size)
  (O:∀ z r,Res key u v z→Q (.done (some z,r)) st) (hn:∀ o' i' j' g' ca' cb',MI key u v o' i' j'→i' + 1 < u.size→j' < v.size→n < o'.size→Q (.done (none,o',i',j',g',ca',cb')) st∧Q (.yield (none,o',i',j',g',ca',cb')) st) :
  wpS (model prog w) A E s (uA u v o i j g ca cb) Q st:=by
 unfold uA;have U:v[j]? = some v[j]:=Hy hj;have Y:u[i]? = some u[i]:=Hy (by omega);refine HR (dh U ?_);have ml:=M.len;have M':MI key u v (o.push v[j]) i (j + 1):=M.takeB (ir o v U) (by assumption) fun x G y J=>by
  obtain⟨t,t1,t2,t3,t4⟩:=gL G;have et:t=j:=by lia
  rw[et,U]at t4;have ex:=Option.some.inj t4
  have:=hx y J
  rw[ay U]at this;rw[← ex];exact this
 have ml':=M'.len;by_cases e:j + 1=v.size
 ·rw[if_pos (by simpa using e)];exact Ib (O _ _ (mO M' (.inr e)))
 ·rw[if_neg (by simpa using e)];refine HR (dh Y (HR (fU L hk (P.mu _ (eZ Y)) P.mv (by lia) (by lia) (oU P.sv (by simp) (by lia)) fun k k1 k2 k3 =>?_)));dsimp only;have lo:∀ t,j + 1≤t→t < j + 1 + k→kat key v t < key u[i]:=fun t t1 t2=>by
   have:=k2 (t - (j + 1)) (by lia)
   unfold aO at this;rw[if_pos rfl,show j + 1 + (t - (j + 1))=t by lia]at this;exact HG this
  have hi':∀ t,j + 1 + k≤t→t < v.size→key u[i]≤kat key v t:=fun t t1 t2=>by
   have:=k3 (t - (j + 1)) (by lia) (by lia)
   unfold aO at this;rw[if_pos rfl,show j + 1 + (t - (j + 1))=t by lia]at this
   have:=JD this
   lia
  have B:∀ y∈v.toList.drop (j + 1 + k),kat key u i≤key y:=fun y J=>by
   obtain⟨r,r1,r2,r3⟩:=fM J
   have:=hi' r r1 r2
   rw[ay r3]at this;rw[ay Y];exact this
  by_cases hk0:k > 0
  ·rw[if_pos hk0];have M2:MI key u v (o.push v[j]++v.extract (j + 1) (j + 1 + k)) i (j + 1 + k):=M'.takeB (wD _ v (j + 1) k) (by lia) fun x G y J=>by
    obtain⟨t,t1,t2,t3,t4⟩:=gL G;obtain⟨r,r1,r2,r3⟩:=fM J;have a1:=lo t t1 t2;have a2:=P.su i r (HE _) r1 r2;rw[ay t4]at a1;rw[ay Y,ay r3]at a2
    lia
   have a0:=M2.len;by_cases e3:j + 1 + k=v.size
   ·rw[if_pos (by simpa using e3)];exact Ib (O _ _ (mO M2 (.inr e3)))
   ·rw[if_neg (by simpa using e3)];exact sr P M2 hi (by lia) B (by lia) O hn
  ·rw[if_neg hk0];have k0:k=0:=by lia
   subst k0;exact sr P M' hi (by lia) B (by lia) O hn
theorem sk (L:dF prog w A E s a₀ κ key){u v o:Array Keyed}{i j g ca cb:Nat}{st:SortSt}{Q:ForInStep St7→SortSt→Prop}(O:kindOf st=κ)(P:Pre a₀ key u v)(M:MI key u v o i j)(hi:i + 1 < u.size)(hj:j < v.size)
  (G:∀ z r,Res key u v z→Q (.done (some z,r)) (aX st g)) (hn:∀ o' i' j' g' ca' cb',MI key u v o' i' j'→i' + 1 < u.size→j' < v.size→o.size < o'.size→Q (.done (none,o',i',j',g',ca',cb')) (aX st g)∧Q (.yield (none,o',i',j',g',ca',cb')) (aX st g)) :
  wpS (model prog w) A E s (uw u v o i j g ca cb) Q st:=by
 unfold uw;have J:v[j]? = some v[j]:=Hy hj;refine HR (wpS_modify (HR (dh J (HR (fU L O (P.mv _ (eZ J)) P.mu (by lia) (by lia) (oU P.su (by simp) (by lia)) fun k k1 k2 k3 =>?_)))));dsimp only;have ml:=M.len;have lo:∀ t,i≤t→t < i + k→kat key u t≤key v[j]:=fun t U Y=>by
  have:=k2 (t - i) (by lia)
  unfold aO at this;rw[if_neg (by decide),show i + (t - i)=t by lia]at this
  have:¬ key v[j] < kat key u t:=by simpa using this
  lia
 have hi':∀ t,i + k≤t→t < u.size→key v[j] < kat key u t:=fun t U Y=>by
  have:=k3 (t - i) (by lia) (by lia)
  unfold aO at this;rw[if_neg (by decide),show i + (t - i)=t by lia]at this
  have:key v[j] < kat key u t:=by simpa using this
  exact this
 have B:∀ y∈u.toList.drop (i + k),kat key v j≤key y:=fun y hy=>by
  obtain⟨r,r1,r2,r3⟩:=fM hy
  have:=hi' r r1 r2
  rw[ay r3]at this;rw[ay J];lia
 by_cases hk0:k > 0
 ·rw[if_pos hk0];have M2:MI key u v (o++u.extract i (i + k)) (i + k) j:=M.takeA (wD _ u i k) (by lia) fun x a0 y hy=>by
   obtain⟨t,U,Y,t3,t4⟩:=gL a0;obtain⟨r,r1,r2,r3⟩:=fM hy;have a1:=lo t U Y;have a2:=P.sv j r (HE _) r1 r2;rw[ay t4]at a1;rw[ay J,ay r3]at a2
   lia
  have a3:=M2.len;by_cases e3:i + k + 1=u.size
  ·rw[if_pos (by simpa using e3)];exact Ib (G _ _ (pG M2 (P.lastA e3)))
  ·rw[if_neg (by simpa using e3)];by_cases e4:i + k=u.size
   ·rw[if_pos (by simpa using e4)];exact Ib (G _ _ (mO M2 (.inl e4)))
   ·rw[if_neg (by simpa using e4)];exact so L (st:=aX st g) O P M2 (by lia) hj B (by simp) G hn
 ·rw[if_neg hk0];have k0:k=0:=by lia
  subst k0;exact so L (st:=aX st g) O P M hi hj B (by simp) G hn
theorem AT (L:dF prog w A E s a₀ κ key){st:SortSt}(hk:kindOf st=κ)(P:Pre a₀ key u v)(M:MI key u v o i j)(hi:i + 1 < u.size)(hj:j < v.size)
  (hd:∀ z r g',Res key u v z→Q (.done (some z,r)) (aX st g')) (hn:∀ o' J O g' g'',MI key u v o' J O→J + 1 < u.size→O < v.size→o.size < o'.size→Q (.yield (none,o',J,O,g')) (aX st g'')) :
  wpS (model prog w) A E s (nH u v (none,o,i,j,g)) Q st:=by
 unfold nH;have ml:=M.len;refine HR (Ko (wpS_forRange (I:=fun t c B=>B=st∧∃ o' J O U Y,c=(none,o',J,O,U,Y)∧MI key u v o' J O∧J + 1 < u.size∧O < v.size∧o.size + t≤o'.size)
  (Q:=fun c B=>B=st∧((∃ z r,c=(some z,r)∧Res key u v z)∨∃ o' J O U Y,c=(none,o',J,O,U,Y)∧MI key u v o' J O∧J + 1 < u.size∧O < v.size∧o.size < o'.size)) ?step ?fin ⟨rfl,o,i,j,0,0,rfl,M,hi,hj,by simp⟩) ?post)
 case fin =>
  rintro c B ⟨rfl,o',J,O,U,Y,rfl,M',h1,h2,h3⟩
  have:=M'.len
  lia
 case step =>
  rintro t c B _ ht ⟨rfl,o',J,O,U,Y,rfl,M',h1,h2,h3⟩;exact E_ L hk P M' h1 h2 (fun z r hz=>⟨rfl,.inl ⟨z,r,rfl,hz⟩⟩) fun o2 i2 j2 a2 a3 M2 g1 g2 g3=>⟨⟨rfl,.inr ⟨o2,i2,j2,a2,a3,rfl,M2,g1,g2,by lia⟩⟩,rfl,o2,i2,j2,a2,a3,rfl,M2,g1,g2,by lia⟩
 case post =>
  rintro c B ⟨rfl,h⟩;rcases h with⟨z,r,rfl,hz⟩ | ⟨o',J,O,U,Y,rfl,M',h1,h2,h3⟩
  ·exact Ib (hd z _ (gallopOf B) hz)
  ·dsimp only;refine HR (wpS_lift (wpAny_rule ⟨rfl,?_⟩));refine HR (Ko (wpS_forRange (I:=fun t c G=>∃ g',G=aX B g'∧∃ o2 i2 j2 g2 U Y,c=(none,o2,i2,j2,g2,U,Y)∧MI key u v o2 i2 j2∧i2 + 1 < u.size∧j2 < v.size∧o'.size + t≤o2.size)
    (Q:=fun c G=>∃ g',G=aX B g'∧((∃ z r,c=(some z,r)∧Res key u v z)∨∃ o2 i2 j2 g2 U Y,c=(none,o2,i2,j2,g2,U,Y)∧MI key u v o2 i2 j2∧i2 + 1 < u.size∧j2 < v.size∧o.size < o2.size)) ?gstep ?gfin ⟨gallopOf B,rfl,o',J,O,g + 1,U,Y,rfl,M',h1,h2,by simp⟩) ?gpost)
   case gfin =>
    rintro c G ⟨g',rfl,o2,i2,j2,g2,U,Y,rfl,M2,q1,q2,q3⟩
    have:=M2.len
    have:=M'.len
    lia
   case gstep =>
    rintro t c G _ ht ⟨g',rfl,o2,i2,j2,g2,U,Y,rfl,M2,q1,q2,q3⟩;show wpS _ _ _ _ (uz u v (none,o2,i2,j2,g2,U,Y)) _ _;unfold uz;dsimp only
    split
    ·exact sk L (st:=aX B g') hk P M2 q1 q2 (fun z r hz=>⟨_,rfl,.inl ⟨z,r,rfl,hz⟩⟩) fun o3 i3 j3 g3 a0 a1 M3 k1 k2 k3=>⟨⟨_,rfl,.inr ⟨o3,i3,j3,g3,a0,a1,rfl,M3,k1,k2,by lia⟩⟩,_,rfl,o3,i3,j3,g3,a0,a1,rfl,M3,k1,k2,by lia⟩
    ·exact sk L (st:=aX B g') hk P M2 q1 q2 (fun z r hz=>⟨_,rfl,.inl ⟨z,r,rfl,hz⟩⟩) fun o3 i3 j3 g3 a0 a1 M3 k1 k2 k3=>⟨⟨_,rfl,.inr ⟨o3,i3,j3,g3,a0,a1,rfl,M3,k1,k2,by lia⟩⟩,_,rfl,o3,i3,j3,g3,a0,a1,rfl,M3,k1,k2,by lia⟩
   case gpost =>
    rintro c G ⟨g',rfl,h⟩;rcases h with⟨z,r,rfl,hz⟩ | ⟨o2,i2,j2,g2,U,Y,rfl,M2,q1,q2,q3⟩
    ·exact Ib (hd z _ g' hz)
    ·dsimp only;exact HR (wpS_modify (Ib (hn o2 i2 j2 _ _ M2 q1 q2 q3)))
theorem Gh (L:dF prog w A E s a₀ κ key){u v:Array Keyed}{st:SortSt}{Q:Array Keyed→SortSt→Prop}(hk:kindOf st=κ)(P:Pre a₀ key u v)(G:∀ z g',Res key u v z→Q z (aX st g')):wpS (model prog w) A E s (loP u v) Q st:=by
 rw[Ff];refine HR (wpS_lift (wpAny_rule ⟨rfl,?_⟩));have hu:=P.hu;have hv:=P.hv;have Y:v[0]? = some v[0]:=Hy (by assumption);refine HR (dh Y ?_);have M0:MI key u v #[] 0 0:=⟨by simp,by simpa using md.mpr P.su,by simpa using md.mpr P.sv,HE _,HE _⟩;have M:MI key u v #[v[0]] 0 (0 + 1):=M0.takeB (by have:=ir #[] v Y;simpa using this) (by omega) fun x hx y hy=>by
  obtain⟨t,t1,t2,t3,t4⟩:=gL hx;obtain⟨r,r1,r2,r3⟩:=fM hy;have et:t=0:=by lia
  rw[et]at t4;have a1:=P.su 0 r (HE _) r1 r2;have a2:=P.first;rw[ay t4]at a2;rw[ay r3]at a1
  lia
 rw[Jb]at M;by_cases c1:1=v.size
 ·rw[if_pos (by simpa using c1)];exact Ib (G _ (gallopOf st) (mO M (.inr c1)))
 ·rw[if_neg (by simpa using c1)];by_cases c2:0 + 1=u.size
  ·rw[if_pos (by simpa using c2)];exact Ib (G _ (gallopOf st) (pG M (P.lastA c2)))
  ·rw[if_neg (by simpa using c2)];refine HR (wpS_get ?_);refine HR (Ko (wpS_forRange (I:=fun t c B=>∃ g',B=aX st g'∧∃ o i j g,c=(none,o,i,j,g)∧MI key u v o i j∧i + 1 < u.size∧j < v.size∧t < o.size)
    (Q:=fun c B=>∃ g',B=aX st g'∧∃ z r,c=(some z,r)∧Res key u v z) ?step ?fin ⟨gallopOf st,rfl,#[v[0]],0,1,_,rfl,M,by lia,by lia,by simp⟩) ?post)
   case fin =>
    rintro c B ⟨g',rfl,o,i,j,g,rfl,J,h1,h2,h3⟩
    have:=J.len
    lia
   case step =>
    rintro t c B _ ht ⟨g',rfl,o,i,j,g,rfl,J,h1,h2,h3⟩;exact AT L (st:=aX st g') hk P J h1 h2 (fun z r O U=>⟨O,rfl,z,r,rfl,U⟩) fun o2 i2 j2 O g3 M2 q1 q2 q3=>⟨g3,rfl,o2,i2,j2,O,rfl,M2,q1,q2,by lia⟩
   case post =>
    rintro c B ⟨g',rfl,z,r,rfl,U⟩;exact Ib (G z g' U)
end
section
variable {w:World}
def hiP:Array Keyed→Array Keyed→StateT SortSt Sem (Array Keyed):=sortPriv% PySem.Builtin.mergeHi
abbrev Sh7:=Option (Array Keyed) × Nat × Nat × Array Keyed × Nat × Nat × Nat
abbrev Sh6:=Option (Array Keyed) × Nat × Nat × Array Keyed × Nat × Nat
abbrev Sh5:=Option (Array Keyed) × Nat × Nat × Array Keyed × Nat
def qQ (u v o:Array Keyed)(i j:Nat):Array Keyed:=u.extract 0 i++v.extract 0 j++o.reverse
def xG (u v o:Array Keyed)(i j:Nat):Array Keyed:=v.extract 0 j++u.extract 0 i++o.reverse
def BD (u v:Array Keyed)(g:Nat)(r:Sh6):StateT SortSt Sem (ForInStep Sh6):=do
 let y ← elem' v (r.2.2.1 - 1)
 let x ← elem' u (r.2.1 - 1)
 let z ← lt' y x
 match z with
 | some won =>
  if won=true then do
   let x ← elem' u (r.2.1 - 1)
   if (r.2.1 - 1 == 0)=true then pure (.done (some (qQ u v (r.2.2.2.1.push x) (r.2.1 - 1) r.2.2.1),r.2.1 - 1,r.2.2.1,r.2.2.2.1.push x,r.2.2.2.2.1 + 1,0))
   else if r.2.2.2.2.1 + 1 ≥ g then pure (.done (none,r.2.1 - 1,r.2.2.1,r.2.2.2.1.push x,r.2.2.2.2.1 + 1,0))
   else pure (.yield (none,r.2.1 - 1,r.2.2.1,r.2.2.2.1.push x,r.2.2.2.2.1 + 1,0))
  else do
   let y ← elem' v (r.2.2.1 - 1)
   if (r.2.2.1 - 1 == 1)=true then pure (.done (some (xG u v (r.2.2.2.1.push y) r.2.1 (r.2.2.1 - 1)),r.2.1,r.2.2.1 - 1,r.2.2.2.1.push y,0,r.2.2.2.2.2 + 1))
   else if r.2.2.2.2.2 + 1 ≥ g then pure (.done (none,r.2.1,r.2.2.1 - 1,r.2.2.2.1.push y,0,r.2.2.2.2.2 + 1))
   else pure (.yield (none,r.2.1,r.2.2.1 - 1,r.2.2.2.1.push y,0,r.2.2.2.2.2 + 1))
 | _=>pure (.done (some (qQ u v r.2.2.2.1 r.2.1 r.2.2.1),r.2.1,r.2.2.1,r.2.2.2.1,r.2.2.2.2.1,r.2.2.2.2.2))
def yF (u v o:Array Keyed)(i j g ca cb:Nat):StateT SortSt Sem (ForInStep Sh7):=do
 let x ← elem' u (i - 1)
 if (i - 1 == 0)=true then pure (.done (some (qQ u v (o.push x) (i - 1) j),i - 1,j,o.push x,g,ca,cb))
 else if (decide (ca < 7) && decide (cb < 7))=true then pure (.done (none,i - 1,j,o.push x,g,ca,cb))
 else pure (.yield (none,i - 1,j,o.push x,g,ca,cb))
def yE (u v o:Array Keyed)(i j g ca cb:Nat):StateT SortSt Sem (ForInStep Sh7):=do
 let y ← elem' v (j - 1)
 if (j - 1 == 1)=true then pure (.done (some (xG u v (o.push y) i (j - 1)),i,j - 1,o.push y,g,ca,cb)) else do
  let x ← elem' u (i - 1)
  let z ← fN true x v 0 (j - 1) (j - 1 - 1)
  match z with
  | some k =>
   if j - 1 - k > 0 then
    if (k == 1)=true then pure (.done (some (xG u v (o.push y++(v.extract k (j - 1)).reverse) i k),i,k,o.push y++(v.extract k (j - 1)).reverse,g,ca,j - 1 - k))
    else if (k == 0)=true then pure (.done (some (qQ u v (o.push y++(v.extract k (j - 1)).reverse) i k),i,k,o.push y++(v.extract k (j - 1)).reverse,g,ca,j - 1 - k))
    else yF u v (o.push y++(v.extract k (j - 1)).reverse) i k g ca (j - 1 - k)
   else yF u v (o.push y) i (j - 1) g ca (j - 1 - k)
  | _=>pure (.done (some (qQ u v (o.push y) i (j - 1)),i,j - 1,o.push y,g,ca,cb))
def yD (u v o:Array Keyed)(i j g ca cb:Nat):StateT SortSt Sem (ForInStep Sh7):=do
 modify fun st=>aX st g
 let y ← elem' v (j - 1)
 let z ← fN false y u 0 i (i - 1)
 match z with
 | some k =>
  if i - k > 0 then
   if (k == 0)=true then pure (.done (some (qQ u v (o++(u.extract k i).reverse) k j),k,j,o++(u.extract k i).reverse,g,i - k,cb))
   else yE u v (o++(u.extract k i).reverse) k j g (i - k) cb
  else yE u v o i j g (i - k) cb
 | _=>pure (.done (some (qQ u v o i j),i,j,o,g,ca,cb))
def xC (u v:Array Keyed)(r:Sh7):StateT SortSt Sem (ForInStep Sh7) :=
 if r.2.2.2.2.1 > 1 then yD u v r.2.2.2.1 r.2.1 r.2.2.1 (r.2.2.2.2.1 - 1) r.2.2.2.2.2.1 r.2.2.2.2.2.2 else yD u v r.2.2.2.1 r.2.1 r.2.2.1 r.2.2.2.2.1 r.2.2.2.2.2.1 r.2.2.2.2.2.2
def tD (u v:Array Keyed)(r:Sh5):StateT SortSt Sem (ForInStep Sh5):=do
 let q ← forIn [0:u.size + v.size] ((none,r.2.1,r.2.2.1,r.2.2.2.1,0,0):Sh6) fun _ q=>BD u v r.2.2.2.2 q
 match q.1 with
 | some z=>pure (.done (some z,q.2.1,q.2.2.1,q.2.2.2.1,r.2.2.2.2))
 | none=>do
  liftM (rule "list.sort.gallop")
  let p ← forIn [0:u.size + v.size] ((none,q.2.1,q.2.2.1,q.2.2.2.1,r.2.2.2.2 + 1,q.2.2.2.2.1,q.2.2.2.2.2):Sh7) fun _ p=>xC u v p
  match p.1 with
  | some z=>pure (.done (some z,p.2.1,p.2.2.1,p.2.2.2.1,p.2.2.2.2.1))
  | none=>do
   modify fun st=>aX st (p.2.2.2.2.1 + 1)
   pure (.yield (none,p.2.1,p.2.2.1,p.2.2.2.1,p.2.2.2.2.1 + 1))
theorem Ft (u v:Array Keyed):hiP u v=(do
  liftM (rule "list.sort.merge-hi")
  let x ← elem' u (u.size - 1)
  if (u.size - 1 == 0)=true then pure (qQ u v #[x] (u.size - 1) v.size) else
   if (v.size == 1)=true then pure (xG u v #[x] (u.size - 1) v.size) else do
    let st ← get
    let r ← forIn [0:u.size + v.size] ((none,u.size - 1,v.size,#[x],gallopOf st):Sh5) fun _ r=>tD u v r
    match r.1 with
    | some z=>pure z
    | none=>liftM (unsupported "internal:list.sort.merge-bound" : Sem (Array Keyed))):=by
 kernel_rfl
theorem pU (h1:Srt key (m++o))(h2:Srt key (r++o))(J:∀ x∈r,∀ y∈m,key x≤key y):Srt key (r++(m++o)):=by
 unfold Srt at h1 h2 ⊢;rw[Iu]at h2;refine Iu.mpr ⟨h2.1,h1,fun x G y B =>?_⟩;rcases HD.mp B with B | B
 ·exact J x G y B
 ·exact h2.2.2 x G y B
structure HI (key:Keyed→Int)(u v o:Array Keyed)(i j:Nat):Prop where
 perm:(u.toList.take i++v.toList.take j++o.toList.reverse).Perm (u.toList++v.toList)
 sa:Srt key (u.toList.take i++o.toList.reverse)
 sb:Srt key (v.toList.take j++o.toList.reverse)
 hi:i≤u.size
 hj:j≤v.size
theorem HI.len (h:HI key u v o i j):o.size + i + j=u.size + v.size:=by
 have:=h.perm.length_eq
 have h1:=h.hi;have h2:=h.hj;simp only[Hs,IC,List.length_reverse,Il]at this
 lia
theorem pR (l:List Keyed)(h:k≤i):l.take k++(l.take i).drop k=l.take i:=by
 have:=IB k (l.take i)
 rwa [List.take_take,Nat.min_eq_left h]at this
theorem EW (T D V R W:List Keyed)(e:T++D=W):(T++V++(D++R)).Perm (W++V++R):=by
 rw[← e,HW,HW,HW];refine List.Perm.append_left _ ?_;rw[← HW,← HW];exact List.Perm.append_right _ JH
theorem EV (T D U R W:List Keyed)(e:T++D=W):(U++T++(D++R)).Perm (U++W++R):=by
 rw[← e];simp only[HW];exact List.Perm.refl _
theorem HI.takeA (h:HI key u v o i j)(B:o'.toList.reverse=(u.toList.take i).drop k++o.toList.reverse)(G:k≤i)(J:∀ x∈v.toList.take j,∀ y∈(u.toList.take i).drop k,key x≤key y):HI key u v o' k j:=by
 have e:=pR u.toList G;have hi:=h.hi;refine⟨?_,?_,?_,by lia,h.hj⟩
 ·rw[B];exact (EW _ _ _ _ _ e).trans h.perm
 ·rw[B,← HW,e];exact h.sa
 ·rw[B];have h1:Srt key ((u.toList.take i).drop k++o.toList.reverse):=by
   have:=h.sa
   rw[← e,HW]at this;exact (Iu.mp this).2.1
  exact pU h1 h.sb J
theorem HI.takeB (h:HI key u v o i j)(B:o'.toList.reverse=(v.toList.take j).drop k++o.toList.reverse)(G:k≤j)(J:∀ x∈u.toList.take i,∀ y∈(v.toList.take j).drop k,key x≤key y):HI key u v o' i k:=by
 have e:=pR v.toList G;have hj:=h.hj;refine⟨?_,?_,?_,h.hi,by lia⟩
 ·rw[B];exact (EV _ _ _ _ _ e).trans h.perm
 ·rw[B];have h1:Srt key ((v.toList.take j).drop k++o.toList.reverse):=by
   have:=h.sb
   rw[← e,HW]at this;exact (Iu.mp this).2.1
  exact pU h1 h.sa J
 ·rw[B,← HW,e];exact h.sb
theorem mS (u:Array Keyed)(i:Nat):(u.extract 0 i).toList=u.toList.take i:=by
 rw[JO,Ju];simp
theorem iw (u:Array Keyed)(k i:Nat):(u.extract k i).toList=(u.toList.take i).drop k:=by
 rw[JO,Ju,Kd]
theorem mP (h:HI key u v o i j)(B:i=0∨j=0):Res key u v (qQ u v o i j):=by
 have e:(qQ u v o i j).toList=u.toList.take i++v.toList.take j++o.toList.reverse:=by
  unfold qQ;rw[IE,IE,mS,mS,Kk]
 refine⟨by rw[e];exact h.perm,?_⟩;rw[e];rcases B with B | B
 ·rw[B];simpa using h.sb
 ·have:=h.sa
  rw[B];simpa using this
theorem pH (h:HI key u v o i j)(B:∀ x∈v.toList.take j,∀ y∈u.toList.take i,key x≤key y):Res key u v (xG u v o i j):=by
 have e:(xG u v o i j).toList=v.toList.take j++u.toList.take i++o.toList.reverse:=by
  unfold xG;rw[IE,IE,mS,mS,Kk]
 refine⟨?_,?_⟩
 ·rw[e];exact (List.Perm.append_right _ JH).trans h.perm
 ·rw[e,HW];exact pU h.sa h.sb B
theorem fL {u:Array Keyed}{i:Nat}{y:Keyed}(h:y∈u.toList.take i):∃ t,t < i∧t < u.size∧u[t]? = some y:=by
 obtain⟨t,B,e⟩:=Km h;rw[IC,Il]at B;rw[List.getElem_take]at e;refine⟨t,by lia,by lia,?_⟩;rw[← e,Jw];exact Hy _
theorem fK {u:Array Keyed}{i k:Nat}{y:Keyed}(h:y∈(u.toList.take i).drop k):∃ t,k≤t∧t < i∧t < u.size∧u[t]? = some y:=by
 rw[Kd]at h;obtain⟨t,B,O,G,J⟩:=gL h;exact⟨t,B,by lia,G,J⟩
theorem Pre.firstB {u v:Array Keyed}{i j:Nat}(P:Pre a₀ key u v)(hj:j=1):∀ x∈v.toList.take j,∀ y∈u.toList.take i,key x≤key y:=fun x G y J=>by
 obtain⟨t,h1,h2,B⟩:=fL G;obtain⟨r,Y,O,U⟩:=fL J;have e:t=0:=by lia
 rw[e]at B;rw[← ay (key:=key) B,← ay (key:=key) U]
 have:=P.su 0 r (HE _) (HE _) O
 have:=P.first
 lia
theorem jJ (o u:Array Keyed)(h1:1≤i)(h:u[i - 1]? = some x):(o.push x).toList.reverse=(u.toList.take i).drop (i - 1)++o.toList.reverse:=by
 obtain⟨hi,e⟩:=Ja.mp h
 have:(u.toList.take i).drop (i - 1)=[x]:=by
  rw[Kd,show i - (i - 1)=1 by lia,Ix (by simpa using hi),Jw,e];rfl
 rw[this];simp
theorem za (o u:Array Keyed)(k i:Nat):(o++(u.extract k i).reverse).toList.reverse=(u.toList.take i).drop k++o.toList.reverse:=by
 rw[IE,Kk,List.reverse_append,List.reverse_reverse,iw]
theorem BC (L:dF prog w A E s a₀ κ key){u v o:Array Keyed}{i j g ca cb:Nat}{st:SortSt}{Q:ForInStep Sh6→SortSt→Prop}(hk:kindOf st=κ)(P:Pre a₀ key u v)(M:HI key u v o i j)(hi:1≤i)(hj:2≤j)
  (hd:∀ z r,Res key u v z→Q (.done (some z,r)) st) (hn:∀ o' i' j' ca' cb',HI key u v o' i' j'→1≤i'→2≤j'→o.size < o'.size→Q (.done (none,i',j',o',ca',cb')) st∧Q (.yield (none,i',j',o',ca',cb')) st) :
  wpS (model prog w) A E s (BD u v g (none,i,j,o,ca,cb)) Q st:=by
 unfold BD;have b1:=M.hi;have b2:=M.hj;have B:v[j - 1]? = some v[j - 1]:=Hy (by omega);have G:u[i - 1]? = some u[i - 1]:=Hy (by omega);dsimp only;refine HR (dh B (HR (dh G (HR (vR L hk (P.mv _ (eZ B)) (P.mu _ (eZ G)) ?_)))));dsimp only;have ml:=M.len;by_cases c:key v[j - 1] < key u[i - 1]
 ·rw[if_pos (Hr c)];refine HR (dh G ?_);have M':HI key u v (o.push u[i - 1]) (i - 1) j:=M.takeA (jJ o u hi G) (by simp) fun x O y U=>by
   obtain⟨r,r1,r2,Y⟩:=fL O;obtain⟨t,t1,t2,t3,J⟩:=fK U;have et:t=i - 1:=by lia
   rw[et,G]at J;have ex:=Option.some.inj J
   have:=P.sv r (j - 1) (HE _) (by lia) (by lia)
   rw[ay B,ay Y]at this;rw[← ex];lia
  have ml':=M'.len;by_cases e:i - 1=0
  ·rw[if_pos (by simpa using e)];exact Ib (hd _ _ (mP M' (.inl e)))
  ·rw[if_neg (by simpa using e)];obtain⟨q1,q2⟩:=hn _ (i - 1) j (ca + 1) 0 M' (by lia) hj (by simp)
   split
   ·exact Ib q1
   ·exact Ib q2
 ·rw[if_neg (by simpa using c)];refine HR (dh B ?_);have M':HI key u v (o.push v[j - 1]) i (j - 1):=M.takeB (jJ o v (by lia) B) (by simp) fun x O y U=>by
   obtain⟨r,r1,r2,Y⟩:=fL O;obtain⟨t,t1,t2,t3,J⟩:=fK U;have et:t=j - 1:=by lia
   rw[et,B]at J;have ex:=Option.some.inj J
   have:=P.su r (i - 1) (HE _) (by lia) (by lia)
   rw[ay G,ay Y]at this;rw[← ex];lia
  have ml':=M'.len;by_cases e:j - 1=1
  ·rw[if_pos (by simpa using e)];exact Ib (hd _ _ (pH M' (P.firstB e)))
  ·rw[if_neg (by simpa using e)];obtain⟨q1,q2⟩:=hn _ i (j - 1) 0 (cb + 1) M' hi (by lia) (by simp)
   split
   ·exact Ib q1
   ·exact Ib q2
theorem vZ {u v o:Array Keyed}{i j g J O n:Nat}{st:SortSt}{Q:ForInStep Sh7→SortSt→Prop}(P:Pre a₀ key u v)(M:HI key u v o i j)(hi:1≤i)(hj:2≤j)(Y:∀ y∈v.toList.take j,key y≤kat key u (i - 1))(hs:n≤o.size)
  (hd:∀ z r,Res key u v z→Q (.done (some z,r)) st) (hn:∀ o' i' j' g' ca' cb',HI key u v o' i' j'→1≤i'→2≤j'→n < o'.size→Q (.done (none,i',j',o',g',ca',cb')) st∧Q (.yield (none,i',j',o',g',ca',cb')) st) :
  wpS (model prog w) A E s (yF u v o i j g J O) Q st:=by
 unfold yF;have b1:=M.hi;have B:u[i - 1]? = some u[i - 1]:=Hy (by omega);refine HR (dh B ?_);have ml:=M.len;have M':HI key u v (o.push u[i - 1]) (i - 1) j:=M.takeA (jJ o u hi B) (by simp) fun x G y hy=>by
  obtain⟨t,t1,t2,t3,U⟩:=fK hy;have et:t=i - 1:=by lia
  rw[et,B]at U;have ex:=Option.some.inj U
  have:=Y x G
  rw[ay B]at this;rw[← ex];exact this
 have ml':=M'.len;by_cases e:i - 1=0
 ·rw[if_pos (by simpa using e)];exact Ib (hd _ _ (mP M' (.inl e)))
 ·rw[if_neg (by simpa using e)];obtain⟨q1,q2⟩:=hn _ (i - 1) j g J O M' (by lia) hj (by lia)
  split
  ·exact Ib q1
  ·exact Ib q2
theorem vY (L:dF prog w A E s a₀ κ key){u v o:Array Keyed}{i j g ca cb n:Nat}{st:SortSt}{Q:ForInStep Sh7→SortSt→Prop}(hk:kindOf st=κ)(P:Pre a₀ key u v)(M:HI key u v o i j)(hi:1≤i)(hj:2≤j)(hx:∀ y∈u.toList.take i,key y≤kat key v (j - 1))(hs:n≤o.size)
  (O:∀ z r,Res key u v z→Q (.done (some z,r)) st) (hn:∀ o' i' j' g' ca' cb',HI key u v o' i' j'→1≤i'→2≤j'→n < o'.size→Q (.done (none,i',j',o',g',ca',cb')) st∧Q (.yield (none,i',j',o',g',ca',cb')) st) :
  wpS (model prog w) A E s (yE u v o i j g ca cb) Q st:=by
 unfold yE;have b1:=M.hi;have b2:=M.hj;have Y:v[j - 1]? = some v[j - 1]:=Hy (by omega);have e2:u[i - 1]? = some u[i - 1]:=Hy (by omega);refine HR (dh Y ?_);have ml:=M.len;have M':HI key u v (o.push v[j - 1]) i (j - 1):=M.takeB (jJ o v (by lia) Y) (by simp) fun x G y U=>by
  obtain⟨t,J,t2,t3,t4⟩:=fK U;have et:t=j - 1:=by lia
  rw[et,Y]at t4;have ex:=Option.some.inj t4
  have:=hx x G
  rw[ay Y]at this;rw[← ex];exact this
 have ml':=M'.len;by_cases e:j - 1=1
 ·rw[if_pos (by simpa using e)];exact Ib (O _ _ (pH M' (P.firstB e)))
 ·rw[if_neg (by simpa using e)];refine HR (dh e2 (HR (fU L hk (P.mu _ (eZ e2)) P.mv (by lia) (by lia) (oU P.sv (by simp) (by lia)) fun k k1 k2 k3 =>?_)));dsimp only;have lo:∀ t,t < k→kat key v t < key u[i - 1]:=fun t J=>by
   have:=k2 t J
   unfold aO at this;rw[if_pos rfl,Jb]at this;exact HG this
  have up:∀ t,k≤t→t < j - 1→key u[i - 1]≤kat key v t:=fun t J t2=>by
   have:=k3 t J t2
   unfold aO at this;rw[if_pos rfl,Jb]at this
   have:=JD this
   lia
  have B:∀ y∈v.toList.take k,key y≤kat key u (i - 1):=fun y U=>by
   obtain⟨r,r1,r2,r3⟩:=fL U
   have:=lo r r1
   rw[ay r3]at this;rw[ay e2];lia
  by_cases hk0:j - 1 - k > 0
  ·rw[if_pos hk0];have M2:HI key u v (o.push v[j - 1]++(v.extract k (j - 1)).reverse) i k:=M'.takeB (za _ v k (j - 1)) (by omega) fun x G y U=>by
    obtain⟨r,r1,r2,r3⟩:=fL G;obtain⟨t,J,t2,t3,t4⟩:=fK U;have a1:=up t J t2;have a2:=P.su r (i - 1) (HE _) (by lia) (by lia);rw[ay t4]at a1;rw[ay e2,ay r3]at a2
    lia
   have a0:=M2.len;by_cases e3:k=1
   ·rw[if_pos (by simpa using e3)];exact Ib (O _ _ (pH M2 (P.firstB e3)))
   ·rw[if_neg (by simpa using e3)];by_cases e4:k=0
    ·rw[if_pos (by simpa using e4)];exact Ib (O _ _ (mP M2 (.inr e4)))
    ·rw[if_neg (by simpa using e4)];exact vZ P M2 hi (by lia) B (by lia) O hn
  ·rw[if_neg hk0];have k0:k=j - 1:=by lia
   subst k0;exact vZ P M' hi (by lia) B (by lia) O hn
theorem vX (L:dF prog w A E s a₀ κ key){u v o:Array Keyed}{i j g ca cb:Nat}{st:SortSt}{Q:ForInStep Sh7→SortSt→Prop}(O:kindOf st=κ)(P:Pre a₀ key u v)(M:HI key u v o i j)(hi:1≤i)(hj:2≤j)
  (U:∀ z r,Res key u v z→Q (.done (some z,r)) (aX st g)) (hn:∀ o' i' j' g' ca' cb',HI key u v o' i' j'→1≤i'→2≤j'→o.size < o'.size→Q (.done (none,i',j',o',g',ca',cb')) (aX st g)∧Q (.yield (none,i',j',o',g',ca',cb')) (aX st g)) :
  wpS (model prog w) A E s (yD u v o i j g ca cb) Q st:=by
 unfold yD;have b1:=M.hi;have b2:=M.hj;have J:v[j - 1]? = some v[j - 1]:=Hy (by omega);refine HR (wpS_modify (HR (dh J (HR (fU L O (P.mv _ (eZ J)) P.mu (by lia) (by lia) (oU P.su (by simp) (by lia)) fun k k1 k2 k3 =>?_)))));dsimp only;have ml:=M.len;have lo:∀ t,t < k→kat key u t≤key v[j - 1]:=fun t G=>by
  have:=k2 t G
  unfold aO at this;rw[if_neg (by decide),Jb]at this
  have:¬ key v[j - 1] < kat key u t:=by simpa using this
  lia
 have up:∀ t,k≤t→t < i→key v[j - 1] < kat key u t:=fun t G Y=>by
  have:=k3 t G Y
  unfold aO at this;rw[if_neg (by decide),Jb]at this
  have:key v[j - 1] < kat key u t:=by simpa using this
  exact this
 have B:∀ y∈u.toList.take k,key y≤kat key v (j - 1):=fun y hy=>by
  obtain⟨r,r1,r2,r3⟩:=fL hy
  have:=lo r r1
  rw[ay r3]at this;rw[ay J];omega
 by_cases hk0:i - k > 0
 ·rw[if_pos hk0];have M2:HI key u v (o++(u.extract k i).reverse) k j:=M.takeA (za _ u k i) (by omega) fun x a0 y hy=>by
   obtain⟨r,r1,r2,r3⟩:=fL a0;obtain⟨t,G,Y,t3,t4⟩:=fK hy;have a1:=up t G Y;have a2:=P.sv r (j - 1) (HE _) (by lia) (by lia);rw[ay t4]at a1;rw[ay J,ay r3]at a2
   lia
  have a3:=M2.len;by_cases e3:k=0
  ·rw[if_pos (by simpa using e3)];exact Ib (U _ _ (mP M2 (.inl e3)))
  ·rw[if_neg (by simpa using e3)];exact vY L (st:=aX st g) O P M2 (by lia) hj B (by simp) U hn
 ·rw[if_neg hk0];have k0:k=i:=by lia
  subst k0;exact vY L (st:=aX st g) O P M hi hj B (by simp) U hn
theorem wU (L:dF prog w A E s a₀ κ key){st:SortSt}(hk:kindOf st=κ)(P:Pre a₀ key u v)(M:HI key u v o i j)(hi:1≤i)(hj:2≤j)
  (hd:∀ z r g',Res key u v z→Q (.done (some z,r)) (aX st g')) (hn:∀ o' J O g' g'',HI key u v o' J O→1≤J→2≤O→o.size < o'.size→Q (.yield (none,J,O,o',g')) (aX st g'')) :
  wpS (model prog w) A E s (tD u v (none,i,j,o,g)) Q st:=by
 unfold tD;have ml:=M.len;refine HR (Ko (wpS_forRange (I:=fun t c B=>B=st∧∃ o' J O U Y,c=(none,J,O,o',U,Y)∧HI key u v o' J O∧1≤J∧2≤O∧o.size + t≤o'.size)
  (Q:=fun c B=>B=st∧((∃ z r,c=(some z,r)∧Res key u v z)∨∃ o' J O U Y,c=(none,J,O,o',U,Y)∧HI key u v o' J O∧1≤J∧2≤O∧o.size < o'.size)) ?step ?fin ⟨rfl,o,i,j,0,0,rfl,M,hi,hj,by simp⟩) ?post)
 case fin =>
  rintro c B ⟨rfl,o',J,O,U,Y,rfl,M',h1,h2,h3⟩
  have:=M'.len
  lia
 case step =>
  rintro t c B _ ht ⟨rfl,o',J,O,U,Y,rfl,M',h1,h2,h3⟩;exact BC L hk P M' h1 h2 (fun z r hz=>⟨rfl,.inl ⟨z,r,rfl,hz⟩⟩) fun o2 i2 j2 a2 a3 M2 g1 g2 g3=>⟨⟨rfl,.inr ⟨o2,i2,j2,a2,a3,rfl,M2,g1,g2,by lia⟩⟩,rfl,o2,i2,j2,a2,a3,rfl,M2,g1,g2,by lia⟩
 case post =>
  rintro c B ⟨rfl,h⟩;rcases h with⟨z,r,rfl,hz⟩ | ⟨o',J,O,U,Y,rfl,M',h1,h2,h3⟩
  ·exact Ib (hd z _ (gallopOf B) hz)
  ·dsimp only;refine HR (wpS_lift (wpAny_rule ⟨rfl,?_⟩));refine HR (Ko (wpS_forRange (I:=fun t c G=>∃ g',G=aX B g'∧∃ o2 i2 j2 g2 U Y,c=(none,i2,j2,o2,g2,U,Y)∧HI key u v o2 i2 j2∧1≤i2∧2≤j2∧o'.size + t≤o2.size)
    (Q:=fun c G=>∃ g',G=aX B g'∧((∃ z r,c=(some z,r)∧Res key u v z)∨∃ o2 i2 j2 g2 U Y,c=(none,i2,j2,o2,g2,U,Y)∧HI key u v o2 i2 j2∧1≤i2∧2≤j2∧o.size < o2.size)) ?gstep ?gfin ⟨gallopOf B,rfl,o',J,O,g + 1,U,Y,rfl,M',h1,h2,by simp⟩) ?gpost)
   case gfin =>
    rintro c G ⟨g',rfl,o2,i2,j2,g2,U,Y,rfl,M2,q1,q2,q3⟩
    have:=M2.len
    have:=M'.len
    lia
   case gstep =>
    rintro t c G _ ht ⟨g',rfl,o2,i2,j2,g2,U,Y,rfl,M2,q1,q2,q3⟩;show wpS _ _ _ _ (xC u v (none,i2,j2,o2,g2,U,Y)) _ _;unfold xC;dsimp only
    split
    ·exact vX L (st:=aX B g') hk P M2 q1 q2 (fun z r hz=>⟨_,rfl,.inl ⟨z,r,rfl,hz⟩⟩) fun o3 i3 j3 g3 a0 a1 M3 k1 k2 k3=>⟨⟨_,rfl,.inr ⟨o3,i3,j3,g3,a0,a1,rfl,M3,k1,k2,by lia⟩⟩,_,rfl,o3,i3,j3,g3,a0,a1,rfl,M3,k1,k2,by lia⟩
    ·exact vX L (st:=aX B g') hk P M2 q1 q2 (fun z r hz=>⟨_,rfl,.inl ⟨z,r,rfl,hz⟩⟩) fun o3 i3 j3 g3 a0 a1 M3 k1 k2 k3=>⟨⟨_,rfl,.inr ⟨o3,i3,j3,g3,a0,a1,rfl,M3,k1,k2,by lia⟩⟩,_,rfl,o3,i3,j3,g3,a0,a1,rfl,M3,k1,k2,by lia⟩
   case gpost =>
    rintro c G ⟨g',rfl,h⟩;rcases h with⟨z,r,rfl,hz⟩ | ⟨o2,i2,j2,g2,U,Y,rfl,M2,q1,q2,q3⟩
    ·exact Ib (hd z _ g' hz)
    ·dsimp only;exact HR (wpS_modify (Ib (hn o2 i2 j2 _ _ M2 q1 q2 q3)))
theorem Gx (L:dF prog w A E s a₀ κ key){u v:Array Keyed}{st:SortSt}{Q:Array Keyed→SortSt→Prop}(hk:kindOf st=κ)(P:Pre a₀ key u v)(G:∀ z g',Res key u v z→Q z (aX st g')):wpS (model prog w) A E s (hiP u v) Q st:=by
 rw[Ft];refine HR (wpS_lift (wpAny_rule ⟨rfl,?_⟩));have hu:=P.hu;have hv:=P.hv;have Y:u[u.size - 1]? = some u[u.size - 1]:=Hy (by omega);refine HR (dh Y ?_);have tu:u.toList.take u.size=u.toList:=HM (by simp);have tv:v.toList.take v.size=v.toList:=HM (by simp);have M0:HI key u v #[] u.size v.size:=⟨by rw[tu,tv];simp,by rw[tu];simpa using md.mpr P.su,by rw[tv];simpa using md.mpr P.sv,Ht _,Ht _⟩;have M:HI key u v #[u[u.size - 1]] (u.size - 1) v.size:=M0.takeA (by have:=jJ #[] u (by omega) Y;simpa using this) (by simp) fun x hx y hy=>by
  obtain⟨r,r1,r2,r3⟩:=fL hx;obtain⟨t,t1,t2,t3,t4⟩:=fK hy;have et:t=u.size - 1:=by lia
  rw[et]at t4;have a1:=P.sv r (v.size - 1) (HE _) (by lia) (by lia);have a2:=P.last;rw[ay t4]at a2;rw[ay r3]at a1
  lia
 by_cases c1:u.size - 1=0
 ·rw[if_pos (by simpa using c1)];exact Ib (G _ (gallopOf st) (mP M (.inl c1)))
 ·rw[if_neg (by simpa using c1)];by_cases c2:v.size=1
  ·rw[if_pos (by simpa using c2)];exact Ib (G _ (gallopOf st) (pH M (P.firstB c2)))
  ·rw[if_neg (by simpa using c2)];refine HR (wpS_get ?_);refine HR (Ko (wpS_forRange (I:=fun t c B=>∃ g',B=aX st g'∧∃ o i j g,c=(none,i,j,o,g)∧HI key u v o i j∧1≤i∧2≤j∧t < o.size)
    (Q:=fun c B=>∃ g',B=aX st g'∧∃ z r,c=(some z,r)∧Res key u v z) ?step ?fin ⟨gallopOf st,rfl,#[u[u.size - 1]],u.size - 1,v.size,_,rfl,M,by lia,by lia,by simp⟩) ?post)
   case fin =>
    rintro c B ⟨g',rfl,o,i,j,g,rfl,J,h1,h2,h3⟩
    have:=J.len
    lia
   case step =>
    rintro t c B _ ht ⟨g',rfl,o,i,j,g,rfl,J,h1,h2,h3⟩;exact wU L (st:=aX st g') hk P J h1 h2 (fun z r O U=>⟨O,rfl,z,r,rfl,U⟩) fun o2 i2 j2 O g3 M2 q1 q2 q3=>⟨g3,rfl,o2,i2,j2,O,rfl,M2,q1,q2,by lia⟩
   case post =>
    rintro c B ⟨g',rfl,z,r,rfl,U⟩;exact Ib (G z g' U)
end
section
variable {w:World}
abbrev Sa:=Option (Option Nat) × Nat
abbrev Sd:=Option (Option Nat) × Nat × Nat
def yd (lo a n:Nat):StateT SortSt Sem Sa :=
 forIn [a:n] ((none,a):Sa) fun _ r=>do
  let z ← ltAt' (lo + r.2) (lo + r.2 - 1)
  match z with
  | some less=>if less=true then pure (.done (none,r.2)) else pure (.yield (none,r.2 + 1))
  | _=>pure (.done (some none,r.2))
def Ce (lo a n:Nat):StateT SortSt Sem Sd :=
 forIn [a:n] ((none,a,0):Sd) fun _ r=>do
  let z ← ltAt' (lo + r.2.1) (lo + r.2.1 - 1)
  match z with
  | some less =>
   if less=true then
    if r.2.2 > 0 then do
     reverseSlice' (lo + r.2.1 - (r.2.2 + 1)) (lo + r.2.1)
     pure (.yield (none,r.2.1 + 1,0))
    else pure (.yield (none,r.2.1 + 1,0))
   else do
    let y ← ltAt' (lo + r.2.1 - 1) (lo + r.2.1)
    match y with
    | some more=>if more=true then pure (.done (none,r.2.1,r.2.2)) else pure (.yield (none,r.2.1 + 1,r.2.2 + 1))
    | _=>pure (.done (some none,r.2.1,r.2.2))
  | _=>pure (.done (some none,r.2.1,r.2.2))
def oV (lo m n:Nat):StateT SortSt Sem (Option Nat):=do
 reverseSlice' lo (lo + m)
 let r ← yd lo m n
 match r.1 with
 | some v=>pure v
 | none=>pure (some r.2)
def mQ (lo m n:Nat):StateT SortSt Sem (Option Nat):=do
 liftM (rule "list.sort.descending-run")
 let r ← Ce lo (m + 1) n
 match r.1 with
 | some v=>pure v
 | none =>
  if r.2.2 > 0 then do
   reverseSlice' (lo + r.2.1 - (r.2.2 + 1)) (lo + r.2.1)
   oV lo r.2.1 n
  else oV lo r.2.1 n
theorem EU (lo n:Nat):countRun' lo n=(do
  let r ← yd lo 1 n
  match r.1 with
  | some v=>pure v
  | none =>
   if (r.2 == n)=true then pure (some r.2)
   else if r.2 > 1 then do
    let z ← ltAt' lo (lo + r.2 - 1)
    match z with
    | some up=>if up=true then pure (some r.2) else do
      reverseSlice' lo (lo + r.2)
      mQ lo r.2 n
    | _=>pure none
   else mQ lo r.2 n):=by
 kernel_rfl
def Fal (key:Keyed→Int)(xs:Array Keyed)(lo hi:Nat):Prop:=∀ i j,lo≤i→i≤j→j < hi→kat key xs j≤kat key xs i
def Off (xs ys:Array Keyed)(lo hi:Nat):Prop:=∀ t,(t < lo∨hi≤t)→ys[t]? = xs[t]?
theorem Off.refl (xs:Array Keyed)(lo hi:Nat):Off xs xs lo hi:=fun _ _=>rfl
theorem Off.trans {lo hi:Nat}(h:Off xs ys lo hi)(g:Off ys zs lo hi):Off xs zs lo hi:=fun t B=>(g t B).trans (h t B)
theorem uu (hj:j≤xs.size)(k:Nat):kat key (mirror xs i j ((j - i) / 2)) k=if i≤k∧k < j then kat key xs (i + j - 1 - k) else kat key xs k:=by
 have e:=getElem?_mirror_all (i:=i) hj k;by_cases h1:i≤k∧k < j
 ·rw[if_pos h1]at e ⊢;exact gG e
 ·rw[if_neg h1]at e ⊢;exact gG e
theorem px {i j lo hi:Nat}(hj:j≤xs.size)(h1:lo≤i)(h2:j≤hi):Off xs (mirror xs i j ((j - i) / 2)) lo hi:=fun t B=>by
 rw[getElem?_mirror_all hj,if_neg (by lia)]
theorem eg (hj:j≤xs.size)(B:∀ k,i≤k→k < j→kat key xs k=kat key xs (j - 1))(k:Nat):kat key (mirror xs i j ((j - i) / 2)) k=kat key xs k:=by
 rw[uu hj]
 split
 ·rw[B _ (by lia) (by lia),B k (by lia) (by lia)]
 ·rfl
theorem tG {st:SortSt}(h:Q () (setArr st (mirror (arrOf st) i j ((j - i) / 2)))):wpS (model prog w) A E s (reverseSlice' i j) Q st:=by
 rw[reverseSlice'_eq];exact wpS_modify h
theorem yc (L:dF prog w A E s a₀ κ key){lo a n:Nat}{st:SortSt}(O:SB a₀ κ st)(hz:lo + n≤a₀.size)(h1:1≤a)(J:a≤n)(U:Seg key (arrOf st) lo (lo + a))
  (h:∀ m,a≤m→m≤n→Seg key (arrOf st) lo (lo + m)→(m=n∨kat key (arrOf st) (lo + m) < kat key (arrOf st) (lo + m - 1))→Q (none,m) st):wpS (model prog w) A E s (yd lo a n) Q st:=by
 unfold yd;refine wpS_forRange (I:=fun t c G=>G=st∧c=(none,t)∧Seg key (arrOf st) lo (lo + t)) ?step ?fin ⟨rfl,rfl,U⟩
 case fin =>
  rintro c G ⟨rfl,rfl,B⟩;rw[show max a n=n by lia]at B ⊢;exact h n J (Ht _) B (.inl rfl)
 case step =>
  rintro t c G Y a0 ⟨rfl,rfl,B⟩;refine HR (mH L O (by dsimp only;lia) (by dsimp only;lia) ?_);dsimp only;by_cases e:kat key (arrOf G) (lo + t) < kat key (arrOf G) (lo + t - 1)
  ·rw[if_pos (Hr e)];exact Ib (h t Y (by lia) B (.inr e))
  ·rw[if_neg (by simpa using e)];refine Ib ⟨rfl,rfl,fun i j x y z =>?_⟩;by_cases q:j < lo + t
   ·exact B i j x y q
   ·have ej:j=lo + t:=by lia
    subst ej;by_cases q2:i=lo + t
    ·rw[q2];exact Jv _
    ·have:=B i (lo + t - 1) x (by lia) (by lia)
     lia
theorem qj (L:dF prog w A E s a₀ κ key){lo m n:Nat}{st:SortSt}(G:SB a₀ κ st)(O:lo + n≤a₀.size)(h1:1≤m)(B:m≤n)(U:Fal key (arrOf st) lo (lo + m))
  (h:∀ k xs,1≤k→k≤n→xs.Perm (arrOf st)→Off (arrOf st) xs lo (lo + n)→Seg key xs lo (lo + k)→Q (some k) (setArr st xs)):wpS (model prog w) A E s (oV lo m n) Q st:=by
 unfold oV;have hsz:lo + m≤(arrOf st).size:=by rw[G.size];lia
 refine HR (tG ?_);have J:(mirror (arrOf st) lo (lo + m) ((lo + m - lo) / 2)).Perm (arrOf st):=mirror_perm _ _ _ _;have hB':=G.set J;refine HR (yc L hB' O h1 B (fun i j x y z =>?_) fun k k1 k2 k3 _=>Ib (h k _ (by lia) k2 J (px hsz (by simp) (by lia)) k3));show kat key (mirror (arrOf st) lo (lo + m) ((lo + m - lo) / 2)) i≤kat key (mirror (arrOf st) lo (lo + m) ((lo + m - lo) / 2)) j;rw[uu hsz,uu hsz,if_pos (by lia),if_pos (by lia)];exact U _ _ (by lia) (by lia) (by lia)
theorem DW (L:dF prog w A E s a₀ κ key){lo a n:Nat}{st:SortSt}(hB:SB a₀ κ st)(hz:lo + n≤a₀.size)(h1:1≤a)(a0:a≤n)(hs:Fal key (arrOf st) lo (lo + a))
  (h:∀ m q xs,a≤m→m≤n→xs.Perm (arrOf st)→Off (arrOf st) xs lo (lo + n)→Fal key xs lo (lo + m)→q + 1≤m→(∀ i,lo + m - (q + 1)≤i→i < lo + m→kat key xs i=kat key xs (lo + m - 1))→Q (none,m,q) (setArr st xs)):wpS (model prog w) A E s (Ce lo a n) Q st:=by
 unfold Ce;refine wpS_forRange (I:=fun t c O=>∃ q xs,O=setArr st xs∧c=(none,t,q)∧xs.Perm (arrOf st)∧Off (arrOf st) xs lo (lo + n)∧Fal key xs lo (lo + t)∧q + 1≤t∧∀ i,lo + t - (q + 1)≤i→i < lo + t→kat key xs i=kat key xs (lo + t - 1)) ?step ?fin
  ⟨0,arrOf st,rfl,rfl,Array.Perm.refl _,Off.refl _ _ _,hs,by omega,fun i x y=>by congr 1;lia⟩
 case fin =>
  rintro c O ⟨q,xs,rfl,rfl,G,U,J,hq,Y⟩;rw[show max a n=n by lia]at J hq Y ⊢;exact h n q xs a0 (Ht _) G U J hq Y
 case step =>
  rintro t c O ht a1 ⟨q,xs,rfl,rfl,G,U,J,hq,Y⟩;have hB':=hB.set G;have hsz:lo + t≤xs.size:=by rw[G.size_eq,hB.size];lia
  refine HR (mH L hB' (by dsimp only;lia) (by dsimp only;lia) ?_);dsimp only;show wpS _ _ _ _ (if decide (kat key xs (lo + t) < kat key xs (lo + t - 1))=true then _ else _) _ _;by_cases e:kat key xs (lo + t) < kat key xs (lo + t - 1)
  ·rw[if_pos (Hr e)];have B:∀ ys:Array Keyed,(∀ k,kat key ys k=kat key xs k)→Fal key ys lo (lo + (t + 1)):=by
    intro ys hk i j x y z;rw[hk,hk];by_cases r:j < lo + t
    ·exact J i j x y r
    ·have ej:j=lo + t:=by lia
     subst ej;by_cases q2:i=lo + t
     ·rw[q2];exact Jv _
     ·have:=J i (lo + t - 1) x (by lia) (by lia)
      lia
   by_cases hq0:q > 0
   ·rw[if_pos hq0];refine HR (tG (Ib ⟨0,mirror xs (lo + t - (q + 1)) (lo + t) ((lo + t - (lo + t - (q + 1))) / 2),rfl,rfl,(mirror_perm _ _ _ _).trans G,U.trans (px hsz (by lia) (by lia)),B _ (eg hsz Y),by simp,fun i x y=>by congr 1;lia⟩))
   ·rw[if_neg hq0];exact Ib ⟨0,xs,rfl,rfl,G,U,B _ (fun _=>rfl),by simp,fun i x y=>by congr 1;lia⟩
  ·rw[if_neg (by simpa using e)];refine HR (mH L hB' (by lia) (by lia) ?_);dsimp only;show wpS _ _ _ _ (if decide (kat key xs (lo + t - 1) < kat key xs (lo + t))=true then _ else _) _ _;by_cases e2:kat key xs (lo + t - 1) < kat key xs (lo + t)
   ·rw[if_pos (Hr e2)];exact Ib (h t q xs ht (by lia) G U J hq Y)
   ·rw[if_neg (by simpa using e2)];have eq:kat key xs (lo + t)=kat key xs (lo + t - 1):=by lia
    refine Ib ⟨q + 1,xs,rfl,rfl,G,U,fun i j x y z =>?_,by lia,fun i x y =>?_⟩
    ·by_cases r:j < lo + t
     ·exact J i j x y r
     ·have ej:j=lo + t:=by lia
      subst ej;by_cases q2:i=lo + t
      ·rw[q2];exact Jv _
      ·rw[eq];exact J i (lo + t - 1) x (by lia) (by lia)
    ·rw[show lo + (t + 1) - 1=lo + t by rfl];by_cases q2:i=lo + t
     ·rw[q2]
     ·rw[eq];exact Y i (by lia) (by lia)
theorem on (L:dF prog w A E s a₀ κ key){lo m n:Nat}{st:SortSt}(G:SB a₀ κ st)(O:lo + n≤a₀.size)(U:m + 1≤n)(hs:Fal key (arrOf st) lo (lo + (m + 1)))
  (h:∀ k xs,1≤k→k≤n→xs.Perm (arrOf st)→Off (arrOf st) xs lo (lo + n)→Seg key xs lo (lo + k)→Q (some k) (setArr st xs)):wpS (model prog w) A E s (mQ lo m n) Q st:=by
 unfold mQ;refine HR (wpS_lift (wpAny_rule ⟨rfl,?_⟩));refine HR (DW L G O (by simp) U hs fun k q xs k1 k2 J ho hf hq he =>?_);dsimp only;have hsz:lo + k≤xs.size:=by rw[J.size_eq,G.size];lia
 by_cases hq0:q > 0
 ·rw[if_pos hq0];refine HR (tG ?_);have B:(mirror xs (lo + k - (q + 1)) (lo + k) ((lo + k - (lo + k - (q + 1))) / 2)).Perm (arrOf st):=(mirror_perm _ _ _ _).trans J;refine qj L (st:=setArr st (mirror xs (lo + k - (q + 1)) (lo + k) ((lo + k - (lo + k - (q + 1))) / 2))) (G.set B) O (by lia) k2 (fun i j x y z =>?_) fun r ys Y r2 r3 r4 r5=>h r ys Y r2 (r3.trans B) ((ho.trans (px hsz (by lia) (by lia))).trans r4) r5;show kat key (mirror xs _ _ _) j≤kat key (mirror xs _ _ _) i;rw[eg hsz he,eg hsz he];exact hf i j x y z
 ·rw[if_neg hq0];exact qj L (st:=setArr st xs) (G.set J) O (by lia) k2 hf fun r ys Y r2 r3 r4 r5=>h r ys Y r2 (r3.trans J) (ho.trans r4) r5
theorem ES (L:dF prog w A E s a₀ κ key){lo n:Nat}{st:SortSt}(G:SB a₀ κ st)(J:lo + n≤a₀.size)(h1:1≤n)
  (h:∀ k xs,1≤k→k≤n→xs.Perm (arrOf st)→Off (arrOf st) xs lo (lo + n)→Seg key xs lo (lo + k)→Q (some k) (setArr st xs)):wpS (model prog w) A E s (countRun' lo n) Q st:=by
 rw[EU];refine HR (yc L G J (Ht 1) h1 (fun i j x y z=>by rw[show i=j by lia];exact Jv _) fun m Y m2 B O =>?_);dsimp only;by_cases e:m=n
 ·rw[if_pos (by simpa using e)];exact Ib (h m (arrOf st) Y m2 (Array.Perm.refl _) (Off.refl _ _ _) B)
 ·rw[if_neg (by simpa using e)];have lt:kat key (arrOf st) (lo + m) < kat key (arrOf st) (lo + m - 1):=O.resolve_left e;by_cases g:m > 1
  ·rw[if_pos g];refine HR (mH L G (by lia) (by lia) ?_);dsimp only;by_cases c:kat key (arrOf st) lo < kat key (arrOf st) (lo + m - 1)
   ·rw[if_pos (Hr c)];exact Ib (h m (arrOf st) Y m2 (Array.Perm.refl _) (Off.refl _ _ _) B)
   ·rw[if_neg (by simpa using c)];have hsz:lo + m≤(arrOf st).size:=by rw[G.size];lia
    have all:∀ k,lo≤k→k < lo + m→kat key (arrOf st) k=kat key (arrOf st) (lo + m - 1):=by
     intro k x y;have a1:=B lo k (Ht _) x y;have a2:=B k (lo + m - 1) x (by lia) (by lia)
     lia
    refine HR (tG ?_);have hp:(mirror (arrOf st) lo (lo + m) ((lo + m - lo) / 2)).Perm (arrOf st):=mirror_perm _ _ _ _;refine on L (G.set hp) J (by lia) (fun i j x y z =>?_) fun r ys r1 r2 r3 r4 r5=>h r ys r1 r2 (r3.trans hp) ((px hsz (by simp) (by lia)).trans r4) r5;show kat key (mirror (arrOf st) _ _ _) j≤kat key (mirror (arrOf st) _ _ _) i;rw[eg hsz all,eg hsz all];by_cases q:j < lo + m
    ·rw[all i x (by lia),all j (by lia) q];exact Jv _
    ·have U:j=lo + m:=by lia
     subst U;by_cases q2:i=lo + m
     ·rw[q2];exact Jv _
     ·rw[all i x (by lia)];lia
  ·rw[if_neg g];have em:m=1:=by lia
   subst em;refine on L G J (by lia) (fun i j x y z =>?_) h;by_cases q:i=j
   ·rw[q];exact Jv _
   ·have ei:i=lo:=by lia
    have U:j=lo + 1:=by lia
    subst ei;subst U
    have:i + 1 - 1=i:=by simp
    rw[this]at lt
    lia
end
section
variable {w:World}
theorem yA (B:src < xs.size)(G:d≤src)(k:Nat):kat key (bubble xs src d) k=if k=src - d then kat key xs src else if src - d < k∧k≤src then kat key xs (k - 1) else kat key xs k:=by
 have e:=getElem?_bubble B d G k;by_cases h1:k=src - d
 ·rw[if_pos h1]at e ⊢;exact gG e
 ·rw[if_neg h1]at e ⊢;by_cases h2:src - d < k∧k≤src
  ·rw[if_pos h2]at e ⊢;exact gG e
  ·rw[if_neg h2]at e ⊢;exact gG e
def Cb (lo k:Nat):StateT SortSt Sem (Option Bool × Nat × Nat) :=
 forIn [0:k] ((none,0,k):Option Bool × Nat × Nat) fun _ r =>
  if r.2.1 ≥ r.2.2 then pure (.done (none,r.2.1,r.2.2)) else do
   let z ← ltAt' (lo + k) (lo + (r.2.1 + r.2.2) / 2)
   match z with
   | some less=>if less=true then pure (.yield (none,r.2.1,(r.2.1 + r.2.2) / 2)) else pure (.yield (none,(r.2.1 + r.2.2) / 2 + 1,r.2.2))
   | _=>pure (.done (some false,r.2.1,r.2.2))
def Gq (lo n ok:Nat):StateT SortSt Sem (Option Bool × Unit) :=
 forIn [max ok 1:n] ((none,()):Option Bool × Unit) fun k _=>do
  let r ← Cb lo k
  match r.1 with
  | some v=>pure (.done (some v,()))
  | none=>do
   moveDown' (lo + k) (lo + r.2.1)
   pure (.yield (none,()))
theorem Fs (lo n ok:Nat):binarySort' lo n ok=(do
  let r ← Gq lo n ok
  match r.1 with
  | some v=>pure v
  | none=>pure true):=by kernel_rfl
theorem DU (L:dF prog w A E s a₀ κ key){lo k:Nat}{st:SortSt}(U:SB a₀ κ st)(Y:lo + k < a₀.size)(O:Seg key (arrOf st) lo (lo + k))
  (h:∀ l,l≤k→(∀ i,lo≤i→i < lo + l→kat key (arrOf st) i≤kat key (arrOf st) (lo + k))→(∀ i,lo + l≤i→i < lo + k→kat key (arrOf st) (lo + k) < kat key (arrOf st) i)→Q (none,l,l) st):wpS (model prog w) A E s (Cb lo k) Q st:=by
 unfold Cb;refine wpS_forRange (I:=fun t c B=>B=st∧∃ l r,c=(none,l,r)∧l≤r∧r≤k∧r - l≤k - t∧(∀ i,lo≤i→i < lo + l→kat key (arrOf st) i≤kat key (arrOf st) (lo + k))∧(∀ i,lo + r≤i→i < lo + k→kat key (arrOf st) (lo + k) < kat key (arrOf st) i)) ?step ?fin
  ⟨rfl,0,k,rfl,by simp,by simp,by simp,fun i x y=>by lia,fun i x y=>by lia⟩
 case fin =>
  rintro c B ⟨rfl,l,r,rfl,h1,h2,h3,G,J⟩;have e:l=r:=by lia
  subst e;exact h l h2 G J
 case step =>
  rintro t c B _ ht ⟨rfl,l,r,rfl,h1,h2,h3,G,J⟩;dsimp only;by_cases e:l ≥ r
  ·rw[if_pos e];have e':l=r:=by lia
   subst e';exact Ib (h l h2 G J)
  ·rw[if_neg e];refine HR (mH L U Y (by lia) ?_);dsimp only;by_cases c:kat key (arrOf B) (lo + k) < kat key (arrOf B) (lo + (l + r) / 2)
   ·rw[if_pos (Hr c)];refine Ib ⟨rfl,_,_,rfl,by lia,by lia,by lia,G,fun i x y =>?_⟩
    have:=O (lo + (l + r) / 2) i (by simp) x y
    lia
   ·rw[if_neg (by simpa using c)];refine Ib ⟨rfl,_,_,rfl,by lia,by omega,by lia,fun i x y =>?_,J⟩
    have:=O i (lo + (l + r) / 2) x (by lia) (by lia)
    lia
theorem Ea {lo p q:Nat}(h1:lo≤q)(h2:q≤p)(B:p < xs.size)(G:Seg key xs lo p)(J:∀ i,lo≤i→i < q→kat key xs i≤kat key xs p)(O:∀ i,q≤i→i < p→kat key xs p < kat key xs i):Seg key (bubble xs p (p - q)) lo (p + 1):=by
 intro i j x y z;rw[yA B (Nat.sub_le _ _),yA B (Nat.sub_le _ _),show p - (p - q)=q from Nat.sub_sub_self h2]
 clear B
 repeat' split
 all_goals first
  | (exfalso;lia)
  | exact Jv _
  | exact J _ (by omega) (by lia)
  | exact Int.le_of_lt (O _ (by lia) (by lia))
  | exact G _ _ (by lia) (by lia) (by lia)
theorem Fq (L:dF prog w A E s a₀ κ key){lo n ok:Nat}{st:SortSt}(Y:SB a₀ κ st)(hz:lo + n≤a₀.size)(a0:ok≤n)(hs:Seg key (arrOf st) lo (lo + ok))
  (h:∀ xs,xs.Perm (arrOf st)→Off (arrOf st) xs lo (lo + n)→Seg key xs lo (lo + n)→Q true (setArr st xs)):wpS (model prog w) A E s (binarySort' lo n ok) Q st:=by
 rw[Fs];unfold Gq;refine HR (Ko (wpS_forRange (I:=fun t c G=>c=(none,())∧∃ xs,G=setArr st xs∧xs.Perm (arrOf st)∧Off (arrOf st) xs lo (lo + n)∧Seg key xs lo (lo + min t n))
  (Q:=fun c G=>c=(none,())∧∃ xs,G=setArr st xs∧xs.Perm (arrOf st)∧Off (arrOf st) xs lo (lo + n)∧Seg key xs lo (lo + n)) ?step ?fin ?init) ?post)
 case post =>
  rintro c G ⟨rfl,xs,rfl,J,U,B⟩;exact Ib (h xs J U B)
 case init =>
  refine⟨rfl,arrOf st,rfl,Array.Perm.refl _,Off.refl _ _ _,fun i j x y z =>?_⟩;by_cases h1:ok=0
  ·rw[show i=j by lia];exact Jv _
  ·exact hs i j x y (by lia)
 case fin =>
  rintro c G ⟨rfl,xs,rfl,J,U,B⟩;refine⟨rfl,xs,rfl,J,U,?_⟩
  rwa [show min (max (max ok 1) n) n=n by lia]at B
 case step =>
  rintro k c G hk a1 ⟨rfl,xs,rfl,J,U,B⟩;rw[show min k n=k by lia]at B;have hB':=Y.set J;refine HR (DU L hB' (by lia) B fun l hl h4 h5 =>?_);dsimp only;rw[moveDown'_eq];refine HR (wpS_modify (Ib ⟨rfl,bubble xs (lo + k) (lo + k - (lo + l)),rfl,(bubble_perm _ _ _).trans J,?_,?_⟩))
  ·have O:lo + k < xs.size:=by rw[J.size_eq,Y.size];lia
   refine U.trans fun t ht =>?_;rw[getElem?_bubble O _ (by simp),if_neg (by lia),if_neg (by lia)]
  ·rw[show min (k + 1) n=k + 1 by lia];have O:lo + k < xs.size:=by rw[J.size_eq,Y.size];lia
   exact Ea (KC _ _) (by lia) O B h4 h5
def i8 (xs:Array Keyed)(p:Nat)(z:List Keyed):Array Keyed:=z.zipIdx.foldl (fun a q=>a.setIfInBounds (p + q.2) q.1) xs
theorem uX (p:Nat):∀ (z:List Keyed) (n:Nat) (xs:Array Keyed),p + n + z.length≤xs.size→∀ t:Nat,((z.zipIdx n).foldl (fun a q=>a.setIfInBounds (p + q.2) q.1) xs)[t]? = if p + n≤t∧t < p + n + z.length then z[t - (p + n)]? else xs[t]?
 | [],n,xs,_,t=>by
  rw[if_neg (by simp)];rfl
 | x::z,n,xs,h,t=>by
  rw[List.zipIdx_cons,Kn];have B:(x::z).length=z.length + 1:=rfl;rw[uX p z (n + 1) _ (by rw[Array.size_setIfInBounds];lia) t];by_cases c:p + n≤t∧t < p + n + (x::z).length
  ·rw[if_pos c];by_cases c2:t=p + n
   ·rw[if_neg (by lia),c2]
    have:p + n < xs.size:=by lia
    simp[Kl,this]
   ·rw[if_pos (by lia)];have e:t - (p + n)=t - (p + (n + 1)) + 1:=by lia
    rw[e,List.getElem?_cons_succ]
  ·rw[if_neg c,if_neg (by lia),Kl]
   have:p + n≠t:=by lia
   simp[this]
theorem j_ (h:p + z.length≤xs.size)(t:Nat):(i8 xs p z)[t]? = if p≤t∧t < p + z.length then z[t - p]? else xs[t]? := by
 have:=uX p z 0 xs (by omega) t
 simpa[i8] using this
theorem wH (h:p + z.length≤xs.size):(i8 xs p z).toList=xs.toList.take p++z++xs.toList.drop (p + z.length):=by
 refine Kz fun t =>?_;rw[IT,j_ h];have lt:(xs.toList.take p).length=p:=by simp;lia
 by_cases c1:t < p
 ·rw[if_neg (by lia),HW,Iq (by rw[lt];exact c1),List.getElem?_take_of_lt c1,IT]
 ·by_cases c2:t < p + z.length
  ·rw[if_pos ⟨by lia,c2⟩,Iq (by rw[Hs,lt];omega),IA (by rw[lt];lia),lt]
  ·rw[if_neg (by lia),IA (by rw[Hs,lt];lia),Hs,lt,JY,IT]
   congr 1
   lia
abbrev gh (st:SortSt)(p:Array (Nat × Nat × Nat)):SortSt:=SortSt.mk' (kindOf st) (arrOf st) p (gallopOf st) (failedOf st)
theorem DP (i:Nat):mergeAt' i=(do
  let st ← get
  match (pendingOf st)[i]?,(pendingOf st)[i + 1]? with
  | some (sa,na,pw),some (sb,nb,_)=>do
   set (gh st (((pendingOf st).setIfInBounds i (sa,na + nb,pw)).eraseIdxIfInBounds (i + 1)))
   let y ← elem' (arrOf st) sb
   let z ← fN false y (arrOf st) sa na 0
   match z with
   | some k =>
    if (na - k == 0)=true then pure true else do
     let x ← elem' (arrOf st) (sa + k + (na - k) - 1)
     let r ← fN true x (arrOf st) sb nb (nb - 1)
     match r with
     | some m =>
      if (m == 0)=true then pure true else do
       let t ← if na - k≤m then loP ((arrOf st).extract (sa + k) sb) ((arrOf st).extract sb (sb + m)) else hiP ((arrOf st).extract (sa + k) sb) ((arrOf st).extract sb (sb + m))
       modify fun st=>setArr st (i8 (arrOf st) (sa + k) t.toList)
       let st ← get
       pure (failedOf st).isNone
     | _=>pure false
   | _=>pure false
  | _,_=>liftM (unsupported "internal:list.sort.pending" : Sem Bool)):=by
 kernel_rfl
end
section
variable {w:World}
abbrev Tri:=Nat × Nat × Nat
theorem Dm {p:Array Tri}{B G:List Tri}{a b:Tri}(h:p.toList=B++a::b::G):p[B.length]? = some a∧p[B.length + 1]? = some b:=by
 rw[← IT,← IT,h];constructor
 ·rw[IA (Ht _)];simp
 ·rw[IA (by simp)];simp
theorem Bq {p:Array Tri}{B G:List Tri}{a b c:Tri}(h:p.toList=B++a::b::G):((p.setIfInBounds B.length c).eraseIdxIfInBounds (B.length + 1)).toList=B++c::G:=by
 have J:p.size=B.length + (G.length + 2):=by rw[← Il,h];simp
 rw[Array.eraseIdxIfInBounds,dif_pos (by rw[Array.size_setIfInBounds];lia),Array.toList_eraseIdx,Array.toList_setIfInBounds,h];rw[List.set_append_right _ _ (Ht _),Nat.sub_self,List.set_cons_zero,List.eraseIdx_append_of_length_le (by simp)];simp
theorem gO (B:b≤xs.size)(hi:a + i < b):kat key (xs.extract a b) i=kat key xs (a + i):=by
 apply gG
 rw[Array.getElem?_extract];simp
 lia
theorem mR {xs:Array Keyed}{a b:Nat}(B:b≤xs.size):(xs.extract a b).size=b - a:=by
 rw[Array.size_extract];lia
theorem yK {xs:Array Keyed}{a b:Nat}{y:Keyed}(h:y∈(xs.extract a b).toList):y∈xs.toList:=by
 rw[iw]at h;exact I9 (JN h)
theorem merged {xs z:Array Keyed}{lo p q r hi:Nat}(h1:lo≤p)(h2:p≤q)(h3:q≤r)(h4:r≤hi)(h5:hi≤xs.size)(R:Res key (xs.extract p q) (xs.extract q r) z)(s1:Seg key xs lo q)(s2:Seg key xs q hi)
  (lo1:∀ t,lo≤t→t < p→kat key xs t≤kat key xs q) (a3:∀ t,r≤t→t < hi→kat key xs (q - 1)≤kat key xs t):(i8 xs p z.toList).Perm xs∧Off xs (i8 xs p z.toList) lo hi∧Seg key (i8 xs p z.toList) lo hi:=by
 obtain⟨zp,zs⟩:=R;have zl:z.toList.length=r - p:=by
  have e:=zp.length_eq;simp only[Hs,Il]at e ⊢;rw[mR (by lia),mR (by lia)]at e
  lia
 have B:p + z.toList.length≤xs.size:=by lia
 have em:xs.toList=xs.toList.take p++((xs.extract p q).toList++(xs.extract q r).toList)++xs.toList.drop (p + z.toList.length):=by
  rw[iw,iw];have a1:(xs.toList.take q).drop p++(xs.toList.take r).drop q=(xs.toList.drop p).take z.toList.length:=by
   rw[Kd,Kd,show z.toList.length=(q - p) + (r - q) by lia,List.take_add,Kv,show p + (q - p)=q by lia]
  have a2:(xs.toList.drop p).take z.toList.length++xs.toList.drop (p + z.toList.length)=xs.toList.drop p:=by
   have:=IB z.toList.length (xs.toList.drop p)
   rwa [Kv]at this
  rw[a1,HW,a2];exact (IB _ _).symm
 have a0:Seg key z 0 z.size:=md.mp zs;have G:∀ t,(t < p∨r≤t)→kat key (i8 xs p z.toList) t=kat key xs t:=fun t ht=>gG (by rw[j_ B,if_neg (by lia)]);have kz:∀ t,p≤t→t < r→∃ x,x∈z.toList∧(i8 xs p z.toList)[t]? = some x∧z[t - p]? = some x:=fun t J O=>by
  have Y:t - p < z.toList.length:=by lia
  refine⟨z.toList[t - p],List.getElem_mem Y,?_,?_⟩
  ·rw[j_ B,if_pos ⟨J,by lia⟩];exact HU Y
  ·rw[← IT];exact HU Y
 have U:∀ x∈z.toList,∃ t,((p≤t∧t < q)∨(q≤t∧t < r))∧key x=kat key xs t:=fun x hx=>by
  rcases HD.mp (zp.mem_iff.mp hx) with hx|hx
  ·rw[iw]at hx;obtain⟨t,J,O,t3,t4⟩:=fK hx;exact⟨t,.inl ⟨J,O⟩,(ay t4).symm⟩
  ·rw[iw]at hx;obtain⟨t,J,O,t3,t4⟩:=fK hx;exact⟨t,.inr ⟨J,O⟩,(ay t4).symm⟩
 refine⟨?_,fun t ht=>by rw[j_ B,if_neg (by lia)],?_⟩
 ·rw[I_,wH B]
  conv=>rhs;rw[em]
  exact List.Perm.append_right _ (List.Perm.append_left _ zp)
 have a4:z.size=r - p:=by rw[← Il];exact zl
 clear em B zl
 intro i j x y zz;by_cases i1:i < p
 ·rw[G i (.inl i1)];by_cases j1:j < p
  ·rw[G j (.inl j1)];exact s1 i j x y (HS j1 h2)
  ·by_cases j2:j < r
   ·obtain⟨v,v1,v2,v3⟩:=kz j (Jn j1) j2;rw[ay v2];obtain⟨t,ht,et⟩:=U v v1;rw[et];rcases ht with⟨J,O⟩|⟨J,O⟩
    ·exact s1 i t x (H_ (Jk i1) J) O
    ·exact Kt (lo1 i x i1) (s2 q t (Ht _) J (HS O h4))
   ·rw[G j (.inr (Jn j2))];exact Kt (lo1 i x i1) (s2 q j (Ht _) (H_ h3 (Jn j2)) zz)
 ·have i1':=Jn i1;by_cases i2:i < r
  ·obtain⟨u,u1,u2,u3⟩:=kz i i1' i2;by_cases j2:j < r
   ·obtain⟨v,v1,v2,v3⟩:=kz j (H_ i1' y) j2;rw[ay u2,ay v2];have e:=a0 (i - p) (j - p) (HE _) (Nat.sub_le_sub_right y p) (by rw[a4];exact Nat.sub_lt_sub_right (H_ i1' y) j2);rw[ay u3,ay v3]at e;exact e
   ·have j2':=Jn j2;rw[G j (.inr j2'),ay u2];obtain⟨t,ht,et⟩:=U u u1;rw[et];rcases ht with⟨J,O⟩ | ⟨J,O⟩
    ·exact Kt (s1 t (q - 1) (H_ h1 J) (Nat.le_sub_one_of_lt O) (Nat.sub_one_lt (Jo (Jp (HE _) O)))) (a3 j j2' zz)
    ·exact s2 t j J (H_ (Jk O) j2') zz
  ·have i2':=Jn i2;rw[G i (.inr i2'),G j (.inr (H_ i2' y))];exact s2 i j (H_ h3 i2') y zz
theorem zJ {xs:Array Keyed}{lo p q r hi:Nat}(h1:lo≤p)(h2:p < q)(h3:q < r)(h4:r≤hi)(h5:hi≤xs.size)(all:∀ y∈xs.toList,y∈a₀.toList)(U:Seg key xs lo q)(Y:Seg key xs q hi)
  (up1:kat key xs q < kat key xs p) (B:kat key xs (r - 1) < kat key xs (q - 1)):Pre a₀ key (xs.extract p q) (xs.extract q r):=by
 have J:(xs.extract p q).size=q - p:=mR (by lia);have O:(xs.extract q r).size=r - q:=mR (by lia);refine⟨fun y G=>all y (yK G),fun y G=>all y (yK G),fun i j x y z =>?_,fun i j x y z =>?_,by lia,by lia,?_,?_⟩
 ·rw[J]at z;rw[gO (by lia) (by lia),gO (by lia) (by lia)];exact U _ _ (by lia) (by lia) (by lia)
 ·rw[O]at z;rw[gO (by lia) (by lia),gO (by lia) (by lia)];exact Y _ _ (by simp) (by lia) (by lia)
 ·rw[gO (by lia) (by omega),gO (by lia) (by omega)];exact up1
 ·rw[J,O,gO (by lia) (by lia),gO (by lia) (by lia),show q + (r - q - 1)=r - 1 by lia,show p + (q - p - 1)=q - 1 by lia];exact B
theorem DO (L:dF prog w A E s a₀ κ key){st:SortSt}{Q:Bool→SortSt→Prop}(J:SB a₀ κ st){l1 l2:List Tri}{G U p B O q:Nat}(hp:(pendingOf st).toList=l1++(G,U,p)::(B,O,q)::l2)(a6:B=G + U)(h1:1≤U)(h2:1≤O)(hz:B + O≤a₀.size)
  (s1:Seg key (arrOf st) G B) (s2:Seg key (arrOf st) B (B + O))
  (h:∀ st',SB a₀ κ st'→(pendingOf st').toList=l1++(G,U + O,p)::l2→Seg key (arrOf st') G (B + O)→Off (arrOf st) (arrOf st') G (B + O)→Q true st'):wpS (model prog w) A E s (mergeAt' l1.length) Q st:=by
 rw[DP];refine HR (wpS_get ?_);obtain⟨e1,e2⟩:=Dm hp;rw[e1,e2];dsimp only;have hsz:=J.size;have mem:∀ {i:Nat} {x:Keyed},(arrOf st)[i]? = some x→x∈a₀.toList:=fun e=>J.mem (eZ e);have all:∀ y∈(arrOf st).toList,y∈a₀.toList:=fun y hy=>J.mem hy;refine HR ?_;show wpS _ _ _ _ (set _) _ _;have a0:∀ (t:SortSt) (R:PUnit→SortSt→Prop),R ⟨⟩ t→wpS (model prog w) A E s (set t:StateT SortSt Sem PUnit) R st:=fun t R hr=>by
  unfold wpS;rw[StateT.run_set];exact HJ ⟨rfl,hr⟩
 refine a0 _ _ ?_;have pn:=Bq (c:=(G,U + O,p)) hp;generalize hP:((pendingOf st).setIfInBounds l1.length (G,U + O,p)).eraseIdxIfInBounds (l1.length + 1)=P at pn ⊢;have f1:(arrOf st)[B]? = some (arrOf st)[B]:=Hy (by omega);refine HR (dh f1 (HR (fU L (st:=gh st P) J.kind (mem f1) all (by lia) (by assumption) (by rw[← a6];exact s1) fun k k1 k2 k3 =>?_)));dsimp only;have lo1:∀ t,G≤t→t < G + k→kat key (arrOf st) t≤kat key (arrOf st) B:=fun t t1 t2=>by
  have:=k2 (t - G) (by lia)
  unfold aO at this;rw[if_neg (by decide),show G + (t - G)=t by lia,← ay (key:=key) f1]at this
  have:¬ kat key (arrOf st) B < kat key (arrOf st) t:=by simpa using this
  lia
 have up1:∀ t,G + k≤t→t < B→kat key (arrOf st) B < kat key (arrOf st) t:=fun t t1 t2=>by
  have:=k3 (t - G) (by lia) (by lia)
  unfold aO at this;rw[if_neg (by decide),show G + (t - G)=t by lia,← ay (key:=key) f1]at this
  have:kat key (arrOf st) B < kat key (arrOf st) t:=by simpa using this
  exact this
 have B1:SB a₀ κ (gh st P):=⟨J.perm,J.kind,J.ok⟩;by_cases c1:U - k=0
 ·rw[if_pos (by simpa using c1)];refine Ib (h _ B1 pn (fun i j x y z =>?_) (Off.refl _ _ _));show kat key (arrOf st) i≤kat key (arrOf st) j;by_cases a1:j < B
  ·exact s1 i j x y a1
  ·by_cases a2:B≤i
   ·exact s2 i j a2 y z
   ·have:=lo1 i x (by lia)
    have:=s2 B j (Ht _) (by lia) z
    lia
 ·rw[if_neg (by simpa using c1)];have f2:(arrOf st)[G + k + (U - k) - 1]? = some (arrOf st)[B - 1]:=by
   rw[show G + k + (U - k) - 1=B - 1 by lia];exact Hy (by omega)
  have f3:(arrOf st)[B - 1]? = some (arrOf st)[B - 1]:=Hy (by omega);refine HR (dh f2 (HR (fU L (st:=gh st P) J.kind (mem f2) all (by lia) (by lia) s2 fun m m1 m2 m3 =>?_)));dsimp only;have a7:∀ t,B≤t→t < B + m→kat key (arrOf st) t < kat key (arrOf st) (B - 1):=fun t t1 t2=>by
   have:=m2 (t - B) (by lia)
   unfold aO at this;rw[if_pos rfl,show B + (t - B)=t by lia,← ay (key:=key) f3]at this;exact HG this
  have a3:∀ t,B + m≤t→t < B + O→kat key (arrOf st) (B - 1)≤kat key (arrOf st) t:=fun t t1 t2=>by
   have:=m3 (t - B) (by lia) (by lia)
   unfold aO at this;rw[if_pos rfl,show B + (t - B)=t by lia,← ay (key:=key) f3]at this
   have:=JD this
   lia
  by_cases c2:m=0
  ·rw[if_pos (by simpa using c2)];refine Ib (h _ B1 pn (fun i j x y z =>?_) (Off.refl _ _ _));show kat key (arrOf st) i≤kat key (arrOf st) j;by_cases a1:j < B
   ·exact s1 i j x y a1
   ·by_cases a2:B≤i
    ·exact s2 i j a2 y z
    ·have:=s1 i (B - 1) x (by lia) (by lia)
     have:=a3 j (by lia) z
     lia
  ·rw[if_neg (by simpa using c2)];have o1:G≤G + k:=KC _ _;have o2:G + k < B:=by lia
   have o3:B < B + m:=by lia
   have o4:B + m≤B + O:=by lia
   have o5:B + O≤(arrOf st).size:=by lia
   have PR:Pre a₀ key ((arrOf st).extract (G + k) B) ((arrOf st).extract B (B + m)):=zJ o1 o2 o3 o4 o5 all s1 s2 (up1 _ (Ht _) o2) (a7 _ (Nat.le_sub_one_of_lt o3) (Nat.sub_one_lt (Jo (Jp (HE _) o3))));have fin:∀ (z:Array Keyed) (g':Nat),Res key ((arrOf st).extract (G + k) B) ((arrOf st).extract B (B + m)) z →
     wpS (model prog w) A E s (do
      modify fun st=>setArr st (i8 (arrOf st) (G + k) z.toList)
      let st ← get
      pure (failedOf st).isNone:StateT SortSt Sem Bool) Q (aX (gh st P) g'):=fun z g' hz=>by
    obtain⟨Y,a4,a5⟩:=merged o1 (Jk o2) (Jk o3) o4 o5 hz s1 s2 lo1 a3;refine HR (wpS_modify (HR (wpS_get (Ib ?_))));have a8:(failedOf (setArr (aX (gh st P) g') (i8 (arrOf st) (G + k) z.toList))).isNone=true:=by
     show (failedOf st).isNone=true;rw[J.ok];rfl
    show Q (failedOf (setArr (aX (gh st P) g') (i8 (arrOf st) (G + k) z.toList))).isNone _;rw[a8];exact h _ ⟨Y.trans J.perm,J.kind,J.ok⟩ pn a5 a4
   split
   ·exact HR (Gh L (st:=gh st P) J.kind PR fun z g' hz=>fin z g' hz)
   ·exact HR (Gx L (st:=gh st P) J.kind PR fun z g' hz=>fin z g' hz)
end
section
variable {w:World}
abbrev So:=Option Unit × Unit
def Ch (size pw:Nat):StateT SortSt Sem So :=
 forIn [0:size] ((none,()):So) fun _ _=>do
  let st ← get
  match (if (pendingOf st).size > 1 then (pendingOf st)[(pendingOf st).size - 2]? else none) with
  | some (_,_,older)=>if older≤pw then pure (.done (none,())) else do
    let b ← mergeAt' ((pendingOf st).size - 2)
    if (!b)=true then pure (.done (some (),())) else pure (.yield (none,()))
  | _=>pure (.done (none,()))
def oY (lo n:Nat):StateT SortSt Sem (ForInStep (Option Unit × Nat)):=do
 modify fun st=>gh st ((pendingOf st).push (lo,n,0))
 pure (.yield (none,lo + n))
def oX (size lo n:Nat):StateT SortSt Sem (ForInStep (Option Unit × Nat)):=do
 let st ← get
 match (pendingOf st).back? with
 | some (s1,n1,_)=>do
  let q ← Ch size (power' size (2 * s1 + n1) (2 * s1 + n1 + n1 + n) size)
  match q.1 with
  | some v=>pure (.done (some v,lo))
  | none=>do
   modify fun st=>gh st ((pendingOf st).modify ((pendingOf st).size - 1) fun (a,b,_)=>(a,b,power' size (2 * s1 + n1) (2 * s1 + n1 + n1 + n) size))
   oY lo n
 | _=>oY lo n
def qE (size minrun:Nat)(r:Option Unit × Nat):StateT SortSt Sem (ForInStep (Option Unit × Nat)) :=
 if r.2 ≥ size then pure (.done (none,r.2)) else do
  let z ← countRun' r.2 (size - r.2)
  match z with
  | some found =>
   if found < minrun then do
    liftM (rule "list.sort.binary-insertion")
    let b ← binarySort' r.2 (min (size - r.2) minrun) found
    if (!b)=true then pure (.done (some (),r.2)) else oX size r.2 (min (size - r.2) minrun)
   else oX size r.2 found
  | _=>pure (.done (some (),r.2))
def xA (p:Array Tri):Nat:=if (if p.size - 2 > 0 then p[p.size - 2 - 1]?.map (·.2.1) else none).any (· < (p[p.size - 2 + 1]?.elim 0 (·.2.1))) then p.size - 2 - 1 else p.size - 2
def BW (size:Nat):StateT SortSt Sem So :=
 forIn [0:size] ((none,()):So) fun _ _=>do
  let st ← get
  if (pendingOf st).size≤1 then pure (.done (none,())) else do
   let b ← mergeAt' (xA (pendingOf st))
   if (!b)=true then pure (.done (some (),())) else pure (.yield (none,()))
theorem C1:sortRuns'=(do
  let st ← get
  let r ← forIn [0:(arrOf st).size] ((none,0):Option Unit × Nat) fun _ r=>qE (arrOf st).size (minRun' (arrOf st).size (arrOf st).size 0) r
  match r.1 with
  | some v=>pure v
  | none=>do
   let q ← BW (arrOf st).size
   match q.1 with
   | some v=>pure v
   | none=>pure ()):=by kernel_rfl
def bX (key:Keyed→Int)(xs:Array Keyed):Nat→List Tri→Nat→Prop
 | a,[],e=>a=e
 | a,t::r,e=>t.1=a∧1≤t.2.1∧Seg key xs a (a + t.2.1)∧bX key xs (a + t.2.1) r e
theorem bX.le:∀ {l:List Tri} {a e:Nat},bX key xs a l e→a + l.length≤e
 | [],a,e,h=>by have:a=e:=h;simp;lia
 | t::r,a,e,h=>by
  obtain⟨_,h1,_,h2⟩:=h
  have:=bX.le h2
  simp;lia
theorem ik:∀ {l1:List Tri} {a:Nat},bX key xs a (l1++l2) e↔∃ m,bX key xs a l1 m∧bX key xs m l2 e
 | [],a=>⟨fun h=>⟨a,rfl,h⟩,fun⟨m,h1,h2⟩=>by have:a=m:=h1;subst this;exact h2⟩
 | t::r,a=>by
  constructor
  ·rintro⟨h1,h2,B,O⟩;obtain⟨m,G,J⟩:=ik.mp O;exact⟨m,⟨h1,h2,B,G⟩,J⟩
  ·rintro⟨m,⟨h1,h2,B,G⟩,J⟩;exact⟨h1,h2,B,ik.mpr ⟨m,G,J⟩⟩
theorem bX.same:∀ {l:List Tri} {a e:Nat},bX key xs a l e→(∀ t,a≤t→t < e→ys[t]? = xs[t]?)→bX key ys a l e
 | [],a,e,h,_=>h
 | t::r,a,e,h,g=>by
  obtain⟨h1,h2,G,B⟩:=h;have J:=B.le;refine⟨h1,h2,fun i j x y z =>?_,bX.same B fun t x y=>g t (by lia) y⟩;rw[gG (g i x (by lia)),gG (g j (by lia) (by lia))];exact G i j x y z
theorem bX.alike:∀ {l l':List Tri} {a e:Nat},bX key xs a l e→l'.map (fun t=>(t.1,t.2.1))=l.map (fun t=>(t.1,t.2.1))→bX key xs a l' e
 | [],[],_,_,h,_=>h
 | [],_::_,_,_,_,g=>by simp at g
 | _::_,[],_,_,_,g=>by simp at g
 | t::r,t'::r',a,e,h,g=>by
  obtain⟨h1,h2,G,J⟩:=h;rw[Ig,Ig,List.cons.injEq,Prod.mk.injEq]at g;obtain⟨⟨O,B⟩,U⟩:=g;exact⟨by rw[O];exact h1,by rw[B];exact h2,by rw[B];exact G,by rw[B];exact bX.alike J U⟩
theorem EO (h:i + 1 < l.length):∃ l1 a b l2,l=l1++a::b::l2∧l1.length=i:=by
 refine⟨l.take i,l[i],l[i + 1],l.drop (i + 2),?_,by rw[IC];lia⟩;have B:l.drop i=l[i]::l.drop (i + 1):=Ix (by omega);have G:l.drop (i + 1)=l[i + 1]::l.drop (i + 2):=Ix h;rw[← G,← B,IB]
theorem Ez (L:dF prog w A E s a₀ κ key){st:SortSt}(hB:SB a₀ κ st)(T:bX key (arrOf st) 0 (pendingOf st).toList e)(he:e≤a₀.size)(hi:i + 1 < (pendingOf st).size)
  (h:∀ B,SB a₀ κ B→bX key (arrOf B) 0 (pendingOf B).toList e→(pendingOf B).size + 1=(pendingOf st).size→Off (arrOf st) (arrOf B) 0 e→Q true B):wpS (model prog w) A E s (mergeAt' i) Q st:=by
 obtain⟨l1,⟨sa,na,p⟩,⟨sb,nb,q⟩,l2,G,rfl⟩:=EO (l:=(pendingOf st).toList) (i:=i) (by simpa using hi);have T':=T;rw[G]at T';obtain⟨m,T1,⟨Y,a2,a3,b1,b2,b3,J⟩⟩:=ik.mp T';have O:=J.le;have a0:=T1.le;dsimp only at Y a2 a3 b1 b2 b3 J O;subst Y;subst b1;refine DO L hB G rfl a2 b2 (by lia) a3 b3 fun B B' P' S' U =>?_;have sz:(pendingOf B).size + 1=(pendingOf st).size:=by
  rw[← Il,← Il,P',G];simp;rfl
 refine h B B' ?_ sz fun t ht=>U t (by lia);rw[P'];refine ik.mpr ⟨sa,T1.same fun t x y=>U t (.inl y),rfl,by dsimp only;lia,?_,?_⟩
 ·dsimp only;rw[← Nat.add_assoc];exact S'
 ·dsimp only;rw[← Nat.add_assoc];exact J.same fun t x y=>U t (.inr x)
theorem DY (L:dF prog w A E s a₀ κ key){st:SortSt}(Y:SB a₀ κ st)(T:bX key (arrOf st) 0 (pendingOf st).toList e)(he:e≤a₀.size)(hp:1≤(pendingOf st).size)
  (h:∀ B,SB a₀ κ B→bX key (arrOf B) 0 (pendingOf B).toList e→1≤(pendingOf B).size→Off (arrOf st) (arrOf B) 0 e→Q (none,()) B):wpS (model prog w) A E s (Ch size pw) Q st:=by
 unfold Ch;refine wpS_forRange (I:=fun _ c B=>c=(none,())∧SB a₀ κ B∧bX key (arrOf B) 0 (pendingOf B).toList e∧1≤(pendingOf B).size∧Off (arrOf st) (arrOf B) 0 e) ?step ?fin ⟨rfl,Y,T,hp,Off.refl _ _ _⟩
 case fin =>
  rintro c B ⟨rfl,G,J,U,O⟩;exact h B G J U O
 case step =>
  rintro t c B _ _ ⟨rfl,G,J,U,O⟩;refine HR (wpS_get ?_);by_cases g:(pendingOf B).size > 1
  ·rw[if_pos g,Hy (show (pendingOf B).size - 2 < (pendingOf B).size by lia)];dsimp only
   split
   ·exact Ib (h B G J U O)
   ·refine HR (Ez L G J he (by lia) fun a0 B2 T2 P2 O2 =>?_);rw[if_neg (by decide)];exact Ib ⟨rfl,B2,T2,by lia,O.trans O2⟩
  ·rw[if_neg g];exact Ib (h B G J U O)
theorem qp {st:SortSt}{lo n:Nat}(B:SB a₀ κ st)(T:bX key (arrOf st) 0 (pendingOf st).toList lo)(h1:1≤n)(G:Seg key (arrOf st) lo (lo + n))
  (h:∀ st',SB a₀ κ st'→bX key (arrOf st') 0 (pendingOf st').toList (lo + n)→Q (.yield (none,lo + n)) st'):wpS (model prog w) A E s (oY lo n) Q st:=by
 unfold oY;refine HR (wpS_modify (Ib (h _ ⟨B.perm,B.kind,B.ok⟩ ?_)));show bX key (arrOf st) 0 ((pendingOf st).push (lo,n,0)).toList (lo + n);rw[Array.toList_push];exact ik.mpr ⟨lo,T,rfl,h1,G,rfl⟩
theorem qo (L:dF prog w A E s a₀ κ key){st:SortSt}{lo n size:Nat}(J:SB a₀ κ st)(T:bX key (arrOf st) 0 (pendingOf st).toList lo)(hz:lo + n≤a₀.size)(h1:1≤n)(O:Seg key (arrOf st) lo (lo + n))
  (h:∀ B,SB a₀ κ B→bX key (arrOf B) 0 (pendingOf B).toList (lo + n)→Q (.yield (none,lo + n)) B):wpS (model prog w) A E s (oX size lo n) Q st:=by
 unfold oX;refine HR (wpS_get ?_);cases hb:(pendingOf st).back? with
 | none=>exact qp J T h1 O h
 | some t =>
  obtain⟨s1,n1,p1⟩:=t;dsimp only;have ne:1≤(pendingOf st).size:=by
   rcases JE (pendingOf st).size with e|e
   ·have:pendingOf st = #[]:=Array.eq_empty_of_size_eq_zero e
    rw[this]at hb;cases hb
   ·exact e
  refine HR (DY L J T (by lia) ne fun B G Y P' U =>?_);dsimp only;refine HR (wpS_modify ?_);refine qp (key:=key) (a₀:=a₀) (κ:=κ) ⟨G.perm,G.kind,G.ok⟩ ?_ h1 (fun i j x y z =>?_) h
  ·show bX key (arrOf B) 0 ((pendingOf B).modify ((pendingOf B).size - 1) _).toList lo;refine Y.alike ?_;rw[Array.toList_modify];refine Kz fun k =>?_;rw[Ir,Ir,List.getElem?_modify]
   split
   ·cases (pendingOf B).toList[k]?<;>rfl
   ·cases (pendingOf B).toList[k]?<;>rfl
  ·show kat key (arrOf B) i≤kat key (arrOf B) j;rw[gG (U i (.inr x)),gG (U j (.inr (by lia)))];exact O i j x y z
theorem DE (L:dF prog w A E s a₀ κ key){st:SortSt}{lo G:Nat}(J:SB a₀ κ st)(T:bX key (arrOf st) 0 (pendingOf st).toList lo)(a0:lo≤a₀.size)
  (hd:a₀.size≤lo→Q (.done (none,lo)) st) (h:∀ B lo',lo < lo'→lo'≤a₀.size→SB a₀ κ B→bX key (arrOf B) 0 (pendingOf B).toList lo'→Q (.yield (none,lo')) B):wpS (model prog w) A E s (qE a₀.size G (none,lo)) Q st:=by
 unfold qE;dsimp only;by_cases e:lo ≥ a₀.size
 ·rw[if_pos e];exact Ib (hd e)
 ·rw[if_neg e];refine HR (ES L J (by lia) (by lia) fun k xs k1 k2 O ho hs =>?_);dsimp only;have T1:bX key xs 0 (pendingOf st).toList lo:=T.same fun t x y=>ho t (.inl y);by_cases c:k < G
  ·rw[if_pos c];refine HR (wpS_lift (wpAny_rule ⟨rfl,?_⟩));refine HR (Fq L (st:=setArr st xs) (J.set O) (by lia) (by lia) hs fun ys yp yo U =>?_);rw[if_neg (by decide)];refine qo L (st:=setArr st ys) (J.set (yp.trans O)) ?_ (by lia) (by lia) U fun B Y T'=>h B _ (by lia) (by lia) Y T';exact T1.same fun t x y=>yo t (.inl y)
  ·rw[if_neg c];exact qo L (st:=setArr st xs) (J.set O) T1 (by lia) k1 hs fun B Y T'=>h B _ (by lia) (by lia) Y T'
theorem z_ (h:1 < p.size):xA p + 1 < p.size:=by
 unfold xA;by_cases g:p.size - 2 > 0
 ·have e:∀ (c:Bool),(if c=true then p.size - 2 - 1 else p.size - 2) + 1 < p.size:=fun c=>by cases c<;>simp<;>omega
  exact e _
 ·rw[if_neg (show ¬ ((if p.size - 2 > 0 then p[p.size - 2 - 1]?.map (·.2.1) else none).any (· < (p[p.size - 2 + 1]?.elim 0 (·.2.1))))=true by rw[if_neg g];simp)]
  lia
theorem DK (L:dF prog w A E s a₀ κ key){st:SortSt}(O:SB a₀ κ st)(T:bX key (arrOf st) 0 (pendingOf st).toList a₀.size)
  (h:∀ B,SB a₀ κ B→Seg key (arrOf B) 0 a₀.size→Q (none,()) B):wpS (model prog w) A E s (BW a₀.size) Q st:=by
 unfold BW;have fin:∀ B,SB a₀ κ B→bX key (arrOf B) 0 (pendingOf B).toList a₀.size→(pendingOf B).size≤1→Q (none,()) B:=fun B J G h1=>by
  refine h B J fun i j x y z =>?_;cases hl:(pendingOf B).toList with
  | nil =>
   rw[hl]at G
   have:0=a₀.size:=G
   lia
  | cons t r =>
   have U:r=[]:=by
    have:=Ij List.length hl
    rw[Il,HX]at this;exact List.length_eq_zero_iff.mp (by lia)
   rw[hl,U]at G;obtain⟨h2,h3,Y,h5⟩:=G;have h5':0 + t.2.1=a₀.size:=h5;exact Y i j x y (by lia)
 refine wpS_forRange (I:=fun t c B=>c=(none,())∧SB a₀ κ B∧bX key (arrOf B) 0 (pendingOf B).toList a₀.size∧((pendingOf B).size≤1∨(pendingOf B).size + t≤a₀.size)) ?step ?fin ⟨rfl,O,T,.inr (by have:=T.le;rw[Il]at this;lia)⟩
 case fin =>
  rintro c B ⟨rfl,J,G,P'⟩;exact fin B J G (by lia)
 case step =>
  rintro t c B _ _ ⟨rfl,J,G,P'⟩;refine HR (wpS_get ?_);by_cases g:(pendingOf B).size≤1
  ·rw[if_pos g];exact Ib (fin B J G g)
  ·rw[if_neg g];refine HR (Ez L J G (Ht _) (z_ (by lia)) fun a0 B2 T2 P2 O2 =>?_);rw[if_neg (by decide)];exact Ib ⟨rfl,B2,T2,by lia⟩
theorem yb (L:dF prog w A E s a₀ κ key){st:SortSt}(hB:SB a₀ κ st)(hp:pendingOf st = #[])
  (h:∀ B,SB a₀ κ B→Seg key (arrOf B) 0 a₀.size→Q () B):wpS (model prog w) A E s sortRuns' Q st:=by
 rw[C1];refine HR (wpS_get ?_);rw[hB.size];refine HR (Ko (wpS_forRange (I:=fun t c B=>∃ lo,c=(none,lo)∧t≤lo∧lo≤a₀.size∧SB a₀ κ B∧bX key (arrOf B) 0 (pendingOf B).toList lo)
  (Q:=fun c B=>c=(none,a₀.size)∧SB a₀ κ B∧bX key (arrOf B) 0 (pendingOf B).toList a₀.size) ?step ?fin ⟨0,rfl,Ht _,HE _,hB,by rw[hp];rfl⟩) ?post)
 case fin =>
  rintro c B ⟨lo,rfl,h1,h2,G,J⟩;have e:lo=a₀.size:=by lia
  subst e;exact⟨rfl,G,J⟩
 case step =>
  rintro t c B _ _ ⟨lo,rfl,h1,h2,G,J⟩;refine DE L G J h2 (fun e =>?_) fun O U g1 g2 Y T2=>⟨U,rfl,by lia,g2,Y,T2⟩;have e':lo=a₀.size:=by lia
  subst e';exact⟨rfl,G,J⟩
 case post =>
  rintro c B ⟨rfl,G,J⟩;dsimp only;exact HR (DK L G J fun O Y S2=>Ib (h O Y S2))
end
end Tim
end
section
open Lean in
local macro_rules
 | `(∃ $bs:explicitBinders,$b)=>do
  let r:=bs.raw[0]
  let gs:=if r.getKind == ``Lean.unbracketedExplicitBinders then #[(r[0].getArgs,if r[1].isNone then none else some r[1][1])] else r.getArgs.map fun g=>(g[1].getArgs,some g[3])
  let mut cs := #[]
  let mut c:=b.raw
  while c.getKind == `«term_∧_» do
   cs:=cs.push c[0]
   c:=c[2]
  cs:=cs.push c
  let n:=(gs.map (·.1.size)).sum
  if !([(1,4),(1,5),(1,6),(1,7),(2,2),(2,3),(2,4),(2,5),(2,6),(2,7),(3,1),(3,2),(3,3),(3,4),(3,5),(3,6),(3,7),(3,8),(3,9),(4,1),(4,2),(4,3),(4,4),(4,5),(4,6),(4,7),(5,3),(5,4),(5,5),(5,6),(5,8),(5,9),(6,1),(6,3),(6,5),(6,6),(6,8),(6,9),(7,4),(7,6),(8,1),(8,3),(8,5),(8,10),(17,4)].contains (n,cs.size)) || (cs[0]!.getKind.toString.splitOn "inder").length > 1 || gs.any (fun g=>g.1.any fun x => !x[0].isIdent) then Macro.throwUnsupported
  let mut fs:Array Term := #[]
  for q in cs do
   let mut f:Term:=⟨q⟩
   for g in gs.reverse do
    for x in g.1.reverse do
     let i:Ident:=⟨x[0]⟩
     f ← match g.2 with
      | some t => `(fun ($i : $(⟨t⟩)) => $f)
      | none => `(fun $i => $f)
   fs:=fs.push f
  `($(mkCIdent (.str `L2 s!"EX{n}_{cs.size}")) $fs*)
noncomputable section
namespace L2
inductive EX1_4 {a:Type}(p q r s:a→Prop):Prop
 | mk (A:a) (P:p A) (Q:q A) (R:r A) (S:s A)
inductive EX1_5 {a:Type}(p q r s t:a→Prop):Prop
 | mk (A:a) (P:p A) (Q:q A) (R:r A) (S:s A) (T:t A)
inductive EX1_7 {a:Type}(p q r s t u v:a→Prop):Prop
 | mk (A:a) (P:p A) (Q:q A) (R:r A) (S:s A) (T:t A) (U:u A) (V:v A)
inductive EX2_2 {a b:Type}(p q:a→b→Prop):Prop
 | mk (A:a) (B:b) (P:p A B) (Q:q A B)
inductive EX2_3 {a b:Type}(p q r:a→b→Prop):Prop
 | mk (A:a) (B:b) (P:p A B) (Q:q A B) (R:r A B)
inductive EX2_4 {a b:Type}(p q r s:a→b→Prop):Prop
 | mk (A:a) (B:b) (P:p A B) (Q:q A B) (R:r A B) (S:s A B)
inductive EX2_5 {a b:Type}(p q r s t:a→b→Prop):Prop
 | mk (A:a) (B:b) (P:p A B) (Q:q A B) (R:r A B) (S:s A B) (T:t A B)
inductive EX2_6 {a b:Type}(p q r s t u:a→b→Prop):Prop
 | mk (A:a) (B:b) (P:p A B) (Q:q A B) (R:r A B) (S:s A B) (T:t A B) (U:u A B)
inductive EX3_1 {a b c:Type}(p:a→b→c→Prop):Prop
 | mk (A:a) (B:b) (C:c) (P:p A B C)
inductive EX3_2 {a b c:Type}(p q:a→b→c→Prop):Prop
 | mk (A:a) (B:b) (C:c) (P:p A B C) (Q:q A B C)
inductive EX3_3 {a b c:Type}(p q r:a→b→c→Prop):Prop
 | mk (A:a) (B:b) (C:c) (P:p A B C) (Q:q A B C) (R:r A B C)
inductive EX3_4 {a b c:Type}(p q r s:a→b→c→Prop):Prop
 | mk (A:a) (B:b) (C:c) (P:p A B C) (Q:q A B C) (R:r A B C) (S:s A B C)
inductive EX3_5 {a b c:Type}(p q r s t:a→b→c→Prop):Prop
 | mk (A:a) (B:b) (C:c) (P:p A B C) (Q:q A B C) (R:r A B C) (S:s A B C) (T:t A B C)
inductive EX3_6 {a b c:Type}(p q r s t u:a→b→c→Prop):Prop
 | mk (A:a) (B:b) (C:c) (P:p A B C) (Q:q A B C) (R:r A B C) (S:s A B C) (T:t A B C) (U:u A B C)
inductive EX3_7 {a b c:Type}(p q r s t u v:a→b→c→Prop):Prop
 | mk (A:a) (B:b) (C:c) (P:p A B C) (Q:q A B C) (R:r A B C) (S:s A B C) (T:t A B C) (U:u A B C) (V:v A B C)
inductive EX3_8 {a b c:Type}(p q r s t u v w:a→b→c→Prop):Prop
 | mk (A:a) (B:b) (C:c) (P:p A B C) (Q:q A B C) (R:r A B C) (S:s A B C) (T:t A B C) (U:u A B C) (V:v A B C) (W:w A B C)
inductive EX3_9 {a b c:Type}(p q r s t u v w x:a→b→c→Prop):Prop
 | mk (A:a) (B:b) (C:c) (P:p A B C) (Q:q A B C) (R:r A B C) (S:s A B C) (T:t A B C) (U:u A B C) (V:v A B C) (W:w A B C) (X:x A B C)
inductive EX4_1 {a b c d:Type}(p:a→b→c→d→Prop):Prop
 | mk (A:a) (B:b) (C:c) (D:d) (P:p A B C D)
inductive EX4_3 {a b c d:Type}(p q r:a→b→c→d→Prop):Prop
 | mk (A:a) (B:b) (C:c) (D:d) (P:p A B C D) (Q:q A B C D) (R:r A B C D)
inductive EX4_4 {a b c d:Type}(p q r s:a→b→c→d→Prop):Prop
 | mk (A:a) (B:b) (C:c) (D:d) (P:p A B C D) (Q:q A B C D) (R:r A B C D) (S:s A B C D)
inductive EX4_5 {a b c d:Type}(p q r s t:a→b→c→d→Prop):Prop
 | mk (A:a) (B:b) (C:c) (D:d) (P:p A B C D) (Q:q A B C D) (R:r A B C D) (S:s A B C D) (T:t A B C D)
inductive EX4_6 {a b c d:Type}(p q r s t u:a→b→c→d→Prop):Prop
 | mk (A:a) (B:b) (C:c) (D:d) (P:p A B C D) (Q:q A B C D) (R:r A B C D) (S:s A B C D) (T:t A B C D) (U:u A B C D)
inductive EX4_7 {a b c d:Type}(p q r s t u v:a→b→c→d→Prop):Prop
 | mk (A:a) (B:b) (C:c) (D:d) (P:p A B C D) (Q:q A B C D) (R:r A B C D) (S:s A B C D) (T:t A B C D) (U:u A B C D) (V:v A B C D)
inductive EX5_4 {a b c d e:Type}(p q r s:a→b→c→d→e→Prop):Prop
 | mk (A:a) (B:b) (C:c) (D:d) (E:e) (P:p A B C D E) (Q:q A B C D E) (R:r A B C D E) (S:s A B C D E)
inductive EX5_5 {a b c d e:Type}(p q r s t:a→b→c→d→e→Prop):Prop
 | mk (A:a) (B:b) (C:c) (D:d) (E:e) (P:p A B C D E) (Q:q A B C D E) (R:r A B C D E) (S:s A B C D E) (T:t A B C D E)
inductive EX5_6 {a b c d e:Type}(p q r s t u:a→b→c→d→e→Prop):Prop
 | mk (A:a) (B:b) (C:c) (D:d) (E:e) (P:p A B C D E) (Q:q A B C D E) (R:r A B C D E) (S:s A B C D E) (T:t A B C D E) (U:u A B C D E)
inductive EX5_9 {a b c d e:Type}(p q r s t u v w x:a→b→c→d→e→Prop):Prop
 | mk (A:a) (B:b) (C:c) (D:d) (E:e) (P:p A B C D E) (Q:q A B C D E) (R:r A B C D E) (S:s A B C D E) (T:t A B C D E) (U:u A B C D E) (V:v A B C D E) (W:w A B C D E) (X:x A B C D E)
inductive EX6_1 {a b c d e f:Type}(p:a→b→c→d→e→f→Prop):Prop
 | mk (A:a) (B:b) (C:c) (D:d) (E:e) (F:f) (P:p A B C D E F)
inductive EX6_3 {a b c d e f:Type}(p q r:a→b→c→d→e→f→Prop):Prop
 | mk (A:a) (B:b) (C:c) (D:d) (E:e) (F:f) (P:p A B C D E F) (Q:q A B C D E F) (R:r A B C D E F)
inductive EX6_5 {a b c d e f:Type}(p q r s t:a→b→c→d→e→f→Prop):Prop
 | mk (A:a) (B:b) (C:c) (D:d) (E:e) (F:f) (P:p A B C D E F) (Q:q A B C D E F) (R:r A B C D E F) (S:s A B C D E F) (T:t A B C D E F)
inductive EX6_6 {a b c d e f:Type}(p q r s t u:a→b→c→d→e→f→Prop):Prop
 | mk (A:a) (B:b) (C:c) (D:d) (E:e) (F:f) (P:p A B C D E F) (Q:q A B C D E F) (R:r A B C D E F) (S:s A B C D E F) (T:t A B C D E F) (U:u A B C D E F)
inductive EX6_8 {a b c d e f:Type}(p q r s t u v w:a→b→c→d→e→f→Prop):Prop
 | mk (A:a) (B:b) (C:c) (D:d) (E:e) (F:f) (P:p A B C D E F) (Q:q A B C D E F) (R:r A B C D E F) (S:s A B C D E F) (T:t A B C D E F) (U:u A B C D E F) (V:v A B C D E F) (W:w A B C D E F)
inductive EX6_9 {a b c d e f:Type}(p q r s t u v w x:a→b→c→d→e→f→Prop):Prop
 | mk (A:a) (B:b) (C:c) (D:d) (E:e) (F:f) (P:p A B C D E F) (Q:q A B C D E F) (R:r A B C D E F) (S:s A B C D E F) (T:t A B C D E F) (U:u A B C D E F) (V:v A B C D E F) (W:w A B C D E F) (X:x A B C D E F)
inductive EX7_4 {a b c d e f g:Type}(p q r s:a→b→c→d→e→f→g→Prop):Prop
 | mk (A:a) (B:b) (C:c) (D:d) (E:e) (F:f) (G:g) (P:p A B C D E F G) (Q:q A B C D E F G) (R:r A B C D E F G) (S:s A B C D E F G)
inductive EX8_1 {a b c d e f g h:Type}(p:a→b→c→d→e→f→g→h→Prop):Prop
 | mk (A:a) (B:b) (C:c) (D:d) (E:e) (F:f) (G:g) (H:h) (P:p A B C D E F G H)
inductive EX8_3 {a b c d e f g h:Type}(p q r:a→b→c→d→e→f→g→h→Prop):Prop
 | mk (A:a) (B:b) (C:c) (D:d) (E:e) (F:f) (G:g) (H:h) (P:p A B C D E F G H) (Q:q A B C D E F G H) (R:r A B C D E F G H)
inductive EX8_5 {a b c d e f g h:Type}(p q r s t:a→b→c→d→e→f→g→h→Prop):Prop
 | mk (A:a) (B:b) (C:c) (D:d) (E:e) (F:f) (G:g) (H:h) (P:p A B C D E F G H) (Q:q A B C D E F G H) (R:r A B C D E F G H) (S:s A B C D E F G H) (T:t A B C D E F G H)
inductive EX8_10 {a b c d e f g h:Type}(p q r s t u v w x y:a→b→c→d→e→f→g→h→Prop):Prop
 | mk (A:a) (B:b) (C:c) (D:d) (E:e) (F:f) (G:g) (H:h) (P:p A B C D E F G H) (Q:q A B C D E F G H) (R:r A B C D E F G H) (S:s A B C D E F G H) (T:t A B C D E F G H) (U:u A B C D E F G H) (V:v A B C D E F G H) (W:w A B C D E F G H) (X:x A B C D E F G H) (Y:y A B C D E F G H)
inductive EX17_4 {a0 a1 a2 a3 a4 a5 a6 a7 a8 a9 a10 a11 a12 a13 a14 a15 a16:Type}(p q r s:a0→a1→a2→a3→a4→a5→a6→a7→a8→a9→a10→a11→a12→a13→a14→a15→a16→Prop):Prop
 | mk (A0:a0) (A1:a1) (A2:a2) (A3:a3) (A4:a4) (A5:a5) (A6:a6) (A7:a7) (A8:a8) (A9:a9) (A10:a10) (A11:a11) (A12:a12) (A13:a13) (A14:a14) (A15:a15) (A16:a16) (P:p A0 A1 A2 A3 A4 A5 A6 A7 A8 A9 A10 A11 A12 A13 A14 A15 A16) (Q:q A0 A1 A2 A3 A4 A5 A6 A7 A8 A9 A10 A11 A12 A13 A14 A15 A16) (R:r A0 A1 A2 A3 A4 A5 A6 A7 A8 A9 A10 A11 A12 A13 A14 A15 A16) (S:s A0 A1 A2 A3 A4 A5 A6 A7 A8 A9 A10 A11 A12 A13 A14 A15 A16)
end L2
namespace L2
open PySem PySem.Spec PyProof.Rows
variable {H:Hp}{X:Cx}{s:Shared}{pos:Pos}{prog:Program}{A:Around}{K:PySem.W.Frag}
abbrev Key:=Sum Int Str
def mI:Key→Value→Bool
 | .inl k,v=>Value.isInt k v
 | .inr x,v=>Value.isStrOf x v
def G_ (w:World):Key→Int
 | .inl k=>hashInt k
 | .inr x=>hashStr w x
theorem bL:∀ {k:Key} {v:Value},mI k v=true→(∃ i t,k=Sum.inl i∧v=Value.int i t)∨(∃ x t,k=Sum.inr x∧v=Value.str x t)
 | .inl i,v,h=>by
  obtain⟨t,e⟩:=Value.isInt_shape (k:=i) (v:=v) h;exact .inl ⟨i,t,rfl,e⟩
 | .inr x,v,h=>by
  obtain⟨t,e⟩:=Value.isStrOf_shape (x:=x) (v:=v) h;exact .inr ⟨x,t,rfl,e⟩
theorem Ab (i:Int)(t:Tok):mI (.inl i) (.int i t)=true:=by simp[mI,Value.isInt]
theorem Aa (x:Str)(t:Tok):mI (.inr x) (.str x t)=true:=by simp[mI,Value.isStrOf]
theorem Fp (a b:Int):decide ((Sum.inl a:Key)=Sum.inl b)=(a == b):=by
 by_cases e:a=b
 ·subst e;simp
 ·have h:¬ (Sum.inl a:Key)=Sum.inl b:=fun q=>e (Sum.inl.inj q);rw[Ih h];exact (beq_eq_false_iff_ne.mpr e).symm
theorem Fm (a b:Str):decide ((Sum.inr a:Key)=Sum.inr b)=decide (a=b):=by
 by_cases e:a=b
 ·subst e;simp
 ·have h:¬ (Sum.inr a:Key)=Sum.inr b:=fun q=>e (Sum.inr.inj q);rw[Ih h,Ih e]
theorem Fo (a:Int)(b:Str):decide ((Sum.inl a:Key)=Sum.inr b)=false:=Ih (fun q=>nomatch q)
theorem Fn (a:Str)(b:Int):decide ((Sum.inr a:Key)=Sum.inl b)=false:=Ih (fun q=>nomatch q)
def aT (prog:Program)(w:World):PySem.KeyKind prog w Key where
 is:=mI
 hash:=G_ w
 inj:=fun v a b ha hb=>by
  rcases bL ha with⟨i,t,rfl,rfl⟩|⟨x,t,rfl,rfl⟩
  ·rcases bL hb with⟨j,u,rfl,e⟩|⟨y,u,rfl,e⟩
   ·injection e with e1 _;rw[e1]
   ·exact nomatch e
  ·rcases bL hb with⟨j,u,rfl,e⟩|⟨y,u,rfl,e⟩
   ·exact nomatch e
   ·injection e with e1 _;rw[e1]
 byValue:=fun k v h=>by
  rcases bL h with⟨i,t,rfl,rfl⟩|⟨x,t,rfl,rfl⟩<;>rfl
 pyHash:=fun hv h=>by
  rcases bL hv with⟨i,t,rfl,rfl⟩|⟨x,t,rfl,rfl⟩
  ·exact wpAny_pyHash_int h
  ·exact wpAny_pyHash_str h
 eqBool:=fun hu hv h=>by
  rcases bL hu with⟨i,t,rfl,rfl⟩|⟨x,t,rfl,rfl⟩
  ·rcases bL hv with⟨j,u,rfl,rfl⟩|⟨y,u,rfl,rfl⟩
   ·rw[Fp]at h;exact wpAny_eqBool_int h
   ·rw[Fo]at h;exact SeqAt.EqAt.int_str i t y u _ _ _ _ h
  ·rcases bL hv with⟨j,u,rfl,rfl⟩|⟨y,u,rfl,rfl⟩
   ·rw[Fn]at h;exact SeqAt.EqAt.str_int x t j u _ _ _ _ h
   ·rw[Fm]at h;exact wpAny_eqBool_str h
 «strs» := fun k x t v h=>by
  rcases bL h with⟨i,u,rfl,e⟩|⟨y,u,rfl,e⟩
  ·exact nomatch e
  ·injection e with e1 _;subst e1;cases v<;>rfl
theorem vP (prog:Program)(w:World)(i:Int)(t:Tok):(aT prog w).is (.inl i) (.int i t)=true:=Ab i t
theorem vO (prog:Program)(w:World)(x:Str)(t:Tok):(aT prog w).is (.inr x) (.str x t)=true:=Aa x t
inductive V where
 | non | bl (b:Bool) | int (i:Int) | str (x:Str) | byt (b:Array UInt8) | flt (b:UInt64) | ref (a:Addr) | ty (n:String)
 deriving DecidableEq
def bw:V→Value→Prop
 | .non,u=>u=Value.none
 | .bl b,u=>u=Value.bool b
 | .int i,u=>∃ t,u=Value.int i t
 | .str x,u=>∃ t,u=Value.str x t
 | .byt b,u=>∃ t,u=Value.bytes b t
 | .flt b,u=>∃ t,u=Value.float b t
 | .ref a,u=>u=Value.ref a
 | .ty n,u=>u=Value.type n
abbrev ba:List V→List Value→Prop:=Paired bw
theorem ba.length {xs:List V}{us:List Value}(r:ba xs us):xs.length=us.length:=Paired.length r
theorem ba.get:∀ {xs:List V} {us:List Value} {i:Nat} {x:V},ba xs us→xs[i]? = some x→∃ u,us[i]? = some u∧bw x u
 | _,_,_,_,.nil,e=>by simp at e
 | _,_,0,_,.cons r _,e=>by simp at e;subst e;exact⟨_,rfl,r⟩
 | _,_,i + 1,x,.cons _ t,e=>by
  obtain⟨u,h1,h2⟩:=ba.get (i:=i) (x:=x) t (by simpa using e);exact⟨u,by simpa using h1,h2⟩
theorem ba.append:∀ {xs ys:List V} {us ws:List Value},ba xs us→ba ys ws→ba (xs++ys) (us++ws)
 | _,_,_,_,.nil,s=>s
 | _,_,_,_,.cons r t,s=>.cons r (ba.append t s)
theorem ba.take:∀ {xs:List V} {us:List Value} (n:Nat),ba xs us→ba (xs.take n) (us.take n)
 | _,_,0,_=>.nil
 | _,_,_ + 1,.nil=>.nil
 | _,_,n + 1,.cons r t=>.cons r (ba.take n t)
theorem ba.drop:∀ {xs:List V} {us:List Value} (n:Nat),ba xs us→ba (xs.drop n) (us.drop n)
 | _,_,0,r=>r
 | _,_,_ + 1,.nil=>.nil
 | _,_,n + 1,.cons _ t=>ba.drop n t
def oN:Option V→Option Value→Prop
 | some v,some u=>bw v u
 | none,none=>True
 | _,_=>False
def KV {κ:Type}:List (κ × V)→List (κ × Value)→Prop:=Paired fun (p:κ × V) (q:κ × Value)=>p.1=q.1∧bw p.2 q.2
def kV:Key→V
 | .inl i=>.int i
 | .inr x=>.str x
inductive HO where
 
 | lst (xs:List V)
 
 | tup (xs:List V)
 
 | dK (kvs:List (Key × V)) | dT (kvs:List (List Key × V))
 
 | set (S:Int→Bool) (n:Nat)
 
 | ins (C dx:Addr) (fs:List (Str × V))
 
 | own (x:Addr)
 
 | xd (fs:List (Str × V))
 
 | met (f x:Addr)
 
 | rng (lo hi:Int)
 
 | frz (o:Obj) (u:HO)
 
 | tbl (ps:Array Value)
 
 | ext (φ:Heap→Prop)
abbrev Hp:=Addr→Option HO
def upd (H:Hp)(a:Addr)(o:HO):Hp:=fun b=>if b=a then some o else H b
def Nw (H:Hp)(o:HO)(R:Addr→Hp→Prop):Prop:=∀ p,H p=none→R p (upd H p o)
theorem ah:upd H a o a=some o:=by unfold upd;rw[if_pos rfl]
theorem aH {H:Hp}{a b:Addr}{o:HO}(h:b≠a):upd H a o b=H b:=by unfold upd;rw[if_neg h]
theorem xR:upd (upd H a o) a u=upd H a u:=by
 funext b;unfold upd;split<;>rfl
theorem Eu {H:Hp}{a b:Addr}{o u:HO}(h:H a=some o)(h':H b=some u)(d:o≠u):a≠b:=by
 intro e;subst e;rw[h]at h';exact d (Option.some.inj h')
theorem bH {H:Hp}{a b:Addr}{o:HO}(h:H a=some o)(h':H b=none):a≠b:=by
 intro e;subst e;rw[h]at h';cases h'
section
variable (P:Program)(w:World)
def bF (H:Hp)(h:Heap)(a:Addr):HO→Prop
 | .lst xs=>xs.length≤sizeLine∧∃ (its:List Value) (n:Nat),ba xs its∧h.get? a=some { cls:=.type "list",data:=.seq its.toArray n }
 | .tup xs=>xs.length≤sizeLine∧∃ its:List Value,ba xs its∧IsTup h a its.toArray
 | .dK kvs=>kvs.length≤sizeLine∧(a == sysModules)=false∧∃ vs,KV kvs vs∧h.DictOf (aT P w) a vs
 | .dT kvs=>kvs.length≤sizeLine∧(a == sysModules)=false∧∃ xs:List (List Key × Addr × Value),
   Paired (fun (p:List Key × V) (q:List Key × Addr × Value)=>p.1=q.1∧H q.2.1=some (.tup (p.1.map kV))∧bw p.2 q.2.2) kvs xs ∧
   ∃ o es ep,h.get? a=some o∧o.ExactDict∧o.data=.dict es ep∧es.toList=xs.map (entryOfKey (tupleKind (aT P w)))∧(xs.map (·.1)).Nodup
 | .set S n=>h.SetOf (intKind P w) a S n
 | .ins C dx fs=>H dx=some (.own a)∧fs.length≤1000∧dx≠a∧h.get? a=some (PySem.W.instObj C dx) ∧
   ∃ mA,h.Ns1 dx mA∧(∀ f,oN (fs.lookup f) (mA f))∧PySem.Within mA (fs.map (·.1))
 | .own _=>∃ o,h.get? a=some o
 | .xd fs=>∃ mA,h.Ns1 a mA∧∀ f,oN (fs.lookup f) (mA f)
 | .rng lo hi=>∃ t u v,h.get? a=some { cls:=.type "range",data:=.fields #[.int lo t,.int hi u,.int 1 v] }
 | .frz o u=>h.get? a=some o∧bF H h a u
 | .tbl ps=>h.get? a=some { cls:=.none,data:=.fields ps }
 | .met f x=>h.get? a=some (PySem.W.methodObj (.ref f) (.ref x))
 | .ext φ=>φ h∧(∃ o,h.get? a=some o)∧∀ h1 h2:Heap,φ h1→(∀ o,h1.get? a=some o→h2.get? a=some o)→φ h2
def HOk (H:Hp)(h:Heap):Prop:=∀ a o,H a=some o→bF P w H h a o
end
section
variable {P:Program}{w:World}{H':Hp}{h h':Heap}{a:Addr}{o:HO}
theorem bF.lt (x:bF P w H h a o):a < h.objs.size:=by
 cases o with
 | lst xs=>obtain⟨_,_,_,_,e⟩:=x;exact HL e
 | tup xs=>obtain⟨_,_,_,p⟩:=x;exact p.lt
 | dK kvs=>obtain⟨_,_,_,_,o,_,_,e,_⟩:=x;exact HL e
 | dT kvs=>obtain⟨_,_,_,_,o,_,_,e,_⟩:=x;exact HL e
 | set S n=>obtain⟨o,_,_,_,e,_⟩:=x;exact HL e
 | ins C dx fs=>obtain⟨_,_,_,e,_⟩:=x;exact HL e
 | own y=>obtain⟨_,e⟩:=x;exact HL e
 | xd fs=>obtain⟨_,⟨_,_,_,e,_⟩,_⟩:=x;exact HL e
 | rng lo hi=>obtain⟨_,_,_,e⟩:=x;exact HL e
 | frz ob u=>obtain⟨e,_⟩:=x;exact HL e
 | tbl ps=>exact HL (show h.get? a=some _ from x)
 | met f y=>exact HL (show h.get? a=some _ from x)
 | ext φ=>obtain⟨_,⟨_,e⟩,_⟩:=x;exact HL e
theorem Paired.mapP:∀ {l₁:List α} {l₂:List β},Paired F l₁ l₂→(∀ a b,F a b→G a b)→Paired G l₁ l₂
 | _,_,.nil,_=>.nil
 | _,_,.cons r t,f=>.cons (f _ _ r) (Paired.mapP t f)
theorem bF.stay (x:bF P w H h a o)(k:∀ b u,(b=a∨H b=some (.own a))→h.get? b=some u→h'.get? b=some u)
  (G:∀ b,H b=some (.own a)→H' b=some (.own a)) (J:∀ b xs,H b=some (.tup xs)→H' b=some (.tup xs)):bF P w H' h' a o:=by
 induction o with
 | lst xs=>obtain⟨z,its,n,r,e⟩:=x;exact⟨z,its,n,r,k _ _ (.inl rfl) e⟩
 | tup xs=>obtain⟨z,its,r,B,e,c⟩:=x;exact⟨z,its,r,B,k _ _ (.inl rfl) e,c⟩
 | dK kvs=>obtain⟨z,y,vs,r,B,es,ep,e,c⟩:=x;exact⟨z,y,vs,r,B,es,ep,k _ _ (.inl rfl) e,c⟩
 | dT kvs =>
  obtain⟨z,y,xs,r,B,es,ep,e,c,O,U,Y⟩:=x;exact⟨z,y,xs,Paired.mapP r fun p q z=>⟨z.1,J _ _ z.2.1,z.2.2⟩,B,es,ep,k _ _ (.inl rfl) e,c,O,U,Y⟩
 | set S n=>obtain⟨B,es,ep,t,e,c⟩:=x;exact⟨B,es,ep,t,k _ _ (.inl rfl) e,c⟩
 | ins C dx fs =>
  obtain⟨d,z,ne,e,mA,⟨od,es,ep,e2,c⟩,r⟩:=x;exact⟨G _ d,z,ne,k _ _ (.inl rfl) e,mA,⟨od,es,ep,k _ _ (.inr d) e2,c⟩,r⟩
 | own y=>obtain⟨B,e⟩:=x;exact⟨B,k _ _ (.inl rfl) e⟩
 | xd fs=>obtain⟨mA,⟨od,es,ep,e,c⟩,r⟩:=x;exact⟨mA,⟨od,es,ep,k _ _ (.inl rfl) e,c⟩,r⟩
 | rng lo hi=>obtain⟨t,u,v,e⟩:=x;exact⟨t,u,v,k _ _ (.inl rfl) e⟩
 | frz B u ih=>obtain⟨e,q⟩:=x;exact⟨k _ _ (.inl rfl) e,ih q⟩
 | tbl ps =>
  have e:h.get? a=some { cls:=.none,data:=.fields ps }:=x;show h'.get? a=some { cls:=.none,data:=.fields ps };exact k a _ (.inl rfl) e
 | met f y =>
  have e:h.get? a=some (PySem.W.methodObj (.ref f) (.ref y)):=x;show h'.get? a=some (PySem.W.methodObj (.ref f) (.ref y));exact k a _ (.inl rfl) e
 | ext φ=>obtain⟨p,⟨o,e⟩,st⟩:=x;exact⟨st _ _ p fun o q=>k _ _ (.inl rfl) q,⟨o,k _ _ (.inl rfl) e⟩,st⟩
theorem HOk.lt (x:HOk P w H h)(e:H a=some o):a < h.objs.size:=(x a o e).lt
theorem HOk.fresh (x:HOk P w H h)(e:h.objs.size≤a):H a=none:=by
 cases q:H a with
 | none=>rfl
 | some u=>exact absurd (HS (x.lt q) e) (Jq _)
theorem HOk.kept (x:HOk P w H h)(k:∀ b u,h.get? b=some u→h'.get? b=some u):HOk P w H h':=fun a o e =>
 (x a o e).stay (fun b u _ q=>k b u q) (fun _ q=>q) fun _ _ q=>q
theorem HOk.laid (x:HOk P w H h)(k:∀ b u,h.get? b=some u→h'.get? b=some u)(G:h.objs.size≤a)(new:bF P w (upd H a o) h' a o):HOk P w (upd H a o) h':=fun b u e=>by
 have B:=x.fresh G;by_cases hb:b=a
 ·subst hb;rw[ah]at e;cases e;exact new
 ·rw[aH hb]at e;exact (x b u e).stay (fun c v _ q=>k c v q) (fun c q=>by rw[aH (bH q B)];exact q) fun c xs q=>by rw[aH (bH q B)];exact q
end
def Rd (H:Hp)(a:Addr)(u:HO):Prop:=H a=some u∨∃ o,H a=some (.frz o u)
theorem Rd.ok {P:Program}{w:World}{H:Hp}{h:Heap}{a:Addr}{u:HO}(r:Rd H a u)(x:HOk P w H h):bF P w H h a u:=by
 rcases r with r|⟨o,r⟩
 ·exact x a u r
 ·obtain⟨_,q⟩:=x a _ r;exact q
def Mut:Option HO→Prop
 | some (.lst _)=>True
 | some (.dK _)=>True
 | some (.dT _)=>True
 | some (.set _ _)=>True
 | some (.ins _ _ _)=>True
 | some (.ext _)=>True
 | _=>False
section
variable {P:Program}{w:World}{h h':Heap}{x e:Addr}{o':HO}
theorem HOk.write (ok:HOk P w H h)(J:Mut (H x))(Y:e=x∨H e=some (.own x))(k:∀ b u,b≠e→h.get? b=some u→h'.get? b=some u)(U:∃ u,h'.get? e=some u)
  (new:bF P w (upd H x o') h' x o'):HOk P w (upd H x o') h':=fun b u q=>by
 have B:∀ c y,H c=some (.own y)→c≠x:=fun c y r z=>by subst z;rw[r]at J;exact J
 have G:∀ c xs,H c=some (.tup xs)→c≠x:=fun c xs r z=>by subst z;rw[r]at J;exact J
 by_cases hb:b=x
 ·subst hb;rw[ah]at q;cases q;exact new
 ·rw[aH hb]at q;by_cases hbe:b=e
  ·have q':H b=some (.own x):=by
    rcases Y with z|z
    ·exact absurd (hbe.trans z) hb
    ·rw[hbe];exact z
   rw[q]at q';cases q';obtain⟨v,hv⟩:=U;exact⟨v,by rw[hbe];exact hv⟩
  ·refine (ok b u q).stay (fun c v O r=>k c v ?_ r) (fun c r=>by rw[aH (B c b r)];exact r) fun c xs r=>by rw[aH (G c xs r)];exact r
   rcases O with rfl|O
   ·exact hbe
   ·rintro rfl;rcases Y with z | z
    ·exact B c b O z
    ·rw[O]at z;cases z;exact hb rfl
end
structure Un (fs ex:List Addr)(H H':Hp)(h h':Heap):Prop where
 keep:∀ b o,h.get? b=some o→H b=none→b∉fs→b∉ex→h'.get? b=some o
 slot:∀ b o,h.get? b=some o→H b=none→b∈fs→b∉ex→∃ sl,h'.get? b=some { o with slots:=sl }
 free:∀ b o,h.get? b=some o→H b=none→b∉ex→H' b=none
 there:∀ b o,h.get? b=some o→b∉ex→∃ o',h'.get? b=some o'
 tups:∀ b xs,H b=some (.tup xs)→H' b=some (.tup xs)
 frzs:∀ b o u,H b=some (.frz o u)→H' b=some (.frz o u)
 tbls:∀ b ps,H b=some (.tbl ps)→∃ more,H' b=some (.tbl (ps++more))
section
variable {fs fs' ex ex':List Addr}{H1 H2:Hp}{h h1 h2 h':Heap}{a x e:Addr}{o:HO}
theorem Un.any (u:Un fs ex H H1 h h1)(q:h.get? b=some ob)(n:H b=none)(B:b∉ex):∃ sl,h1.get? b=some { ob with slots:=sl }:=by
 by_cases hb:b∈fs
 ·exact u.slot b ob q n hb B
 ·exact⟨ob.slots,u.keep b ob q n hb B⟩
theorem Un.kept (k:∀ b u,h.get? b=some u→h'.get? b=some u):Un fs ex H H h h' :=
 ⟨fun b B q _ _ _=>k b B q,fun b B q _ _ _=>⟨B.slots,k b B q⟩,fun _ _ _ n _=>n,fun b B q _=>⟨B,k b B q⟩,fun _ _ q=>q,fun _ _ _ q=>q,fun _ ps q=>⟨#[],by rw[q];simp⟩⟩
theorem Un.refl:Un fs ex H H h h:=Un.kept fun _ _ q=>q
theorem Un.laid (k:∀ b u,h.get? b=some u→h'.get? b=some u)(G:h.objs.size≤a)(B:H a=none):Un fs ex H (upd H a o) h h' where
 keep:=fun b u q _ _ _=>k b u q
 slot:=fun b u q _ _ _=>⟨u.slots,k b u q⟩
 free:=fun b u q n _=>by rw[aH (Ik (HS (HL q) G))];exact n
 there:=fun b u q _=>⟨u,k b u q⟩
 tups:=fun b xs q=>by rw[aH (bH q B)];exact q
 frzs:=fun b u xs q=>by rw[aH (bH q B)];exact q
 tbls:=fun b ps q=>⟨#[],by rw[aH (bH q B),q];simp⟩
theorem Un.write (B:Mut (H x))(Y:e=x∨H e=some (.own x))(k:∀ b u,b≠e→h.get? b=some u→h'.get? b=some u)(G:∃ u,h'.get? e=some u):Un fs ex H (upd H x o) h h':=by
 have O:∀ b,H b=none→b≠x:=fun b n z=>by subst z;rw[n]at B;exact B
 have U:∀ b,H b=none→b≠e:=fun b n z=>by
  subst z;rcases Y with r | r
  ·exact O b n r
  ·rw[n]at r;cases r
 have J:∀ b u,H b=some u→¬ Mut (some u)→b≠x:=fun b u q nm z=>by subst z;rw[q]at B;exact nm B
 refine⟨fun b u q n _ _=>k b u (U b n) q,fun b u q n _ _=>⟨u.slots,k b u (U b n) q⟩,fun b u q n _=>by rw[aH (O b n)];exact n,fun b u q _ =>?_,
  fun b xs q=>by rw[aH (J b _ q fun z=>z)];exact q,fun b u xs q=>by rw[aH (J b _ q fun z=>z)];exact q,fun b ps q=>⟨#[],by rw[aH (J b _ q fun z=>z),q];simp⟩⟩
 by_cases hbe:b=e
 ·subst hbe;exact G
 ·exact⟨u,k b u hbe q⟩
end
def trk (h:Heap)(H:Hp):List Addr:=(List.range h.objs.size).filter fun a=>(H a).isSome
def rL (h:Heap)(H:Hp):Heap:=PySem.W.hideAll h (trk h H)
theorem Af (h:Heap)(H:Hp):(rL h H).objs.size=h.objs.size:=PySem.W.hideAll_size _ _
theorem B7 (e:h.get? b=some o)(n:H b=none):(rL h H).get? b=some o :=
 PySem.W.hideAll_get _ e fun B=>by
  have q:(H b).isSome=true:=(Ip.mp B).2;rw[n]at q;simp at q
theorem Dx (e:(rL h H).get? b=some o):h.get? b=some o∧H b=none:=by
 have e':h.get? b=some o:=PySem.W.of_hideAll (trk h H) e;refine⟨e',?_⟩;cases q:H b with
 | none=>rfl
 | some x =>
  have B:b∈trk h H:=Ip.mpr ⟨Js.mpr (HL e'),by simp[q]⟩;have z:(rL h H).get? b=none:=PySem.W.hideAll_none (trk h H) B;rw[z]at e;cases e
structure Mod (K:PySem.W.Frag)(mg:Str→Option Value)(base:Heap):Prop where
 kin:K.In base
 glob:base.Ns mainGlobals mg
 blt:∃ mb,base.Ns builtinsNs mb∧∀ x:Str,x ≠ "__name__" → mb x=bootBuiltins x
 nolimit:base.NoLimit
structure Cx where
 prog:Program
 w:World
 K:PySem.W.Frag
 mg:Str→Option Value
 base:Heap
 A:Around
 N:List Str
 s₀:Shared
 H₀:Hp
 env:Env
 outer:List Env
 stack:List Env
 ex:List Addr
 fn:Str→Bool
 calm:Bool
 pn:List (Addr × Obj)
 xe:Value→Shared→Prop
def frs (l:List Env):List Addr:=l.filterMap (·.frame)
abbrev Cx.fs (X:Cx):List Addr:=frs X.outer
def Vis (sc:Scope)(x:Str):Prop:=sc.names.lookup x=some .local∨sc.names.lookup x=some .cell∨sc.names.lookup x=some .free
def Loc (sc:Scope)(x:Str):Prop:=sc.names.lookup x=some .local∨sc.names.lookup x=some .cell
def Hl (env:Env)(h:Heap)(m:Str→Option Value)(x:Str)(u:Value):Prop :=
 (env.kindOf x=some .local∧m x=some u)∨((env.kindOf x=some .cell∨env.kindOf x=some .free)∧∃ c,env.cells.lookup x=some c∧h.IsCell c (some u))
structure Cx.Ok (X:Cx):Prop where
 mod:Mod X.K X.mg X.base
 kind:X.env.scope.kind=.function
 glob:X.env.globals=mainGlobals
 blt:X.env.builtins=builtinsNs
 above:X.s₀.heap.objs.size≤X.env.locals
 inj:∀ x y c,X.env.cells.lookup x=some c→X.env.cells.lookup y=some c→x=y
 has:∀ x,(X.env.kindOf x=some .cell∨X.env.kindOf x=some .free)→∃ c,X.env.cells.lookup x=some c
 cab:∀ x c,X.fn x=true→X.env.cells.lookup x=some c→X.s₀.heap.objs.size≤c
 hd:X.calm=true→X.A.handled=none
 frames:X.A.frames=some X.stack
 stk:X.stack=X.outer∨(X.stack=X.env::X.outer∧X.env.frame=some X.env.locals)
 exf:∀ b∈X.ex,b≠X.env.locals∧∀ x c,X.env.cells.lookup x=some c→c≠b
 bs:∀ b o,X.base.get? b=some o→X.s₀.heap.get? b=some o∧X.H₀ b=none
 bsz:X.base.objs.size≤X.s₀.heap.objs.size
 noex:∀ b o,X.base.get? b=some o→b∉X.ex
 exfs:∀ b∈X.ex,b∉X.fs
 funs:X.s₀.heap.FunFrames X.base X.outer
 frf:∀ b∈X.fs,X.H₀ b=none
structure Inv (X:Cx)(pins:List (Addr × Obj))(σ:List (Option V))(H:Hp)(s:Shared):Prop where
 ok:X.Ok
 os:s.os=X.s₀.os
 bare:AllBare s.gens
 base:Un X.fs X.ex X.H₀ H X.s₀.heap s.heap
 loc:∃ m,s.heap.Ns X.env.locals m∧∀ (i:Nat) (x:Str) (v:V),X.N[i]? = some x→σ[i]? = some (some v)→Vis X.env.scope x→∃ u,bw v u∧Hl X.env s.heap m x u
 cell:∀ x c,X.env.cells.lookup x=some c→∃ v,s.heap.IsCell c v
 free:H X.env.locals=none
 freeC:∀ x c,X.env.cells.lookup x=some c→H c=none
 pin:∀ p∈X.pn++pins,s.heap.get? p.1=some p.2∧H p.1=none∧p.1≠X.env.locals∧p.1∉X.fs∧∀ v,p.2.data≠.cell v
 hok:HOk X.prog X.w H s.heap
 len:σ.length=X.N.length
section
variable {pins:List (Addr × Obj)}{σ:List (Option V)}{H':Hp}{h':Heap}
theorem Cx.Ok.nofr (ok:X.Ok)(e:X.base.get? b=some o):b∉X.fs:=fun B=>by
 have:=(ok.funs.mem B).1
 rw[e]at this;cases this
theorem Inv.bs (I:Inv X pins σ H s):∀ b o,X.base.get? b=some o→s.heap.get? b=some o∧H b=none:=fun b o e =>
 ⟨I.base.keep b o (I.ok.bs b o e).1 (I.ok.bs b o e).2 (I.ok.nofr e) (I.ok.noex b o e),I.base.free b o (I.ok.bs b o e).1 (I.ok.bs b o e).2 (I.ok.noex b o e)⟩
theorem Inv.bk (I:Inv X pins σ H s):∀ b o,X.base.get? b=some o→s.heap.get? b=some o:=fun b o e=>(I.bs b o e).1
theorem Inv.mod (I:Inv X pins σ H s):Mod X.K X.mg X.base:=I.ok.mod
theorem Inv.kIn (I:Inv X pins σ H s):X.K.In s.heap:=I.ok.mod.kin.keeps I.bk
theorem Inv.nolimit (I:Inv X pins σ H s):s.heap.NoLimit:=I.ok.mod.nolimit.keeps I.bk
theorem Inv.lt (I:Inv X pins σ H s):X.env.locals < s.heap.objs.size:=let ⟨_,hn,_⟩:=I.loc;hn.lt
theorem Inv.sz (I:Inv X pins σ H s):X.s₀.heap.objs.size≤s.heap.objs.size:=H_ I.ok.above (Jk I.lt)
theorem Inv.nofs (I:Inv X pins σ H s)(h:s.heap.objs.size≤a):a∉X.fs:=fun B=>by
 obtain⟨_,o,G,_⟩:=I.ok.funs.mem B;exact absurd (HS (HL G) (H_ I.sz h)) (Jq _)
theorem Inv.cne (I:Inv X pins σ H s):∀ x c,X.env.cells.lookup x=some c→c≠X.env.locals:=fun x c e z=>by
 obtain⟨v,o,J,O⟩:=I.cell x c e;obtain⟨m,⟨o',es,ep,B,G,_⟩,_⟩:=I.loc;rw[z,B]at J;cases J;rw[G]at O;cases O
theorem Inv.funs (I:Inv X pins σ H s):s.heap.FunFrames X.base X.outer:=by
 have all:∀ (l:List Env),(∀ b∈frs l,b∈X.fs)→X.s₀.heap.FunFrames X.base l→s.heap.FunFrames X.base l:=by
  intro l
  induction l with
  | nil=>intro _ _;trivial
  | cons env r ih =>
   intro O U;obtain⟨Y,⟨L,o,B,hn,ho,hd⟩,hr⟩:=U;have G:L∈X.fs:=O L (by unfold frs;rw[JT,B];exact HP);obtain⟨sl,e⟩:=I.base.slot L o ho (I.ok.frf L G) G fun z=>I.ok.exfs L z G;exact⟨Y,⟨L,_,B,hn,e,hd⟩,ih (fun b J=>O b (by unfold frs;rw[JT,B];exact HF _ J)) hr⟩
 exact all X.outer (fun _ J=>J) I.ok.funs
theorem Inv.stack (I:Inv X pins σ H s):s.heap.FunFrames X.base X.stack:=by
 rcases I.ok.stk with e|⟨e,B⟩
 ·rw[e];exact I.funs
 ·rw[e];obtain⟨m,G,_⟩:=I.loc;refine .cons (by rw[I.ok.kind];decide) B G ?_ I.funs;exact Heap.get?_none_of_le (H_ I.ok.bsz I.ok.above)
theorem Inv.stkSub (I:Inv X pins σ H s):∀ b∈frs X.stack,b∈X.env.locals::X.fs:=fun b B=>by
 rcases I.ok.stk with e|⟨e,G⟩
 ·rw[e]at B;exact HF _ B
 ·rw[e]at B;unfold frs at B;rw[JT,G]at B;exact B
theorem Inv.stkFree (I:Inv X pins σ H s):∀ b∈frs X.stack,H b=none:=fun b B=>by
 rcases HZ.mp (I.stkSub b B) with e|B
 ·rw[e];exact I.free
 ·obtain⟨_,o,G,_⟩:=I.ok.funs.mem B;exact I.base.free b o G (I.ok.frf b B) fun z=>I.ok.exfs b z B
theorem Inv.step {g':Array GenState}{t':Nat}{d':Drawn}{ch:List Addr}(I:Inv X pins σ H s)
  (G:∀ b∈ch,(b∈X.ex∨X.s₀.heap.objs.size≤b)∧b≠X.env.locals∧(∀ x c,X.env.cells.lookup x=some c→c≠b)∧∀ p∈X.pn++pins,p.1≠b)
  (keep:∀ b o,b≠X.env.locals→b∉X.fs→b∉ch→s.heap.get? b=some o→H b=none→h'.get? b=some o)
  (a0:∀ b o,b≠X.env.locals→b∈X.fs→b∉ch→s.heap.get? b=some o→H b=none→∃ sl,h'.get? b=some { o with slots:=sl }) (free:∀ b o,b∉ch→s.heap.get? b=some o→H b=none→H' b=none)
  (there:∀ b o,b∉ch→s.heap.get? b=some o→∃ o',h'.get? b=some o')
  (tups:∀ b xs,H b=some (.tup xs)→H' b=some (.tup xs)) (a1:∀ b o u,H b=some (.frz o u)→H' b=some (.frz o u)) (a2:∀ b ps,H b=some (.tbl ps)→∃ more,H' b=some (.tbl (ps++more)))
  (ns:∀ m,s.heap.Ns X.env.locals m→h'.Ns X.env.locals m) (a4:HOk X.prog X.w H' h') (hg:AllBare g') :
  Inv X pins σ H' { s with heap:=h',gens:=g',drawn:=d',toks:=t' }:=by
 have a3:∀ b o,X.s₀.heap.get? b=some o→b≠X.env.locals:=fun b o e=>Ik (HS (HL e) I.ok.above);have U:∀ b o,X.s₀.heap.get? b=some o→b∉X.ex→b∉ch:=fun b o e B hb=>by
  rcases (G b hb).1 with z|z
  ·exact B z
  ·exact absurd (HS (HL e) z) (Jq _)
 have J:∀ x c,X.env.cells.lookup x=some c→∀ v,s.heap.IsCell c v→h'.IsCell c v:=fun x c e v ⟨o,ho,hd⟩=>by
  have O:c∉ch:=fun z=>(G c z).2.2.1 x c e rfl;by_cases hc:c∈X.fs
  ·obtain⟨sl,q⟩:=a0 c o (I.cne x c e) hc O ho (I.freeC x c e);exact⟨_,q,hd⟩
  ·exact⟨o,keep c o (I.cne x c e) hc O ho (I.freeC x c e),hd⟩
 refine⟨I.ok,I.os,hg,⟨fun b o e n hb B =>?_,fun b o e n hb B =>?_,fun b o e n B =>?_,fun b o e B =>?_,fun b xs e=>tups b xs (I.base.tups b xs e),fun b o xs e=>a1 b o xs (I.base.frzs b o xs e),fun b ps e =>?_⟩,?_,fun x c e =>?_,?_,fun x c e =>?_,fun p hp =>?_,a4,I.len⟩
 ·exact keep b o (a3 b o e) hb (U b o e B) (I.base.keep b o e n hb B) (I.base.free b o e n B)
 ·obtain⟨sl,Y⟩:=I.base.slot b o e n hb B;obtain⟨a5,e2⟩:=a0 b _ (a3 b o e) hb (U b o e B) Y (I.base.free b o e n B);exact⟨a5,e2⟩
 ·obtain⟨o',Y⟩:=I.base.there b o e B;exact free b o' (U b o e B) Y (I.base.free b o e n B)
 ·obtain⟨o',Y⟩:=I.base.there b o e B;exact there b o' (U b o e B) Y
 ·obtain⟨m1,Y⟩:=I.base.tbls b ps e;obtain⟨m2,e2⟩:=a2 b _ Y;exact⟨m1++m2,by rw[e2,Array.append_assoc]⟩
 ·obtain⟨m,hn,hl⟩:=I.loc;refine⟨m,ns m hn,fun i x v Y e2 e3 =>?_⟩;obtain⟨u,r,l⟩:=hl i x v Y e2 e3;refine⟨u,r,?_⟩;rcases l with l|⟨k,c,e,z⟩
  ·exact .inl l
  ·exact .inr ⟨k,c,e,J x c e _ z⟩
 ·obtain⟨v,z⟩:=I.cell x c e;exact⟨v,J x c e v z⟩
 ·obtain⟨m,⟨o,_,_,ho,_⟩,_⟩:=I.loc;exact free _ o (fun z=>(G _ z).2.1 rfl) ho I.free
 ·obtain⟨v,o,ho,hd⟩:=I.cell x c e;exact free c o (fun z=>(G c z).2.2.1 x c e rfl) ho (I.freeC x c e)
 ·obtain⟨e,n,ne,nf,d⟩:=I.pin p hp;have O:p.1∉ch:=fun z=>(G p.1 z).2.2.2 p hp rfl;exact⟨keep p.1 p.2 ne nf O e n,free p.1 p.2 O e n,ne,nf,d⟩
theorem Inv.un {t':Nat}(I:Inv X pins σ H s)(u:Un X.fs [] H H' s.heap h')(G:HOk X.prog X.w H' h'):Inv X pins σ H' { s with heap:=h',toks:=t' }:=by
 obtain⟨m,⟨o,es,ep,Y,r⟩,_⟩:=id I.loc;obtain⟨sl,hL⟩:=u.any Y I.free (by simp);exact I.step (g':=s.gens) (d':=s.drawn) (ch:=[]) (fun _ z=>nomatch z) (fun b o _ J _ e n=>u.keep b o e n J (by simp)) (fun b o _ J _ e n=>u.slot b o e n J (by simp)) (fun b o _ e n=>u.free b o e n (by simp)) (fun b o _ e=>u.there b o e (by simp)) u.tups u.frzs u.tbls (fun m' hm=>by
  obtain⟨o',O,U,B,r'⟩:=hm;rw[Y]at B;cases B;exact⟨_,O,U,hL,r'⟩) G I.bare
theorem Inv.call {g':Array GenState}{t':Nat}{d':Drawn}{ch:List Addr}(I:Inv X pins σ H s)(u:Un (frs X.stack) ch H H' s.heap h')(O:HOk X.prog X.w H' h')(hg:AllBare g')
  (G:∀ b∈ch,(b∈X.ex∨X.s₀.heap.objs.size≤b)∧b≠X.env.locals∧(∀ x c,X.env.cells.lookup x=some c→c≠b)∧∀ p∈X.pn++pins,p.1≠b) :
  Inv X pins σ H' { s with heap:=h',gens:=g',drawn:=d',toks:=t' }:=by
 obtain⟨m,⟨o,es,ep,ho,r⟩,_⟩:=id I.loc;obtain⟨sl,U⟩:=u.any ho I.free fun z=>(G _ z).2.1 rfl;exact I.step (ch:=ch) G (fun b o U hb B e n=>u.keep b o e n (fun z=>(HZ.mp (I.stkSub b z)).elim U hb) B) (fun b o _ _ B e n=>u.any e n B) (fun b o B e n=>u.free b o e n B) (fun b o B e=>u.there b o e B) u.tups u.frzs u.tbls (fun m' hm=>by
  obtain⟨o',Y,a0,J,r'⟩:=hm;rw[ho]at J;cases J;exact⟨_,Y,a0,U,r'⟩) O hg
theorem Inv.turned {t':Nat}{it:Addr}(I:Inv X pins σ H s)(k:∀ b o,b≠it→s.heap.get? b=some o→h'.get? b=some o)(O:H it=none)(J:it≠X.env.locals)
  (h1:it∈X.ex∨X.s₀.heap.objs.size≤it) (h2:∀ x c,X.env.cells.lookup x=some c→c≠it) (U:∀ p∈X.pn++pins,p.1≠it):Inv X pins σ H { s with heap:=h',toks:=t' }:=by
 have G:∀ b u,H b=some u→b≠it:=fun b u e z=>by rw[z,O]at e;cases e
 refine I.step (g':=s.gens) (d':=s.drawn) (ch:=[it]) (fun b Y =>?_) (fun b o _ _ B e _=>k b o (fun z=>B (by simp[z])) e) (fun b o _ _ B e _=>⟨o.slots,k b o (fun z=>B (by simp[z])) e⟩) (fun _ _ _ _ n=>n)
  (fun b o B e=>⟨o,k b o (fun z=>B (by simp[z])) e⟩) (fun _ _ e=>e) (fun _ _ _ e=>e) (fun b ps e=>⟨#[],by rw[e];simp⟩) (fun m hm =>?_) (fun b u e =>?_) I.bare
 ·have e:b=it:=by simpa using Y
  subst e;exact⟨h1,J,h2,U⟩
 ·obtain⟨o,es,ep,ho,r⟩:=hm;exact⟨o,es,ep,k _ o (Ne.symm J) ho,r⟩
 ·refine (I.hok b u e).stay (fun c v B q=>k c v ?_ q) (fun _ q=>q) fun _ _ q=>q;rcases B with z | z
  ·rw[z];exact G b u e
  ·exact G c _ z
theorem Inv.tok (I:Inv X pins σ H s)(t:Nat):Inv X pins σ H { s with toks:=t }:=I.un (h':=s.heap) (t':=t) Un.refl I.hok
theorem Inv.kept (I:Inv X pins σ H s)(k:∀ b u,s.heap.get? b=some u→h'.get? b=some u):Inv X pins σ H { s with heap:=h',toks:=t' }:=I.un (Un.kept k) (I.hok.kept k)
theorem Inv.laid (I:Inv X pins σ H s)(k:∀ b u,s.heap.get? b=some u→h'.get? b=some u)(B:s.heap.objs.size≤a)(new:bF X.prog X.w (upd H a o) h' a o):
  Inv X pins σ (upd H a o) { s with heap:=h',toks:=t' }:=I.un (Un.laid k B (I.hok.fresh B)) (I.hok.laid k B new)
theorem Inv.write (I:Inv X pins σ H s)(G:Mut (H x))(J:e=x∨H e=some (.own x))(k:∀ b u,b≠e→s.heap.get? b=some u→h'.get? b=some u)(B:∃ u,h'.get? e=some u)
  (new:bF X.prog X.w (upd H x o) h' x o):Inv X pins σ (upd H x o) { s with heap:=h',toks:=t' }:=I.un (Un.write G J k B) (I.hok.write G J k B new)
theorem Inv.weak (I:Inv X pins σ H s)(B:σ'.length=σ.length)(w:∀ (i:Nat) v,σ'[i]? = some (some v)→σ[i]? = some (some v)):Inv X pins σ' H s :=
 ⟨I.ok,I.os,I.bare,I.base,let ⟨m,hn,hl'⟩:=I.loc;⟨m,hn,fun i x v G J O=>hl' i x v G (w i v J) O⟩,I.cell,I.free,I.freeC,I.pin,I.hok,B.trans I.len⟩
theorem Inv.pins_of (I:Inv X pins σ H s)(h:∀ p∈pins',s.heap.get? p.1=some p.2∧H p.1=none∧p.1≠X.env.locals∧p.1∉X.fs∧∀ v,p.2.data≠.cell v):Inv X pins' σ H s :=
 ⟨I.ok,I.os,I.bare,I.base,I.loc,I.cell,I.free,I.freeC,fun p B=>(HD.mp B).elim (fun z=>I.pin p (Iv _ z)) (h p),I.hok,I.len⟩
theorem vM {N:List Str}(B:N.Nodup){i j:Nat}{x:Str}(a:N[i]? = some x)(b:N[j]? = some x):i=j:=by
 obtain⟨h1,G⟩:=Hx.mp a;obtain⟨h2,J⟩:=Hx.mp b;exact (List.getElem_inj B).mp (G.trans J.symm)
theorem rW {M:Model}{A:Around}{E:Value→Shared→Prop}{i:Nat}{x:Str}{v:V}{u:Value}{Q:Unit→Shared→Prop}(I:Inv X pins σ H s)(hN:X.N.Nodup)(hi:X.N[i]? = some x)(U:Loc X.env.scope x)(r:bw v u)
  (h:∀ s',Inv X pins (σ.set i (some v)) H s'→(∃ a,Heap.SameBut a s.heap s'.heap∧(a=X.env.locals∨X.env.cells.lookup x=some a))→Q () s') (hf:X.fn x=true∨X.env.scope.names.lookup x=some .local:=by first | exact .inl rfl | exact .inr rfl | assumption):wpAny M A (storeName X.env x u) Q E s:=by
 obtain⟨m,hn,hl⟩:=id I.loc;have a1:(X.env.scope.kind == .class || (X.env.scope.kind == .module && X.env.locals != X.env.globals))=false:=by rw[I.ok.kind];rfl
 have a2:i < σ.length:=by rw[I.len];exact (Hx.mp hi).1
 have cne:=I.cne;have G:∀ {a:Addr} {h':Heap},(∃ o,s.heap.get? a=some o∧H a=none)→Heap.SameBut a s.heap h'→HOk X.prog X.w H h':=fun {a h'} ha B b ob e=>by
  obtain⟨_,_,Y⟩:=ha;refine (I.hok b ob e).stay (fun c w' O q=>(B.2 c ?_).trans q) (fun _ q=>q) fun _ _ q=>q;rintro rfl;rcases O with rfl|O
  ·rw[Y]at e;cases e
  ·rw[Y]at O;cases O
 rcases U with hk|hk
 ·refine wpAny_storeName_local hk hn (fun h' a6 B =>?_) a1;obtain⟨oL,_,_,a7,_⟩:=id hn;refine h _ ⟨I.ok,I.os,I.bare,⟨fun b o e n hb U =>?_,fun b o e n hb U =>?_,I.base.free,fun b o e U =>?_,I.base.tups,I.base.frzs,I.base.tbls⟩,⟨_,a6,fun j y v' J e2 e3 =>?_⟩,fun y c e =>?_,I.free,I.freeC,fun p hp =>?_,G ⟨oL,a7,I.free⟩ B,by simpa using I.len⟩ ⟨_,B,.inl rfl⟩
  ·exact (B.2 b (Ik (HS (HL e) I.ok.above))).trans (I.base.keep b o e n hb U)
  ·obtain⟨sl,J⟩:=I.base.slot b o e n hb U;exact⟨sl,(B.2 b (Ik (HS (HL e) I.ok.above))).trans J⟩
  ·obtain⟨o',J⟩:=I.base.there b o e U;exact⟨o',(B.2 b (Ik (HS (HL e) I.ok.above))).trans J⟩
  ·by_cases hj:j=i
   ·subst hj;rw[hi]at J;cases J;rw[List.getElem?_set_self a2]at e2;cases e2;exact⟨u,r,.inl ⟨hk,by simp⟩⟩
   ·rw[List.getElem?_set_ne (Ne.symm hj)]at e2;obtain⟨u',r',q⟩:=hl j y v' J e2 e3;refine⟨u',r',?_⟩;rcases q with⟨k,e⟩ | ⟨k,c,e,z⟩
    ·refine .inl ⟨k,?_⟩
     have:y≠x:=fun e=>hj (vM hN J (e▸hi))
     simp[this,e]
    ·exact .inr ⟨k,c,e,z.sameBut B (cne y c e)⟩
  ·obtain⟨w',z⟩:=I.cell y c e;exact⟨w',z.sameBut B (cne y c e)⟩
  ·obtain⟨e,n,ne,nf,d⟩:=I.pin p hp;exact⟨(B.2 p.1 ne).trans e,n,ne,nf,d⟩
 ·have a0:X.fn x=true:=by
   rcases hf with z|z
   ·exact z
   ·rw[z]at hk;cases hk
  obtain⟨c,O⟩:=I.ok.has x (.inl hk);obtain⟨w',z⟩:=I.cell x c O;refine wpAny_storeName_cell I.ok.kind hk O z (fun h' a3 B =>?_);obtain⟨oc,a4,a5⟩:=id z;refine h { s with heap:=h' } ⟨I.ok,I.os,I.bare,⟨fun b o e n hb U =>?_,fun b o e n hb U =>?_,I.base.free,fun b o e U =>?_,I.base.tups,I.base.frzs,I.base.tbls⟩,⟨m,hn.sameBut B (Ne.symm (cne x c O)),fun j y v' J e2 e3 =>?_⟩,fun y c' e =>?_,I.free,I.freeC,fun p hp =>?_,G ⟨oc,a4,I.freeC x c O⟩ B,by simpa using I.len⟩ ⟨c,B,.inr O⟩
  ·exact (B.2 b (Ik (HS (HL e) (I.ok.cab x c a0 O)))).trans (I.base.keep b o e n hb U)
  ·obtain⟨sl,J⟩:=I.base.slot b o e n hb U;exact⟨sl,(B.2 b (Ik (HS (HL e) (I.ok.cab x c a0 O)))).trans J⟩
  ·obtain⟨o',J⟩:=I.base.there b o e U;exact⟨o',(B.2 b (Ik (HS (HL e) (I.ok.cab x c a0 O)))).trans J⟩
  ·by_cases hj:j=i
   ·subst hj;rw[hi]at J;cases J;rw[List.getElem?_set_self a2]at e2;cases e2;exact⟨u,r,.inr ⟨.inl hk,c,O,a3⟩⟩
   ·rw[List.getElem?_set_ne (Ne.symm hj)]at e2;obtain⟨u',r',q⟩:=hl j y v' J e2 e3;refine⟨u',r',?_⟩;rcases q with q | ⟨k,c',e,z'⟩
    ·exact .inl q
    ·refine .inr ⟨k,c',e,z'.sameBut B ?_⟩;rintro rfl;exact hj (vM hN J (I.ok.inj _ _ _ e O▸hi))
  ·by_cases hcc:c'=c
   ·subst hcc;exact⟨_,a3⟩
   ·obtain⟨w2,z2⟩:=I.cell y c' e;exact⟨w2,z2.sameBut B hcc⟩
  ·obtain⟨e,n,ne,nf,d⟩:=I.pin p hp;refine⟨(B.2 p.1 ?_).trans e,n,ne,nf,d⟩;intro q;rw[q,a4]at e;have q':oc=p.2:=Option.some.inj e;exact d w' (by rw[← q'];exact a5)
theorem vg (I:Inv X pins σ H s)(B:X.N.Nodup)(hi:X.N[i]? = some x)(G:Loc X.env.scope x)(r:bw v u)
  (h:∀ s',Inv X pins (σ.set i (some v)) H s'→Q () s') (J:X.fn x=true∨X.env.scope.names.lookup x=some .local:=by first | exact .inl rfl | exact .inr rfl | assumption):wpAny M A (storeName X.env x u) Q E s :=
 rW I B hi G r (fun s' O _=>h s' O) J
theorem Inv.call' (I:Inv X pins σ H s)(J:s'.os=s.os)(u:Un (frs X.stack) ch H H' s.heap s'.heap)(B:HOk X.prog X.w H' s'.heap)(O:AllBare s'.gens)
  (G:∀ b∈ch,(b∈X.ex∨X.s₀.heap.objs.size≤b)∧b≠X.env.locals∧(∀ x c,X.env.cells.lookup x=some c→c≠b)∧∀ p∈X.pn++pins,p.1≠b):Inv X pins σ H' s':=by
 obtain⟨h',g',d',t',o'⟩:=s';have e:o'=s.os:=J;subst e;exact I.call (g':=g') (t':=t') (d':=d') u B O G
end
abbrev XK:=Value→Option Addr→Hp→Prop
abbrev St:=List (Option V)
abbrev VK:=V→Hp→Prop
abbrev TE:=St→Hp→VK→Prop
abbrev TT:=St→Hp→(Bool→Hp→Prop)→Prop
abbrev TA:=St→Hp→(List V→Hp→Prop)→Prop
structure uR where
 nx:St→Hp→Prop
 rt:VK
 bk:St→Hp→Prop:=fun _ _=>False
 ct:St→Hp→Prop:=fun _ _=>False
abbrev TS:=uR→St→Hp→Prop
def EP (X:Cx)(pins:List (Addr × Obj))(σ:St)(Q:VK)(u:Value)(s':Shared):Prop:=∃ v H',Inv X pins σ H' s'∧bw v u∧Q v H'
def TP (X:Cx)(pins:List (Addr × Obj))(σ:St)(Q:Bool→Hp→Prop)(b:Bool)(s':Shared):Prop:=∃ H',Inv X pins σ H' s'∧Q b H'
def AP (X:Cx)(pins:List (Addr × Obj))(σ:St)(Q:List V→Hp→Prop)(us:List Value)(s':Shared):Prop:=∃ vs H',Inv X pins σ H' s'∧ba vs us∧Q vs H'
def SP (X:Cx)(pins:List (Addr × Obj))(D:uR)(f:Flow)(s':Shared):Prop :=
 match f with
 | .next=>∃ σ' H',Inv X pins σ' H' s'∧D.nx σ' H'
 | .brk=>∃ σ' H',Inv X pins σ' H' s'∧D.bk σ' H'
 | .cont=>∃ σ' H',Inv X pins σ' H' s'∧D.ct σ' H'
 | .ret u=>∃ v σ' H',Inv X pins σ' H' s'∧bw v u∧D.rt v H'
def PE (X:Cx)(e:Expr)(t:TE):Prop :=
 ∀ (pins:List (Addr × Obj)) (s:Shared) (σ:St) (H:Hp) (Q:VK),Inv X pins σ H s→t σ H Q→wpAny (model X.prog X.w) X.A (eval e X.env) (EP X pins σ Q) X.xe s
def PT (X:Cx)(e:Expr)(t:TT):Prop :=
 ∀ (pins:List (Addr × Obj)) (s:Shared) (σ:St) (H:Hp) (Q:Bool→Hp→Prop),Inv X pins σ H s→t σ H Q→wpAny (model X.prog X.w) X.A (isTrue e X.env (eval e X.env)) (TP X pins σ Q) X.xe s
def PW (X:Cx)(e:Expr)(t:TT):Prop :=
 ∀ (whole:Sem Value) (pins:List (Addr × Obj)) (s:Shared) (σ:St) (H:Hp) (Q:Bool→Hp→Prop),Inv X pins σ H s→t σ H Q→wpAny (model X.prog X.w) X.A (isTrue e X.env whole) (TP X pins σ Q) X.xe s
theorem PW.pt (h:PW X e t):PT X e t:=h _
def PA (X:Cx)(es:List Expr)(t:TA):Prop :=
 ∀ (pos:Pos) (pins:List (Addr × Obj)) (s:Shared) (σ:St) (H:Hp) (Q:List V→Hp→Prop),Inv X pins σ H s→t σ H Q→wpAny (model X.prog X.w) X.A (spliced (backTo pos (starEach es X.env))) (AP X pins σ Q) X.xe s
def PS (X:Cx)(st:Stmt)(t:TS):Prop :=
 ∀ (pins:List (Addr × Obj)) (s:Shared) (σ:St) (H:Hp) (D:uR),Inv X pins σ H s→t D σ H→wpAny (model X.prog X.w) X.A (exec st X.env) (SP X pins D) X.xe s
def PSs (X:Cx)(st:List Stmt)(t:TS):Prop :=
 ∀ (pins:List (Addr × Obj)) (s:Shared) (σ:St) (H:Hp) (D:uR),Inv X pins σ H s→t D σ H→wpAny (model X.prog X.w) X.A (execs st X.env) (SP X pins D) X.xe s
theorem thn (h:wpAny M A t Q E s)(B:∀ a s,Q a s→Q' a s):wpAny M A t Q' E s:=IJ h B fun _ _ x=>x
section
def wL (i:Nat):TE:=fun σ H Q=>match σ[i]? with | some (some v)=>Q v H | _=>False
theorem aM (h:wL i σ H Q):∃ v,σ[i]? = some (some v)∧Q v H:=by
 unfold wL at h
 split at h
 ·exact⟨_,‹_›,h⟩
 ·exact h.elim
theorem bc (e:σ[i]? = some (some v))(h:Q v H):wL i σ H Q:=by
 unfold wL;rw[e];exact h
theorem fG (h:Q v H)(e:σ[i]? = some (some v):=by exact rfl):wL i σ H Q:=bc e h
abbrev tC (v:V):TE:=fun _ H Q=>Q v H
theorem EX (Y:X.N[i]? = some x)(hv:Vis X.env.scope x)(J:(x == ("__debug__" : Str))=false:=by decide)(O:(x == ("__classdict__" : Str))=false:=by decide):PE X (.Name x pos) (wL i):=by
 intro pins s σ H Q I h;obtain⟨v,e,h⟩:=aM h;obtain⟨m,hn,hl⟩:=I.loc;obtain⟨u,r,l⟩:=hl i x v Y e hv;have fin:EP X pins σ Q u s:=⟨v,H,I,r,h⟩;rcases l with⟨G,hm⟩ | ⟨G,c,U,B⟩
 ·exact wpAny_Name (wpAny_loadName_local I.ok.kind G hn hm fin) J
 ·rcases G with G|G
  ·exact wpAny_Name (wpAny_loadName_cell I.ok.kind G U B fin) J
  ·exact wpAny_Name (wpAny_loadName_free I.ok.kind G U B fin O) J
theorem ae {i j pos}:PE X (.Constant (.int i) j pos) (tC (.int i)):=fun _ _ _ H _ I h=>wpAny_Constant_int ⟨.int i,H,I.tok _,⟨_,rfl⟩,h⟩
theorem dC {b j pos}:PE X (.Constant (.bool b) j pos) (tC (.bl b)):=fun _ _ _ H _ I h=>Constant_bool ⟨.bl b,H,I,rfl,h⟩
theorem xi {j pos}:PE X (.Constant .none j pos) (tC .non):=fun _ _ _ H _ I h=>Constant_none ⟨.non,H,I,rfl,h⟩
theorem cq {x j pos}:PE X (.Constant (.str x) j pos) (tC (.str x)):=fun _ _ _ H _ I h=>Calls.Constant_str ⟨.str x,H,I.tok _,⟨_,rfl⟩,h⟩
def Gl (X:Cx)(x:Str):Prop:=X.env.kindOf x=some .globalImplicit
theorem uq (I:Inv X pins σ H s)(B:Gl X x)(G:X.mg x=some u)(h:Q u s)
  (J:(x == ("__debug__" : Str))=false:=by decide):wpAny (model X.prog X.w) X.A (eval (.Name x pos) X.env) Q E s :=
 Calls.Name_function_global I.ok.kind B (Calls.loadGlobal_global (by rw[I.ok.glob];exact I.mod.glob.keeps I.bk) G h) J
theorem nU (I:Inv X pins σ H s)(B:Gl X x)(G:X.mg x=none)(J:bootBuiltins x=some u)(h:Q u s)
  (O:x ≠ "__name__" := by decide) (U:(x == ("__debug__" : Str))=false:=by decide):wpAny (model X.prog X.w) X.A (eval (.Name x pos) X.env) Q E s:=by
 obtain⟨Y,h1,h2⟩:=I.mod.blt;exact Calls.Name_function_global I.ok.kind B (Calls.loadGlobal_builtin (by rw[I.ok.glob];exact I.mod.glob.keeps I.bk) G (by rw[I.ok.blt];exact h1.keeps I.bk) ((h2 x O).trans J) h) U
theorem km (B:Gl X x)(G:X.mg x=some u)(r:bw v u)(J:(x == ("__debug__" : Str))=false:=by decide):PE X (.Name x pos) (tC v) :=
 fun _ _ _ H _ I h=>uq I B G ⟨v,H,I,r,h⟩ J
theorem Dr (B:Gl X x)(G:X.mg x=none)(J:bootBuiltins x=some u)(r:bw v u)(O:x ≠ "__name__" := by decide)(U:(x == ("__debug__" : Str))=false:=by decide):PE X (.Name x pos) (tC v) :=
 fun _ _ _ H _ I h=>nU I B G J ⟨v,H,I,r,h⟩ O U
variable {a b:Expr}{ta tb:TE}
def ofB (Q:Bool→Prop):V→Prop | .bl c=>Q c | _=>False
theorem ff (h:ofB Q x):∃ c,x=.bl c∧Q c:=by
 cases x<;>first | exact⟨_,rfl,h⟩ | exact False.elim h
abbrev tB (t:TE):TT:=fun σ H Q=>t σ H fun x H1=>ofB (Q · H1) x
theorem cG (h:PE X e t)(B:∀ whole,isTrue e X.env whole=(do let v ← whole;standAt e.pos;holding [v] (truthy v)):=by intro _;rfl):PT X e (tB t):=by
 intro pins s σ H Q I G;refine isTrue_plain (thn (h pins s σ H _ I G) fun v U ⟨x,H1,J,O,q1⟩ =>?_) (B _);obtain⟨d,rfl,q⟩:=ff q1;cases O;exact wpAny_truthy_bool ⟨H1,J,q⟩
variable {tA tB':TT}{rest:List Expr}
abbrev GX (t u:TT):TT:=fun σ H Q=>t σ H fun c H1=>if c=true then u σ H1 Q else Q false H1
abbrev tOr (t u:TT):TT:=fun σ H Q=>t σ H fun c H1=>if c=true then Q true H1 else u σ H1 Q
abbrev GR (t:TT):TT:=fun σ H Q=>t σ H fun c H1=>Q (!c) H1
theorem tI (B:PT X a tA):PW X (.BoolOp .And [a] pos) tA:=by
 intro G pins s σ H Q I h;refine isTrue_and (thn (B pins s σ H Q I h) fun c J e =>?_);cases c with
 | true=>exact isTrue_and_nil e
 | false=>exact e
theorem hV (B:PT X a tA):PW X (.BoolOp .Or [a] pos) tA:=by
 intro G pins s σ H Q I h;refine isTrue_or (thn (B pins s σ H Q I h) fun c J e =>?_);cases c with
 | false=>exact isTrue_or_nil e
 | true=>exact e
theorem qm (G:PT X a tA)(J:PW X (.BoolOp .And (b::rest) pos) tB'):PW X (.BoolOp .And (a::b::rest) pos) (GX tA tB'):=by
 intro O pins s σ H Q I h;refine isTrue_and (thn (G pins s σ H _ I h) fun c U ⟨H1,B,q1⟩ =>?_);cases c with
 | true=>exact J O pins U σ H1 Q B q1
 | false=>exact⟨H1,B,q1⟩
theorem kN (G:PT X a tA)(J:PW X (.BoolOp .Or (b::rest) pos) tB'):PW X (.BoolOp .Or (a::b::rest) pos) (tOr tA tB'):=by
 intro O pins s σ H Q I h;refine isTrue_or (thn (G pins s σ H _ I h) fun c U ⟨H1,B,q1⟩ =>?_);cases c with
 | true=>exact⟨H1,B,q1⟩
 | false=>exact J O pins U σ H1 Q B q1
theorem cH (B:PT X a tA):PT X (.UnaryOp .Not a pos) (GR tA):=by
 intro pins s σ H Q I h;exact isTrue_not (B pins s σ H (fun c H1=>Q (!c) H1) I h)
abbrev FZ (ta tb:TE):TE:=fun σ H Q=>ta σ H fun x H1=>∃ c,x=.bl c∧if c=true then tb σ H1 Q else Q (.bl false) H1
abbrev FT (ta:TE):TE:=fun σ H Q=>ta σ H fun x H1=>∃ c,x=.bl c∧Q (.bl (!c)) H1
theorem xh {op}(h:PE X a t):PE X (.BoolOp op [a] pos) t:=fun pins s σ H Q I B=>BoolOp_one (h pins s σ H Q I B)
theorem xj (G:PE X a ta)(J:PE X (.BoolOp .And (b::rest) pos) tb):PE X (.BoolOp .And (a::b::rest) pos) (FZ ta tb):=by
 intro pins s σ H Q I h;refine BoolOp_and (thn (G pins s σ H _ I h) fun v O ⟨x,H1,B,U,q1⟩ =>?_);obtain⟨c,rfl,q1⟩:=q1;cases U;refine wpAny_truthy_bool ?_;cases c with
 | true=>exact J pins O σ H1 Q B q1
 | false=>exact⟨.bl false,H1,B,rfl,q1⟩
theorem Bs (B:PE X a ta):PE X (.UnaryOp .Not a pos) (FT ta):=by
 intro pins s σ H Q I h;refine UnaryOp_ (thn (B pins s σ H _ I h) fun v O ⟨x,H1,G,J,q1⟩ =>?_);obtain⟨c,rfl,q1⟩:=q1;cases J;exact not_of (wpAny_truthy_bool ⟨.bl (!c),H1,G,rfl,q1⟩)
end
def SqL (K:PySem.W.Frag)(H:Hp)(a:Addr)(xs:List V):Prop :=
 Rd H a (.lst xs) ∨
  ∃ (o:Obj) (its:Array Value) (n:Nat),K.lookup a=some o∧o.cls=.type "list" ∧ o.dict=none∧o.data=.seq its n∧its.size≤sizeLine∧ba xs its.toList
def SqT (K:PySem.W.Frag)(H:Hp)(a:Addr)(xs:List V):Prop :=
 Rd H a (.tup xs) ∨
  ∃ (o:Obj) (its:Array Value) (n:Nat),K.lookup a=some o∧o.cls=.type "tuple" ∧ o.data=.seq its n∧its.size≤sizeLine∧ba xs its.toList
def Hj:Value→Option V
 | .none=>some .non
 | .bool b=>some (.bl b)
 | .int i _=>some (.int i)
 | .str x _=>some (.str x)
 | .bytes b _=>some (.byt b)
 | .float b _=>some (.flt b)
 | .ref a=>some (.ref a)
 | .type n=>some (.ty n)
 | _=>none
theorem bw.abs (r:bw x u):Hj u=some x:=by
 cases x with
 | non=>cases r;rfl
 | bl _=>cases r;rfl
 | int _=>obtain⟨t,rfl⟩:=r;rfl
 | str _=>obtain⟨t,rfl⟩:=r;rfl
 | byt _=>obtain⟨t,rfl⟩:=r;rfl
 | flt _=>obtain⟨t,rfl⟩:=r;rfl
 | ref _=>cases r;rfl
 | ty _=>cases r;rfl
theorem bw.inj (r:bw x u)(q:bw y u):x=y:=Option.some.inj (r.abs.symm.trans q.abs)
theorem ba.inj:∀ {xs ys:List V} {us:List Value},ba xs us→ba ys us→xs=ys
 | _,_,_,.nil,.nil=>rfl
 | _,_,_,.cons r t,.cons r' t'=>by rw[r.inj r',ba.inj t t']
section
variable {pins:List (Addr × Obj)}{σ:St}{a:Addr}{xs ys:List V}
theorem SqL.of {K:PySem.W.Frag}(h:H a=some (.lst xs)):SqL K H a xs:=.inl (.inl h)
theorem SqT.of {K:PySem.W.Frag}(h:H a=some (.tup xs)):SqT K H a xs:=.inl (.inl h)
theorem Inv.list (I:Inv X pins σ H s)(h:SqL X.K H a xs):∃ its:List Value,ba xs its∧PlainL s.heap a its.toArray∧xs.length≤sizeLine:=by
 rcases h with h|⟨o,its,n,B,G,J,O,U,r⟩
 ·obtain⟨z,its,n,r,e⟩:=h.ok I.hok;exact⟨its,r,⟨_,n,e,rfl,rfl,rfl⟩,z⟩
 ·refine⟨its.toList,r,⟨o,n,I.kIn a o B,G,J,by simpa using O⟩,?_⟩;have e:=r.length;simp only[Il]at e
  lia
theorem Inv.tuple (I:Inv X pins σ H s)(h:SqT X.K H a xs):∃ its:List Value,ba xs its∧IsTup s.heap a its.toArray∧xs.length≤sizeLine:=by
 rcases h with h|⟨o,its,n,B,G,J,O,r⟩
 ·obtain⟨z,its,r,p⟩:=h.ok I.hok;exact⟨its,r,p,z⟩
 ·refine⟨its.toList,r,⟨o,I.kIn a o B,G,n,by simpa using J⟩,?_⟩;have e:=r.length;simp only[Il]at e
  lia
theorem Inv.list_inj (I:Inv X pins σ H s)(h:SqL X.K H a xs)(h':SqL X.K H a ys):xs=ys:=by
 obtain⟨its,r,⟨o,n,e,_,_,d⟩,_⟩:=I.list h;obtain⟨its',G,⟨o',J,B,_,_,d'⟩,_⟩:=I.list h';rw[e]at B;cases B;rw[d]at d';injection d' with d1 _
 have:its=its':=by simpa using Ij Array.toList d1
 subst this;exact r.inj G
theorem Inv.tuple_inj (I:Inv X pins σ H s)(h:SqT X.K H a xs)(h':SqT X.K H a ys):xs=ys:=by
 obtain⟨its,r,⟨o,e,_,n,d⟩,_⟩:=I.tuple h;obtain⟨its',G,⟨o',B,_,J,d'⟩,_⟩:=I.tuple h';rw[e]at B;cases B;rw[d]at d';injection d' with d1 _
 have:its=its':=by simpa using Ij Array.toList d1
 subst this;exact r.inj G
end
abbrev Cx.wish (X:Cx)(E:Value→Shared→Prop):Cx:={ X with xe:=E }
abbrev Cx.nox (X:Cx):Cx:=X.wish fun _ _=>False
theorem Cx.Ok.wish {X:Cx}(ok:X.Ok)(E:Value→Shared→Prop):(X.wish E).Ok :=
 ⟨ok.mod,ok.kind,ok.glob,ok.blt,ok.above,ok.inj,ok.has,ok.cab,ok.hd,ok.frames,ok.stk,ok.exf,ok.bs,ok.bsz,ok.noex,ok.exfs,ok.funs,ok.frf⟩
theorem Cx.Ok.unwish {X:Cx}{E:Value→Shared→Prop}(ok:(X.wish E).Ok):X.Ok :=
 ⟨ok.mod,ok.kind,ok.glob,ok.blt,ok.above,ok.inj,ok.has,ok.cab,ok.hd,ok.frames,ok.stk,ok.exf,ok.bs,ok.bsz,ok.noex,ok.exfs,ok.funs,ok.frf⟩
section
variable {pins:List (Addr × Obj)}{σ:St}{E:Value→Shared→Prop}
theorem Inv.wish (I:Inv X pins σ H s)(E:Value→Shared→Prop):Inv (X.wish E) pins σ H s:=⟨I.ok.wish E,I.os,I.bare,I.base,I.loc,I.cell,I.free,I.freeC,I.pin,I.hok,I.len⟩
theorem Inv.unwish (I:Inv (X.wish E) pins σ H s):Inv X pins σ H s:=⟨I.ok.unwish,I.os,I.bare,I.base,I.loc,I.cell,I.free,I.freeC,I.pin,I.hok,I.len⟩
theorem SP.unwish (h:SP (X.wish E) pins D f s'):SP X pins D f s':=by
 cases f with
 | next=>obtain⟨B,H',I,q⟩:=h;exact⟨B,H',I.unwish,q⟩
 | brk=>obtain⟨B,H',I,q⟩:=h;exact⟨B,H',I.unwish,q⟩
 | cont=>obtain⟨B,H',I,q⟩:=h;exact⟨B,H',I.unwish,q⟩
 | ret u=>obtain⟨v,B,H',I,r,q⟩:=h;exact⟨v,B,H',I.unwish,r,q⟩
theorem PSs.nox {st:List Stmt}(h:PSs X.nox st t):PSs X st t:=fun pins s σ H D I B =>
 IJ (h pins s σ H D (I.wish _) B) (fun _ _ q=>q.unwish) fun _ _ z=>False.elim z
end
section
variable {st:Stmt}{rest:List Stmt}{t u:TS}{e:Expr}{te:TE}
abbrev FU:TS:=fun D σ H=>D.nx σ H
abbrev wM (t u:TS):TS:=fun D σ H=>t { D with nx:=u D } σ H
theorem aG:PSs X [] FU:=fun _ _ σ H _ I h=>wpAny_execs_nil ⟨σ,H,I,h⟩
theorem ac (h1:PS X st t)(h2:PSs X rest u):PSs X (st::rest) (wM t u):=by
 intro pins s σ H D I h;refine wpAny_execs_cons (thn (h1 pins s σ H { D with nx:=u D } I h) fun f B q =>?_);cases f with
 | next =>
  obtain⟨G,H',J,q⟩:=q;exact h2 pins B G H' D J q
 | ret v=>exact q
 | brk=>exact q
 | cont=>exact q
theorem ag (h1:PS X st t):PSs X [st] t:=by
 intro pins s σ H D I h;refine wpAny_execs_cons (thn (h1 pins s σ H D I h) fun f B q =>?_);cases f with
 | next=>exact wpAny_execs_nil q
 | ret v=>exact q
 | brk=>exact q
 | cont=>exact q
theorem Inv.quiet (I:Inv X pins σ H s):interactive X.env=false:=by simp[interactive,I.ok.kind]
abbrev FX (te:TE):TS:=fun D σ H=>te σ H fun _ H1=>D.nx σ H1
theorem aW (B:PE X e te)(G:swapsWith e none pos.line X.env=pure false:=by rfl):PS X (.Expr e pos) (FX te):=by
 intro pins s σ H D I h;exact wpAny_Expr_any (thn (B pins s σ H _ I h) fun v O ⟨x,H1,J,U,q1⟩=>⟨σ,H1,J,q1⟩) I.quiet G
abbrev GQ (te:TE):TS:=fun D σ H=>te σ H D.rt
theorem aA (B:PE X e te):PS X (.Return (some e) pos) (GQ te):=by
 intro pins s σ H D I h;exact wpAny_Return_some (thn (B pins s σ H _ I h) fun v O ⟨x,H1,G,J,q1⟩=>⟨x,σ,H1,G,J,q1⟩)
abbrev GT (c:TT)(t u:TS):TS:=fun D σ H=>c σ H fun b H1=>if b=true then t D σ H1 else u D σ H1
theorem aQ (J:PT X c tc)(O:PSs X a t)(U:PSs X b u):PS X (.If c a b pos) (GT tc t u):=by
 intro pins s σ H D I h;refine wpAny_If (thn (J pins s σ H _ I h) fun d B ⟨H1,G,q1⟩ =>?_);cases d with
 | true=>exact O pins B σ H1 D G q1
 | false=>exact U pins B σ H1 D G q1
def EK:TS:=fun _ _ _=>False
theorem qq:PS X st EK:=fun _ _ _ _ _ _ h=>h.elim
end
abbrev TG:=V→St→Hp→(St→Hp→Prop)→Prop
abbrev TGs:=List V→St→Hp→(St→Hp→Prop)→Prop
def PG (X:Cx)(target:Expr)(t:TG):Prop :=
 ∀ (pins:List (Addr × Obj)) (s:Shared) (σ:St) (H:Hp) (v:V) (u:Value) (Q:St→Hp→Prop),Inv X pins σ H s→bw v u→t v σ H Q →
  wpAny (model X.prog X.w) X.A (assign target X.env u) (fun _ s'=>∃ σ' H',Inv X pins σ' H' s'∧Q σ' H') X.xe s
def PGs (X:Cx)(ts:List Expr)(t:TGs):Prop :=
 ∀ (pins:List (Addr × Obj)) (s:Shared) (σ:St) (H:Hp) (vs:List V) (us:List Value) (Q:St→Hp→Prop),Inv X pins σ H s→ba vs us→t vs σ H Q →
  wpAny (model X.prog X.w) X.A (assignInOrder ((assignEach ts X.env).map (·.2)) us) (fun _ s'=>∃ σ' H',Inv X pins σ' H' s'∧Q σ' H') X.xe s
section
abbrev oj (i:Nat):TG:=fun v σ H Q=>Q (σ.set i (some v)) H
theorem o_ (B:X.N.Nodup)(hi:X.N[i]? = some x)(G:Loc X.env.scope x)(J:X.fn x=true∨X.env.scope.names.lookup x=some .local:=by first | exact .inl rfl | exact .inr rfl | assumption):PG X (.Name x pos) (oj i):=by
 intro pins s σ H v u Q I r h;exact wpAny_assign_Name (vg I B hi G r (fun s' O=>⟨_,H,O,h⟩) J)
def Hf:TGs:=fun vs σ H Q=>vs=[]∧Q σ H
inductive CC (t:TG)(u:TGs)(vs:List V)(σ:St)(H:Hp)(Q:St→Hp→Prop):Prop
 | mk (v r:_) (h_0:vs=v::r) (h_1:t v σ H fun σ' H'=>u r σ' H' Q):CC t u vs σ H Q
def Gz (t:TG)(u:TGs):TGs:=fun vs σ H Q=>CC t u vs σ H Q
theorem d8:PGs X [] Hf:=by
 intro pins s σ H vs us Q I r h;obtain⟨e,h⟩:=h;subst e;cases r;exact assignInOrder_nil ⟨σ,H,I,h⟩
theorem aV (h1:PG X e t)(h2:PGs X es u)
  (B:(assignEach (e::es) X.env).map (·.2)=assign e X.env::(assignEach es X.env).map (·.2):=by rfl):PGs X (e::es) (Gz t u):=by
 intro pins s σ H vs us Q I r h;obtain⟨v,Y,G,h⟩:=h;subst G;cases r with
 | cons r rr =>
  rw[B];refine assignInOrder_cons (thn (h1 pins s σ H _ _ _ I r h) fun _ J ⟨O,H1,U,q1⟩ =>?_);exact h2 pins J O H1 _ _ Q U rr q1
inductive EF (K:PySem.W.Frag)(n:Nat)(t:TGs)(v:V)(σ:St)(H:Hp)(Q:St→Hp→Prop):Prop
 | mk (a xs:_) (h_0:v=.ref a) (h_1:SqT K H a xs) (h_2:xs.length=n) (h_3:t xs σ H Q):EF K n t v σ H Q
def Gy (K:PySem.W.Frag)(n:Nat)(t:TGs):TG:=fun v σ H Q=>EF K n t v σ H Q
theorem iV (O:X.calm=true)(h:PGs X es t)
  (U:(assignEach es X.env).length=n:=by rfl) (B:(assignEach es X.env).findIdx? (·.1)=none:=by rfl):PG X (.Tuple es k pos) (Gy X.K n t):=by
 intro pins s σ H v u Q I r G;obtain⟨a,xs,Y,hq,hl,G⟩:=G;subst Y;cases r;obtain⟨its,J,ht,hz⟩:=I.tuple hq;refine assign_Tuple_tuple (I.ok.hd O) ht (by simp[U,← hl,J.length]) B fun h' hx =>?_;have I1:Inv X pins σ H { s with heap:=h' }:=I.kept (t':=s.toks) fun b o e=>hx b o (Ik (HL e)) e;exact h pins _ σ H xs _ Q I1 (by simpa using J) G
abbrev zi (te:TE)(g:TG):TS:=fun D σ H=>te σ H fun x H1=>g x σ H1 D.nx
theorem xg (B:PE X e te)(G:PG X tg g)(J:swapsWithSole [tg] e pos.line X.env=pure false:=by rfl)(O:swappedStores [tg] e X.env=pure none:=by rfl)
  (h1:(assignEach [tg] X.env).map (·.2)=[assign tg X.env]:=by rfl):PS X (.Assign [tg] e pos) (zi te g):=by
 intro pins s σ H D I h;refine wpAny_Assign_stores (thn (B pins s σ H _ I h) fun v U ⟨x,H1,Y,r1,q1⟩ =>?_) J O;rw[h1];exact thn (G pins U σ H1 x v _ Y r1 q1) fun _ s2 q=>q
theorem xf (B:X.N.Nodup)(hi:X.N[i]? = some x)(G:Loc X.env.scope x)(J:PE X e te)(O:swapsWith e (some (.Name x pos')) pos.line X.env=pure false:=by rfl)(U:X.fn x=true∨X.env.scope.names.lookup x=some .local:=by first | exact .inl rfl | exact .inr rfl | assumption):
  PS X (.Assign [.Name x pos'] e pos) (zi te (oj i)):=by
 intro pins s σ H D I h;refine wpAny_Assign_Name (thn (J pins s σ H _ I h) fun v s1 ⟨y,H1,Y,r1,q1⟩ =>?_) O;exact vg Y B hi G r1 (fun s2 I2=>⟨_,H1,I2,q1⟩) U
def AI (c:TT)(tb:TS):TS:=fun D σ H=>∃ W:Nat→St→Hp→Prop,(∃ m,W m σ H)∧∀ m σ H,W m σ H →
 c σ H fun b H1=>if b=true then ∃ N:St→Hp→Prop,(∀ σ' H',N σ' H'→∃ m',m' < m∧W m' σ' H')∧tb { D with nx:=N,ct:=N,bk:=D.nx } σ H1 else D.nx σ H1
theorem jL (hp:PassesOwn (model X.prog X.w) X.A X.env X.xe)(hc:PT X c tc)(hb:PSs X body tb):PS X (.While c body [] pos) (AI tc tb):=by
 intro pins s σ H D I h;obtain⟨W,⟨m0,w0⟩,turn⟩:=h;refine wpAny_While (codeAny_whileLoop (fun n s'=>∃ σ' H',Inv X pins σ' H' s'∧W n σ' H') ?_ m0 ⟨σ,H,I,w0⟩);rintro n s1 ⟨J,H1,I1,w1⟩;refine wpAny_passesOwn hp (thn (hc pins s1 J H1 _ I1 (turn n J H1 w1)) fun b s2 ⟨H2,I2,q2⟩ =>?_);cases b with
 | true =>
  obtain⟨N,hN,q2⟩:=q2;rw[if_pos rfl];refine wpAny_passesOwn hp (thn (hb pins s2 J H2 _ I2 q2) fun f s3 q3 =>?_);cases f with
  | next =>
   obtain⟨B,G,O,U⟩:=q3;obtain⟨Y,hm,w3⟩:=hN B G U;exact⟨Y,hm,B,G,O,w3⟩
  | cont =>
   obtain⟨B,G,O,U⟩:=q3;obtain⟨Y,hm,w3⟩:=hN B G U;exact⟨Y,hm,B,G,O,w3⟩
  | brk=>exact q3
  | ret v=>exact q3
 | false =>
  rw[if_neg HN];exact wpAny_execs_nil ⟨J,H2,I2,q2⟩
end
structure It where
 go:Nat→Hp→Prop
 yld:Nat→Hp→V→Hp→Prop
 stop:Nat→Hp→Prop
def wG (X:Cx)(pins:List (Addr × Obj))(H:Hp)(b:Addr):Prop :=
 H b=none∧b≠X.env.locals∧b∉X.fs∧(b∈X.ex∨X.s₀.heap.objs.size≤b)∧(∀ x c,X.env.cells.lookup x=some c→c≠b)∧∀ p∈X.pn++pins,p.1≠b
theorem Inv.fpOk (I:Inv X pins σ H s)(B:s.heap.objs.size≤b)(G:H' b=none):wG X pins H' b:=by
 refine⟨G,Jo (HS I.lt B),I.nofs B,.inr (H_ I.sz B),fun x c e z =>?_,fun p J z =>?_⟩
 ·obtain⟨v,q⟩:=I.cell x c e;exact absurd (HS q.lt (by rw[z];exact B)) (Jq _)
 ·exact absurd (HS (HL (I.pin p J).1) (by rw[z];exact B)) (Jq _)
structure As (P:Program)(w:World)(K:PySem.W.Frag)(tg:Expr)(J:It)(fp:List Addr)(it:Addr)(tn:Nat→Heap→Prop):Prop where
 mem:it∈fp
 obj:∀ i h,tn i h→∀ b∈fp,∃ o,h.get? b=some o∧∀ v,o.data≠.cell v
 keep:∀ i h h',tn i h→(∀ b∈fp,∀ o,h.get? b=some o→h'.get? b=some o)→tn i h'
 item:∀ (X:Cx),X.prog=P→X.w=w→X.K=K→X.calm=true→∀ (i:Nat) (pins:List (Addr × Obj)) (s:Shared) (σ:St) (H:Hp) (E:Value→Shared→Prop),Inv X pins σ H s→(∀ b∈fp,wG X pins H b)→tn i s.heap→J.go i H →
  wpAny (model P w) X.A (pyNext (.ref it)) (fun r s1=>∃ u,r=some u ∧
   wpAny (model P w) X.A (letOwnedTupleGo tg (.ref it) u) (fun _ s2=>∃ x H',Inv X pins σ H' s2∧bw x u∧J.yld i H x H'∧tn (i + 1) s2.heap∧∀ b∈fp,H' b=none) E s1) E s
 done:∀ (X:Cx),X.prog=P→X.w=w→X.K=K→X.calm=true→∀ (i:Nat) (pins:List (Addr × Obj)) (s:Shared) (σ:St) (H:Hp) (E:Value→Shared→Prop),Inv X pins σ H s→(∀ b∈fp,wG X pins H b)→tn i s.heap→J.stop i H →
  wpAny (model P w) X.A (pyNext (.ref it)) (fun r s1=>r=none∧Inv X pins σ H s1) E s
 self:∀ (A:Around) (i:Nat) (s:Shared) (Q:Value→Shared→Prop) (E:Value→Shared→Prop),tn i s.heap→Q (.ref it) s→wpAny (model P w) A (pyIter (.ref it)) Q E s
abbrev TI:=St→Hp→(It→Hp→Prop)→Prop
def PIE (X:Cx)(pins:List (Addr × Obj))(σ:St)(tg:Expr)(R:It→Hp→Prop)(itv:Value)(s2:Shared):Prop :=
 ∃ (it:Addr) (fp:List Addr) (tn:Nat→Heap→Prop) (J:It) (H':Hp),itv=.ref it∧Inv X pins σ H' s2∧As X.prog X.w X.K tg J fp it tn∧tn 0 s2.heap∧(∀ b∈fp,wG X pins H' b)∧R J H'
def PI (X:Cx)(tg iter:Expr)(wi:TI):Prop :=
 ∀ (pins:List (Addr × Obj)) (s:Shared) (σ:St) (H:Hp) (R:It→Hp→Prop),Inv X pins σ H s→wi σ H R →
  wpAny (model X.prog X.w) X.A (eval iter X.env) (fun v s1=>wpAny (model X.prog X.w) X.A (pyIter v) (PIE X pins σ tg R) X.xe s1) X.xe s
theorem vW (G:s.heap.get? it=some o)(J:o.cls=.type n)(O:o.data=.fields vs)
  (U:["enumerate","zip","dict_itemiterator","dict_reverseitemiterator","odict_iterator","itertools.zip_longest","itertools.pairwise"].contains n=false) (B:Q () s):wpAny M A (letOwnedTupleGo tg (.ref it) u) Q E s:=by
 unfold letOwnedTupleGo;cases tg<;>first
  | exact HJ B
  | (cases u<;>first
    | exact HJ B
    | (refine Ho (wpAny_load G ?_)
       rw[J,O];show wpAny M A (if (["enumerate","zip","dict_itemiterator","dict_reverseitemiterator","odict_iterator","itertools.zip_longest","itertools.pairwise"].contains n && vs[0]? == some (rawInt _))=true then _ else _) Q E s
       rw[if_neg (by intro h;rw[U,Bool.false_and]at h;cases h)];exact HJ B))
def Itl (K:PySem.W.Frag)(a:Addr):It :=
 ⟨fun i H=>∃ xs x,SqL K H a xs∧xs[i]? = some x,fun i H x H'=>H'=H∧∀ xs,SqL K H a xs→xs[i]? = some x,fun i H=>∃ xs,SqL K H a xs∧xs.length≤i⟩
def Itt (K:PySem.W.Frag)(a:Addr):It :=
 ⟨fun i H=>∃ xs x,SqT K H a xs∧xs[i]? = some x,fun i H x H'=>H'=H∧∀ xs,SqT K H a xs→xs[i]? = some x,fun i H=>∃ xs,SqT K H a xs∧xs.length≤i⟩
def Itr (lo:Int)(n:Nat):It:=⟨fun i _=>i < n,fun i H x H'=>H'=H∧x=.int (lo + i),fun i _=>n≤i⟩
theorem ze {K:PySem.W.Frag}(a it:Addr):As P w K tg (Itl K a) [it] it (fun i h=>h.IsListIter it a i) where
 mem:=by simp
 obj:=fun i h st b B=>by
  have e:b=it:=by simpa using B
  subst e;obtain⟨o,e,c,d⟩:=st;exact⟨o,e,fun v z=>by rw[d]at z;cases z⟩
 keep:=fun i h h' st k=>st.at fun o e=>k it (by simp) o e
 item:=by
  intro X U Y hK hc i pins s σ H E I J st hg;subst U Y hK;obtain⟨xs,x,O,hx⟩:=hg;obtain⟨its,rv,p,hz⟩:=I.list O;obtain⟨u,hu,ru⟩:=rv.get hx;obtain⟨f0,f1,f2,f3,f4,f5⟩:=J it (by simp);refine wpAny_pyNext_list_item st p.isList (x:=u) (by simpa using hu) fun h' G sb =>?_;have I1:Inv X pins σ H { s with heap:=h' }:=I.turned (t':=s.toks) (fun b o B e=>(sb.2 b B).trans e) f0 f1 f3 f4 f5;obtain⟨o,e,c,d⟩:=id G;exact⟨u,rfl,vW (s:={ s with heap:=h' }) e c d (by decide) ⟨x,H,I1,ru,⟨rfl,fun ys hy=>by rw[I.list_inj hy O];exact hx⟩,G,fun b B=>(J b B).1⟩⟩
 done:=by
  intro X U Y hK hc i pins s σ H E I J st hg;subst U Y hK;obtain⟨xs,O,hx⟩:=hg;obtain⟨its,rv,p,hz⟩:=I.list O;obtain⟨f0,f1,f2,f3,f4,f5⟩:=J it (by simp);have hl:=rv.length;exact wpAny_pyNext_list_end (I.ok.hd hc) st p.isList (by simp;lia) fun h' eb=>⟨rfl,I.turned (t':=s.toks) (fun b o B e=>eb b o B e) f0 f1 f3 f4 f5⟩
 self:=fun _ _ _ _ _ st h=>wpAny_pyIter_listiter st h
theorem wI {K:PySem.W.Frag}(a it:Addr):As P w K tg (Itt K a) [it] it (fun i h=>h.IsTupleIter it a i) where
 mem:=by simp
 obj:=fun i h st b B=>by
  have e:b=it:=by simpa using B
  subst e;obtain⟨o,e,c,d⟩:=st;exact⟨o,e,fun v z=>by rw[d]at z;cases z⟩
 keep:=fun i h h' st k=>st.at fun o e=>k it (by simp) o e
 item:=by
  intro X U Y hK hc i pins s σ H E I J st hg;subst U Y hK;obtain⟨xs,x,O,hx⟩:=hg;obtain⟨its,rv,p,hz⟩:=I.tuple O;obtain⟨u,hu,ru⟩:=rv.get hx;obtain⟨f0,f1,f2,f3,f4,f5⟩:=J it (by simp);refine wpAny_pyNext_tuple_item st (show s.heap.IsTuple a its.toArray from p) (x:=u) (by simpa using hu) fun h' G sb =>?_;have I1:Inv X pins σ H { s with heap:=h' }:=I.turned (t':=s.toks) (fun b o B e=>(sb.2 b B).trans e) f0 f1 f3 f4 f5;obtain⟨o,e,c,d⟩:=id G;exact⟨u,rfl,vW (s:={ s with heap:=h' }) e c d (by decide) ⟨x,H,I1,ru,⟨rfl,fun ys hy=>by rw[I.tuple_inj hy O];exact hx⟩,G,fun b B=>(J b B).1⟩⟩
 done:=by
  intro X U Y hK hc i pins s σ H E I J st hg;subst U Y hK;obtain⟨xs,O,hx⟩:=hg;obtain⟨its,rv,p,hz⟩:=I.tuple O;obtain⟨f0,f1,f2,f3,f4,f5⟩:=J it (by simp);have hl:=rv.length;exact wpAny_pyNext_tuple_end (I.ok.hd hc) st (show s.heap.IsTuple a its.toArray from p) (by simp;lia) fun h' eb=>⟨rfl,I.turned (t':=s.toks) (fun b o B e=>eb b o B e) f0 f1 f3 f4 f5⟩
 self:=fun _ _ _ _ _ st h=>wpAny_pyIter_tupleiter st h
theorem wJ {K:PySem.W.Frag}(it:Addr)(lo:Int)(n:Nat):As P w K tg (Itr lo n) [it] it (fun i h=>IsRangeIter h it (lo + (i:Nat) * 1) ((n:Int) - (i:Nat)) 1) where
 mem:=by simp
 obj:=fun i h st b B=>by
  have e:b=it:=by simpa using B
  subst e;exact⟨_,st,fun v z=>by
   have z':Data.fields _=Data.cell v:=z;cases z'⟩
 keep:=fun i h h' st k=>k it (by simp) _ st
 item:=by
  intro X O U Y hc i pins s σ H E I J st hg;subst O U Y;obtain⟨f0,f1,f2,f3,f4,f5⟩:=J it (by simp);have W:=Walks.range (prog:=X.prog) (w:=X.w) (I.ok.hd hc) it lo 1 n;refine W.item i s _ _ hg st fun v h' tk hv G kk =>?_;obtain⟨t,rfl⟩:=hv;have I1:Inv X pins σ H { s with heap:=h',toks:=tk }:=I.turned (fun b o B e=>kk b o (by simpa using B) e) f0 f1 f3 f4 f5;refine⟨_,rfl,vW (s:={ s with heap:=h',toks:=tk }) (n := "range_iterator") G rfl rfl (by decide) ⟨.int (lo + i),H,I1,⟨t,?_⟩,⟨rfl,rfl⟩,G,fun b B=>(J b B).1⟩⟩
  rw[Int.mul_one]
 done:=by
  intro X O U Y hc i pins s σ H E I J st hg;subst O U Y;obtain⟨f0,f1,f2,f3,f4,f5⟩:=J it (by simp);exact wpAny_pyNext_range_end (I.ok.hd hc) st (by have:n≤i:=hg;lia) fun h' eb=>⟨rfl,I.turned (t':=s.toks) (fun b o B e=>eb b o B e) f0 f1 f3 f4 f5⟩
 self:=fun _ _ _ _ _ st h=>wpAny_pyIter_rangeiter st h
section
variable {tg:Expr}
inductive CB (K:PySem.W.Frag)(R:It→Hp→Prop)(x:V)(H1:Hp):Prop
 | mk (a:_) (h_0:x=.ref a) (h_1:(∃ xs,SqL K H1 a xs)) (h_2:R (Itl K a) H1):CB K R x H1
abbrev Gv (K:PySem.W.Frag)(tl:TE):TI:=fun σ H R=>tl σ H fun x H1=>CB K R x H1
abbrev Hc (K:PySem.W.Frag)(tl:TE):TI:=fun σ H R=>tl σ H fun x H1=>∃ a,x=.ref a∧(∃ xs,SqT K H1 a xs)∧R (Itt K a) H1
theorem bU (J:PE X l tl):PI X tg l (Gv X.K tl):=by
 intro pins s σ H R I h;refine thn (J pins s σ H _ I h) fun v B ⟨x,H1,G,O,q1⟩ =>?_;obtain⟨a,e,⟨xs,U⟩,q⟩:=q1;subst e;cases O;obtain⟨its,rv,p,hz⟩:=G.list U;refine wpAny_pyIter_list p.isList ?_;refine⟨B.heap.objs.size,[B.heap.objs.size],_,_,H1,rfl,G.kept (t':=B.toks) fun b o e=>Hq _ e,ze a _,⟨_,HQ _ rfl,rfl,rfl⟩,fun b Y =>?_,q⟩;have e:b=B.heap.objs.size:=by simpa using Y
 subst e;exact G.fpOk (Ht _) (G.hok.fresh (Ht _))
theorem tJ (J:PE X l tl):PI X tg l (Hc X.K tl):=by
 intro pins s σ H R I h;refine thn (J pins s σ H _ I h) fun v B ⟨x,H1,G,O,q1⟩ =>?_;obtain⟨a,e,⟨xs,U⟩,q⟩:=q1;subst e;cases O;obtain⟨its,rv,p,hz⟩:=G.tuple U;refine wpAny_pyIter_tuple (show B.heap.IsTuple a its.toArray from p) ?_;refine⟨B.heap.objs.size,[B.heap.objs.size],_,_,H1,rfl,G.kept (t':=B.toks) fun b o e=>Hq _ e,wI a _,⟨_,HQ _ rfl,rfl,rfl⟩,fun b Y =>?_,q⟩;have e:b=B.heap.objs.size:=by simpa using Y
 subst e;exact G.fpOk (Ht _) (G.hok.fresh (Ht _))
theorem AY {lo hi:Int}(I:Inv X pins σ H s)(h1:-(2 ^ 62)≤lo)(h2:lo < 2 ^ 62)(G:-(2 ^ 62)≤hi)(J:hi < 2 ^ 62)
  (q:R (Itr lo (hi - lo).toNat) H):wpAny (model X.prog X.w) X.A (pyIter (.ref s.heap.objs.size)) (PIE X pins σ tg R) E { s with heap:=s.heap.push { cls:=.type "range",data:=.fields #[.int lo t,.int hi u,.int 1 v] },toks:=tk }:=by
 refine wpAny_pyIter_range (IsRange.new ..) (small_one h1 h2 G J) ?_;have B:Inv X pins σ H { s with heap:=s.heap.push { cls:=.type "range",data:=.fields #[.int lo t,.int hi u,.int 1 v] },toks:=tk }:=I.kept fun b o e=>Hq _ e
 refine⟨(s.heap.push { cls:=.type "range",data:=.fields #[.int lo t,.int hi u,.int 1 v] }).objs.size,[(s.heap.push { cls:=.type "range",data:=.fields #[.int lo t,.int hi u,.int 1 v] }).objs.size],_,_,H,rfl,
  B.kept (t':=tk) fun b o e=>Hq _ e,wJ _ lo (hi - lo).toNat,?_,fun b O =>?_,q⟩
 ·have U:lo + ((0:Nat):Int) * 1=lo:=by simp
  have Y:(((hi - lo).toNat:Nat):Int) - ((0:Nat):Int)=Builtin.Range.rangeSize lo hi 1:=by rw[rangeSize_one];split<;>lia
  show IsRangeIter _ _ (lo + ((0:Nat):Int) * 1) ((((hi - lo).toNat:Nat):Int) - ((0:Nat):Int)) 1;rw[U,Y];exact HQ _ rfl
 ·have e:b=(s.heap.push { cls:=.type "range",data:=.fields #[.int lo t,.int hi u,.int 1 v] }).objs.size:=by simpa using O
  subst e;exact B.fpOk (Ht _) (B.hok.fresh (Ht _))
abbrev Gu (ta:TA):TI:=fun σ H R=>ta σ H fun vs H1=>∃ j:Int,vs=[.int j]∧-(2 ^ 62)≤j∧j < 2 ^ 62∧R (Itr 0 j.toNat) H1
theorem bQ (B:Gl X "range")(G:X.mg "range" = none)(J:PA X [a] ta)(O:starEach [a] X.env=[(false,eval a X.env)]:=by rfl):PI X tg (.Call (.Name "range" p) [a] [] pos) (Gu ta):=by
 intro pins s σ H R I h;refine Call_ (nU I B G boot_range (PyProof.Rows.callWith_type1 (thn (J pos pins s σ H _ I h) fun us s1 ⟨vs,H1,U,Y,q1⟩ =>?_) O rfl));obtain⟨j,e,q1,q2,q⟩:=q1;subst e;cases Y with
 | cons r rr =>
  cases rr;obtain⟨t,rfl⟩:=r;exact call_range_1 (AY U (by simp) (by simp) q1 q2 (by simpa using q))
abbrev GU (wi:TI)(g:TG)(tb:TS):TS:=fun D σ H=>wi σ H fun J H1=>∃ W:Nat→Nat→St→Hp→Prop,(∃ m,W 0 m σ H1)∧∀ i m σ H,W i m σ H →
 (J.stop i H∧D.nx σ H)∨(J.go i H∧∃ N:St→Hp→Prop,(∀ σ' H',N σ' H'→∃ m',m' < m∧W (i + 1) m' σ' H')∧∀ x H',J.yld i H x H'→g x σ H' fun σ2 H2=>tb { D with nx:=N,ct:=N,bk:=D.nx } σ2 H2)
def qt (fp:List Addr)(h:Heap):List (Addr × Obj):=fp.filterMap fun b=>(h.get? b).map fun o=>(b,o)
theorem iZ (B:b∈fp)(e:h.get? b=some o):(b,o)∈qt fp h:=List.mem_filterMap.mpr ⟨b,B,by rw[e];rfl⟩
theorem zS (B:p∈qt fp h):p.1∈fp∧h.get? p.1=some p.2:=by
 obtain⟨b,G,e⟩:=List.mem_filterMap.mp B;cases q:h.get? b with
 | none=>rw[q]at e;cases e
 | some o =>
  rw[q]at e;have e':(b,o)=p:=Option.some.inj e;subst e';exact⟨G,q⟩
theorem Inv.pinned (I:Inv X pins σ H s)(J:∀ b∈fp,wG X pins H b)(O:∀ b∈fp,∃ o,s.heap.get? b=some o∧∀ v,o.data≠.cell v):Inv X (pins++qt fp s.heap) σ H s :=
 I.pins_of fun p U=>(HD.mp U).elim (fun z=>I.pin p (Ia _ z)) fun z=>by
  obtain⟨B,e⟩:=zS z;obtain⟨Y,f1,f2,_⟩:=J p.1 B;obtain⟨o,G,d⟩:=O p.1 B;rw[e]at G;cases G;exact⟨e,Y,f1,f2,d⟩
theorem Inv.unpinned (I:Inv X (pins++pl) σ H s):Inv X pins σ H s:=I.pins_of fun p B=>I.pin p (Ia _ (Iv _ B))
theorem aN (hp:PassesOwn (model X.prog X.w) X.A X.env X.xe)(hc:X.calm=true)(hi:PI X tg iter wi)(hg:PG X tg g)(B:PSs X body tb)
  (hs:∀ x,foldedSetIterable iter X.env x=pure x:=by intro _;rfl):PS X (.For tg iter body [] pos) (GU wi g tb):=by
 intro pins s σ H D I h;refine wpAny_For (thn (hi pins s σ H _ I h) fun v s1 h1=>thn h1 fun a6 s2 h2 =>?_) hs;obtain⟨it,fp,tn,J,H2,e,I2,T,a4,f2,W,⟨m0,w0⟩,turn⟩:=h2;subst e
 -- what stays true of the iterator's objects through the loop
 have G:∀ {H':Hp},(∀ b∈fp,H' b=none)→∀ b∈fp,wG X pins H' b:=fun hn b B=>⟨hn b B,(f2 b B).2⟩;refine codeAny_forLoop_any (fun n s'=>∃ i σ' H',Inv X pins σ' H' s'∧tn i s'.heap∧(∀ b∈fp,H' b=none)∧W i n σ' H') ?_ m0 ⟨0,σ,H2,I2,a4,fun b B=>(f2 b B).1,w0⟩;rintro n s3 ⟨i,σ3,H3,I3,a1,a2,w3⟩;rcases turn i n σ3 H3 w3 with⟨a3,qn⟩ | ⟨go,N,hN,step⟩
 ·refine wpAny_passesOwn hp (thn (T.done X rfl rfl rfl hc i pins s3 σ3 H3 X.xe I3 (G a2) a1 a3) fun r s4 ⟨hr,I4⟩ =>?_);subst hr;exact wpAny_execs_nil ⟨σ3,H3,I4,qn⟩
 ·refine wpAny_passesOwn hp (thn (T.item X rfl rfl rfl hc i pins s3 σ3 H3 X.xe I3 (G a2) a1 go) fun r s4 ⟨u,hr,h4⟩ =>?_);subst hr;refine wpAny_passesOwn hp (thn h4 fun _ s5 ⟨x,H5,I5,r5,y5,a0,a5⟩ =>?_);have I5':=I5.pinned (G a5) (T.obj _ _ a0);refine wpAny_passesOwn hp (thn (hg _ s5 σ3 H5 x u _ I5' r5 (step x H5 y5)) fun _ s6 ⟨σ6,H6,I6,q6⟩ =>?_);refine wpAny_passesOwn hp (thn (B _ s6 σ6 H6 _ I6 q6) fun f s7 q7 =>?_);have again:∀ {O:St} {U:Hp},Inv X (pins++qt fp s5.heap) O U s7→N O U→∃ m,m < n∧∃ i σ' H',Inv X pins σ' H' s7∧tn i s7.heap∧(∀ b∈fp,H' b=none)∧W i m σ' H':=fun {O U} Y n7=>by
   obtain⟨m',hm,w7⟩:=hN O U n7;refine⟨m',hm,i + 1,O,U,Y.unpinned,T.keep _ _ _ a0 fun b B o e=>(Y.pin (b,o) (Ia _ (Ia _ (iZ B e)))).1,fun b B =>?_,w7⟩;obtain⟨o,e,d⟩:=T.obj _ _ a0 b B;exact (Y.pin (b,o) (Ia _ (Ia _ (iZ B e)))).2.1
  cases f with
  | next=>obtain⟨O,U,Y,n7⟩:=q7;exact again Y n7
  | cont=>obtain⟨O,U,Y,n7⟩:=q7;exact again Y n7
  | brk=>obtain⟨O,U,Y,q7⟩:=q7;exact⟨O,U,Y.unpinned,q7⟩
  | ret v=>obtain⟨x7,O,U,Y,r7,q7⟩:=q7;exact⟨x7,O,U,Y.unpinned,r7,q7⟩
end
theorem cE {K:PySem.W.Frag}{a:Addr}{xs:List V}{g:TG}{tb:TS}{D:uR}{σ:St}{H:Hp}(Pv:Nat→St→Hp→Prop)(J:Pv 0 σ H)(O:∀ i σ H,i≤xs.length→Pv i σ H→SqL K H a xs)
  (U:∀ i x σ H,xs[i]? = some x→Pv i σ H→g x σ H fun B H2=>tb { D with nx:=Pv (i + 1),ct:=Pv (i + 1),bk:=D.nx } B H2) (Y:∀ σ H,Pv xs.length σ H→D.nx σ H) :
  ∃ W:Nat→Nat→St→Hp→Prop,(∃ m,W 0 m σ H)∧∀ i m σ H,W i m σ H →
   ((Itl K a).stop i H∧D.nx σ H)∨((Itl K a).go i H∧∃ N:St→Hp→Prop,(∀ G H',N G H'→∃ m',m' < m∧W (i + 1) m' G H')∧∀ x H',(Itl K a).yld i H x H'→g x σ H' fun B H2=>tb { D with nx:=N,ct:=N,bk:=D.nx } B H2):=by
 refine⟨fun i m σ H=>m=xs.length - i∧i≤xs.length∧Pv i σ H,⟨xs.length,by simp,HE _,J⟩,?_⟩;rintro i m σ H ⟨rfl,hi,p⟩;have q:=O i σ H hi p;by_cases hlt:i < xs.length
 ·refine .inr ⟨⟨xs,xs[i],q,by simp[hlt]⟩,Pv (i + 1),fun G H' p'=>⟨xs.length - (i + 1),by omega,rfl,hlt,p'⟩,fun x H' y =>?_⟩;obtain⟨e,y⟩:=y;subst e;exact U i x σ _ (y xs q) p
 ·have e:i=xs.length:=by lia
  subst e;exact .inl ⟨⟨xs,q,Ht _⟩,Y σ H p⟩
theorem pF {K:PySem.W.Frag}{a:Addr}{xs:List V}{g:TG}{tb:TS}{D:uR}{σ:St}{H:Hp}(Pv:Nat→St→Hp→Prop)(J:Pv 0 σ H)(O:∀ i σ H,i≤xs.length→Pv i σ H→SqT K H a xs)
  (U:∀ i x σ H,xs[i]? = some x→Pv i σ H→g x σ H fun B H2=>tb { D with nx:=Pv (i + 1),ct:=Pv (i + 1),bk:=D.nx } B H2) (Y:∀ σ H,Pv xs.length σ H→D.nx σ H) :
  ∃ W:Nat→Nat→St→Hp→Prop,(∃ m,W 0 m σ H)∧∀ i m σ H,W i m σ H →
   ((Itt K a).stop i H∧D.nx σ H)∨((Itt K a).go i H∧∃ N:St→Hp→Prop,(∀ G H',N G H'→∃ m',m' < m∧W (i + 1) m' G H')∧∀ x H',(Itt K a).yld i H x H'→g x σ H' fun B H2=>tb { D with nx:=N,ct:=N,bk:=D.nx } B H2):=by
 refine⟨fun i m σ H=>m=xs.length - i∧i≤xs.length∧Pv i σ H,⟨xs.length,by simp,HE _,J⟩,?_⟩;rintro i m σ H ⟨rfl,hi,p⟩;have q:=O i σ H hi p;by_cases hlt:i < xs.length
 ·refine .inr ⟨⟨xs,xs[i],q,by simp[hlt]⟩,Pv (i + 1),fun G H' p'=>⟨xs.length - (i + 1),by omega,rfl,hlt,p'⟩,fun x H' y =>?_⟩;obtain⟨e,y⟩:=y;subst e;exact U i x σ _ (y xs q) p
 ·have e:i=xs.length:=by lia
  subst e;exact .inl ⟨⟨xs,q,Ht _⟩,Y σ H p⟩
theorem bV {lo:Int}{n:Nat}{g:TG}{tb:TS}{D:uR}{σ:St}{H:Hp}(Pv:Nat→St→Hp→Prop)(J:Pv 0 σ H)
  (O:∀ i σ H,i < n→Pv i σ H→g (.int (lo + i)) σ H fun B H2=>tb { D with nx:=Pv (i + 1),ct:=Pv (i + 1),bk:=D.nx } B H2) (U:∀ σ H,Pv n σ H→D.nx σ H) :
  ∃ W:Nat→Nat→St→Hp→Prop,(∃ m,W 0 m σ H)∧∀ i m σ H,W i m σ H →
   ((Itr lo n).stop i H∧D.nx σ H)∨((Itr lo n).go i H∧∃ N:St→Hp→Prop,(∀ G H',N G H'→∃ m',m' < m∧W (i + 1) m' G H')∧∀ x H',(Itr lo n).yld i H x H'→g x σ H' fun B H2=>tb { D with nx:=N,ct:=N,bk:=D.nx } B H2):=by
 refine⟨fun i m σ H=>m=n - i∧i≤n∧Pv i σ H,⟨n,by simp,HE _,J⟩,?_⟩;rintro i m σ H ⟨rfl,hi,p⟩;by_cases hlt:i < n
 ·refine .inr ⟨hlt,Pv (i + 1),fun G H' Y=>⟨n - (i + 1),by lia,rfl,hlt,Y⟩,fun x H' y =>?_⟩;obtain⟨e,y⟩:=y;subst e y;exact O i σ _ hlt p
 ·have e:i=n:=by lia
  subst e;exact .inl ⟨Ht _,U σ H p⟩
theorem pP (Pv:St→Hp→Prop)(μ:St→Hp→Nat)(G:Pv σ H)
  (J:∀ σ H,Pv σ H→c σ H fun b H1=>if b=true then tb { D with nx:=fun B H'=>Pv B H'∧μ B H' < μ σ H,ct:=fun B H'=>Pv B H'∧μ B H' < μ σ H,bk:=D.nx } σ H1 else D.nx σ H1)
  (mono:∀ σ H Q Q',(∀ b H1,Q b H1→Q' b H1)→c σ H Q→c σ H Q'):AI c tb D σ H:=by
 refine⟨fun m σ H=>m=μ σ H∧Pv σ H,⟨_,rfl,G⟩,?_⟩;rintro m σ H ⟨rfl,p⟩;refine mono σ H _ _ (fun b H1 q =>?_) (J σ H p);cases b with
 | true=>exact⟨_,fun B H' ⟨O,l⟩=>⟨_,l,rfl,O⟩,q⟩
 | false=>exact q
abbrev R2:=V→V→Hp→VK→Prop
def OpR (X:Cx)(f:Value→Value→Sem Value)(r:R2):Prop :=
 ∀ (pins:List (Addr × Obj)) (s:Shared) (σ:St) (H:Hp) (x y:V) (v u:Value) (Q:VK),Inv X pins σ H s→bw x v→bw y u→r x y H Q →
  wpAny (model X.prog X.w) X.A (f v u) (EP X pins σ Q) X.xe s
def UnR (X:Cx)(f:Value→Sem Value)(r:V→Hp→VK→Prop):Prop :=
 ∀ (pins:List (Addr × Obj)) (s:Shared) (σ:St) (H:Hp) (x:V) (v:Value) (Q:VK),Inv X pins σ H s→bw x v→r x H Q →
  wpAny (model X.prog X.w) X.A (f v) (EP X pins σ Q) X.xe s
def gJ (X:Cx)(f:Value)(r:List V→Hp→VK→Prop):Prop :=
 ∀ (pins:List (Addr × Obj)) (s:Shared) (σ:St) (H:Hp) (xs:List V) (us:List Value) (Q:VK),Inv X pins σ H s→ba xs us→r xs H Q →
  wpAny (model X.prog X.w) X.A (call f us) (EP X pins σ Q) X.xe s
abbrev tOp (r:R2)(ta tb:TE):TE:=fun σ H Q=>ta σ H fun x H1=>tb σ H1 fun y H2=>r x y H2 Q
abbrev tUn (r:V→Hp→VK→Prop)(ta:TE):TE:=fun σ H Q=>ta σ H fun x H1=>r x H1 Q
def of2 (Q:Int→Int→Prop):V→V→Prop | .int i,.int j=>Q i j | _,_=>False
theorem ko (h:of2 Q x y):∃ i j,x=.int i∧y=.int j∧Q i j:=by
 cases x<;>cases y<;>first | exact⟨_,_,rfl,rfl,h⟩ | exact False.elim h
def rI (C:Int→Int→Prop)(g:Int→Int→V):R2:=fun x y H Q=>of2 (fun i j=>C i j∧Q (g i j) H) x y
def rI0 (g:Int→Int→V):R2:=fun x y H Q=>of2 (fun i j=>Q (g i j) H) x y
theorem bE (h:Q i j):of2 Q (.int i) (.int j):=h
def rU (g:Int→V):V→Hp→VK→Prop:=fun x H Q=>∃ i,x=.int i∧Q (g i) H
section
variable {a b c:Expr}{ta tb tc:TE}
theorem FF (G:PE X a ta)(J:PE X b tb){pins:List (Addr × Obj)}{s:Shared}{σ:St}{H:Hp}{R:V→V→Hp→Prop}(I:Inv X pins σ H s)
  (h:ta σ H fun x H1=>tb σ H1 fun y H2=>R x y H2) {Q:Value→Shared→Prop} {f:Value→Value→Sem Value}
  (O:∀ v u B x y H2,Inv X pins σ H2 B→bw x v→bw y u→R x y H2→wpAny (model X.prog X.w) X.A (f v u) Q X.xe B) :
  wpAny (model X.prog X.w) X.A (eval a X.env) (fun v U=>wpAny (model X.prog X.w) X.A (eval b X.env) (fun u Y=>wpAny (model X.prog X.w) X.A (f v u) Q X.xe Y) X.xe U) X.xe s:=by
 refine thn (G pins s σ H _ I h) fun v s1 ⟨x,H1,I1,r1,q1⟩ =>?_;refine thn (J pins s1 σ H1 _ I1 q1) fun u B ⟨y,H2,I2,r2,q2⟩ =>?_;exact O v u B x y H2 I2 r1 r2 q2
theorem ai {op:Operator}{r:R2}(B:OpR X (binaryOp op) r)(G:PE X a ta)(J:PE X b tb):PE X (.BinOp a op b pos) (tOp r ta tb):=by
 intro pins s σ H Q I h;exact wpAny_BinOp (FF G J I h fun v u O x y H2 U Y ry q=>B pins O σ H2 x y v u Q U Y ry q)
theorem yl (B:UnR X (unaryOp op) r)(G:PE X a ta):PE X (.UnaryOp op a pos) (tUn r ta):=by
 intro pins s σ H Q I h;exact UnaryOp_ (thn (G pins s σ H _ I h) fun v J ⟨x,H1,O,U,q1⟩=>B pins J σ H1 x v Q O U q1)
theorem opI {f:Value→Value→Sem Value}{C:Int→Int→Prop}{g:Int→Int→Int}
  (rule:∀ (i j:Int) (t u:Tok) (s:Shared) (Q:Value→Shared→Prop) (E:Value→Shared→Prop),C i j→Q (.int (g i j) s.toks) { s with toks:=s.toks + 1 }→wpAny (model X.prog X.w) X.A (f (.int i t) (.int j u)) Q E s) :
  OpR X f (rI C fun i j=>.int (g i j)):=by
 intro pins s σ H x y v u Q I B G h;obtain⟨i,j,rfl,rfl,J,q⟩:=ko h;obtain⟨t,rfl⟩:=B;obtain⟨t',rfl⟩:=G;exact rule i j t t' s _ _ J ⟨.int (g i j),H,I.tok _,⟨_,rfl⟩,q⟩
theorem Gb {f:Value→Value→Sem Value}{g:Int→Int→Int}
  (rule:∀ (i j:Int) (t u:Tok) (s:Shared) (Q:Value→Shared→Prop) (E:Value→Shared→Prop),Q (.int (g i j) s.toks) { s with toks:=s.toks + 1 }→wpAny (model X.prog X.w) X.A (f (.int i t) (.int j u)) Q E s) :
  OpR X f (rI0 fun i j=>.int (g i j)):=by
 intro pins s σ H x y v u Q I B G h;obtain⟨i,j,rfl,rfl,q⟩:=ko h;obtain⟨t,rfl⟩:=B;obtain⟨t',rfl⟩:=G;exact rule i j t t' s _ _ ⟨.int (g i j),H,I.tok _,⟨_,rfl⟩,q⟩
theorem E8 {f:Value→Value→Sem Value}{g:Int→Int→Bool}
  (rule:∀ (i j:Int) (t u:Tok) (s:Shared) (Q:Value→Shared→Prop) (E:Value→Shared→Prop),Q (.bool (g i j)) s→wpAny (model X.prog X.w) X.A (f (.int i t) (.int j u)) Q E s) :
  OpR X f (rI0 fun i j=>.bl (g i j)):=by
 intro pins s σ H x y v u Q I B G h;obtain⟨i,j,rfl,rfl,q⟩:=ko h;obtain⟨t,rfl⟩:=B;obtain⟨t',rfl⟩:=G;exact rule i j t t' s _ _ ⟨.bl (g i j),H,I,rfl,q⟩
def Aw (i j:Int):Prop:=0≤j∧j≤1000000∧i.natAbs < 2 ^ 64
def FP (i j:Int):Prop:=(-(2 ^ 64) < i∧i < 2 ^ 64)∨(-(2 ^ 64) < j∧j < 2 ^ 64)
theorem FP.ok {i j:Int}(h:FP i j):IntMulOk i j:=by
 rcases h with⟨h1,h2⟩|⟨h1,h2⟩
 ·exact .of_left (intBits_le_64 h1 h2)
 ·exact .of_right (intBits_le_64 h1 h2)
def Bf:R2:=fun x y H Q=>of2 (fun i j=>Q (.int (i + j)) H) x y
theorem aI:OpR X (binaryOp .Add) Bf:=Gb fun _ _ _ _ _ _ _ q=>add_int q
def A_:R2:=fun x y H Q=>of2 (fun i j=>Q (.int (i - j)) H) x y
theorem bM:OpR X (binaryOp .Sub) A_:=Gb fun _ _ _ _ _ _ _ q=>sub_int q
def Bc:R2:=fun x y H Q=>of2 (fun i j=>FP i j∧Q (.int (i * j)) H) x y
theorem cQ:OpR X (binaryOp .Mult) Bc:=opI fun _ _ _ _ _ _ _ B q=>mul_int q B.ok
def Be:R2:=fun x y H Q=>of2 (fun i j=>0 < j∧Q (.int (i % j)) H) x y
theorem aL:OpR X (binaryOp .Mod) Be:=opI fun i j _ _ _ _ _ B q=>by
 have h1:(0:Int) < j:=B;exact mod_int' (by lia) (by rw[Int.fmod_eq_emod_of_nonneg i (by lia)];exact q)
def Bb:R2:=fun x y H Q=>of2 (fun i j=>Aw i j∧Q (.int (i ^ j.toNat)) H) x y
theorem Bz:OpR X (binaryOp .Pow) Bb:=opI fun _ _ _ _ _ _ _ B q=>pow_int_small B.1 B.2.1 B.2.2 q
def Ba:R2:=fun x y H Q=>of2 (fun i j=>Aw i j∧Q (.int (i * 2 ^ j.toNat)) H) x y
theorem tN:OpR X (binaryOp .LShift) Ba:=opI fun _ _ _ _ _ _ _ B q=>lshift_int_small B.1 B.2.1 B.2.2 q
theorem unI {f:Value→Sem Value}{g:Int→Int}
  (rule:∀ (i:Int) (t:Tok) (s:Shared) (Q:Value→Shared→Prop) (E:Value→Shared→Prop),Q (.int (g i) s.toks) { s with toks:=s.toks + 1 }→wpAny (model X.prog X.w) X.A (f (.int i t)) Q E s) :
  UnR X f (rU fun i=>.int (g i)):=by
 intro pins s σ H x v Q I B h;obtain⟨i,rfl,q⟩:=h;obtain⟨t,rfl⟩:=B;exact rule i t s _ _ ⟨.int (g i),H,I.tok _,⟨_,rfl⟩,q⟩
theorem sP:UnR X (unaryOp .USub) (rU fun i=>.int (-i)):=unI fun _ _ _ _ _ q=>neg_int q
end
def F1:V→V→Bool
 | .non,.non=>true | .non,.int _=>true | .int _,.non=>true | .non,.bl _=>true | .bl _,.non=>true | .non,.str _=>true | .str _,.non=>true
 | .int _,.int _=>true | .bl _,.bl _=>true | .str _,.str _=>true | .byt _,.byt _=>true
 | .int _,.str _=>true | .str _,.int _=>true | .bl _,.str _=>true | .str _,.bl _=>true
 | _,_=>false
def rEq:R2:=fun x y H Q=>F1 x y=true∧Q (.bl (decide (x=y))) H
def rNe:R2:=fun x y H Q=>F1 x y=true∧Q (.bl (!decide (x=y))) H
theorem yQ:decide (V.int i=V.int j)=(i == j):=by
 rw[ID];simp
theorem Cp:decide (V.bl i=V.bl j)=(i == j):=by
 rw[ID];simp
theorem yP:decide (V.str i=V.str j)=(i == j):=by
 rw[ID];simp
theorem yR:decide (V.byt i=V.byt j)=(i.toList == j.toList):=by
 rw[ID];cases i;cases j;simp
section
variable {a b c:Expr}{ta tb tc:TE}
theorem br (I:Inv X pins σ H s)(q:Q (.bl k) H)(e:k=k'):EP X pins σ Q (.bool k') s:=by
 subst e;exact⟨.bl k,H,I,rfl,q⟩
theorem dS:OpR X (compareOp .Eq) rEq:=by
 intro pins s σ H x y v u Q I J B h;obtain⟨G,q⟩:=h;cases x with
 | non =>
  cases J;cases y with
  | non=>cases B;exact PySem.EqNone.eq_none_none (br I q (by simp))
  | bl j=>cases B;exact PySem.EqNone.eq_none_bool (br I q (by simp))
  | int j=>obtain⟨t',rfl⟩:=B;exact PySem.EqNone.eq_none_int (br I q (by simp))
  | str j=>obtain⟨t',rfl⟩:=B;exact PySem.EqNone.eq_none_str (br I q (by simp))
  | _=>exact absurd (show false=true from G) HN
 | bl i =>
  cases J;cases y with
  | non=>cases B;exact PySem.EqNone.eq_bool_none (br I q (by simp))
  | bl j=>cases B;exact eq_bool (br I q Cp)
  | str j=>obtain⟨t',rfl⟩:=B;exact PySem.EqMixed.eq_bool_str (br I q (by simp))
  | _=>exact absurd (show false=true from G) HN
 | int i =>
  obtain⟨t,rfl⟩:=J;cases y with
  | non=>cases B;exact PySem.EqNone.eq_int_none (br I q (by simp))
  | int j=>obtain⟨t',rfl⟩:=B;exact eq_int (br I q yQ)
  | str j=>obtain⟨t',rfl⟩:=B;exact PySem.EqMixed.eq_int_str (br I q (by simp))
  | _=>exact absurd (show false=true from G) HN
 | str i =>
  obtain⟨t,rfl⟩:=J;cases y with
  | non=>cases B;exact PySem.EqNone.eq_str_none (br I q (by simp))
  | bl j=>cases B;exact PySem.EqMixed.eq_str_bool (br I q (by simp))
  | int j=>obtain⟨t',rfl⟩:=B;exact PySem.EqMixed.eq_str_int (br I q (by simp))
  | str j=>obtain⟨t',rfl⟩:=B;exact eq_str (br I q yP)
  | _=>exact absurd (show false=true from G) HN
 | byt i =>
  obtain⟨t,rfl⟩:=J;cases y with
  | byt j=>obtain⟨t',rfl⟩:=B;exact PySem.W.eq_bytes (br I q yR)
  | _=>exact absurd (show false=true from G) HN
 | _=>cases y<;>exact absurd (show false=true from G) HN
theorem vF:OpR X (compareOp .NotEq) rNe:=by
 intro pins s σ H x y v u Q I J B h;obtain⟨G,q⟩:=h;cases x with
 | non =>
  cases J;cases y with
  | non=>cases B;exact PySem.EqNone.ne_none_none (br I q (by simp))
  | bl j=>cases B;exact PySem.EqNone.ne_none_bool (br I q (by simp))
  | int j=>obtain⟨t',rfl⟩:=B;exact PySem.EqNone.ne_none_int (br I q (by simp))
  | str j=>obtain⟨t',rfl⟩:=B;exact PySem.EqNone.ne_none_str (br I q (by simp))
  | _=>exact absurd (show false=true from G) HN
 | bl i =>
  cases J;cases y with
  | non=>cases B;exact PySem.EqNone.ne_bool_none (br I q (by simp))
  | bl j=>cases B;exact ne_bool (br I q (Ij not Cp))
  | str j=>obtain⟨t',rfl⟩:=B;exact PySem.EqMixed.ne_bool_str (br I q (by simp))
  | _=>exact absurd (show false=true from G) HN
 | int i =>
  obtain⟨t,rfl⟩:=J;cases y with
  | non=>cases B;exact PySem.EqNone.ne_int_none (br I q (by simp))
  | int j=>obtain⟨t',rfl⟩:=B;exact ne_int (br I q (Ij not yQ))
  | str j=>obtain⟨t',rfl⟩:=B;exact PySem.EqMixed.ne_int_str (br I q (by simp))
  | _=>exact absurd (show false=true from G) HN
 | str i =>
  obtain⟨t,rfl⟩:=J;cases y with
  | non=>cases B;exact PySem.EqNone.ne_str_none (br I q (by simp))
  | bl j=>cases B;exact PySem.EqMixed.ne_str_bool (br I q (by simp))
  | int j=>obtain⟨t',rfl⟩:=B;exact PySem.EqMixed.ne_str_int (br I q (by simp))
  | str j=>obtain⟨t',rfl⟩:=B;exact ne_str (br I q (Ij not yP))
  | _=>exact absurd (show false=true from G) HN
 | byt i =>
  obtain⟨t,rfl⟩:=J;cases y with
  | byt j=>obtain⟨t',rfl⟩:=B;exact PySem.W.ne_bytes (br I q (Ij not yR))
  | _=>exact absurd (show false=true from G) HN
 | _=>cases y<;>exact absurd (show false=true from G) HN
def C_:R2:=fun x y H Q=>of2 (fun i j=>Q (.bl (decide (i < j))) H) x y
theorem eK:OpR X (compareOp .Lt) C_:=E8 fun _ _ _ _ _ _ _ q=>lt_int q
def Da:R2:=fun x y H Q=>of2 (fun i j=>Q (.bl (decide (i≤j))) H) x y
theorem r6:OpR X (compareOp .LtE) Da:=E8 fun _ _ _ _ _ _ _ q=>le_int q
def Db:R2:=fun x y H Q=>of2 (fun i j=>Q (.bl (decide (j < i))) H) x y
theorem kP:OpR X (compareOp .Gt) Db:=E8 fun _ _ _ _ _ _ _ q=>gt_int q
theorem kn:OpR X (compareOp .In) (fun x y H Q=>∃ i j,x=.str i∧y=.str j∧Q (.bl (!(Builtin.Str.occurrences j i 0 j.length 1).isEmpty)) H):=by
 intro pins s σ H x y v u Q I B G h;obtain⟨i,j,rfl,rfl,q⟩:=h;obtain⟨t,rfl⟩:=B;obtain⟨t',rfl⟩:=G;exact in_str (br I q rfl)
theorem E5:OpR X (compareOp .Is) (fun x y H Q=>y=.non∧Q (.bl (decide (x=.non))) H):=by
 intro pins s σ H x y v u Q I B G h;obtain⟨rfl,q⟩:=h;cases G;refine is_none_gen (br I q ?_);cases x<;>first
  | (cases B;rfl)
  | (obtain⟨t,rfl⟩:=B;rfl)
theorem BJ (b:Expr)(h:op≠.In:=by decide)(h2:op≠.NotIn:=by decide):behindInMarks op b=false:=by
 have B:(op == CmpOp.In)=false:=by cases op<;>first | rfl | exact absurd rfl h
 have G:(op == CmpOp.NotIn)=false:=by cases op<;>first | rfl | exact absurd rfl h2
 cases b<;>simp[behindInMarks,B,G]
theorem dt {op:CmpOp}{r:R2}(B:OpR X (compareOp op) r)(G:PE X a ta)(J:PE X b tb)(O:behindInMarks op b=false:=by exact BJ _):PE X (.Compare a [op] [b] pos) (tOp r ta tb):=by
 intro pins s σ H Q I h;exact wpAny_Compare1 (FF G J I h fun v u U x y H2 Y rx ry q=>B pins U σ H2 x y v u Q Y rx ry q) O
abbrev En (t:TE):TT:=fun σ H Q=>t σ H fun x H1=>ofB (Q · H1) x
theorem az {Q:Bool→Prop}{c:Bool}(h:Q c):ofB Q (.bl c):=h
theorem lS {Q:Bool→Prop}{x:V}{c:Bool}(e:x=.bl c)(h:Q c):ofB Q x:=by subst e;exact h
theorem xr (e:x=.int i)(f:y=.int j)(h:Q i j):of2 Q x y:=by subst e f;exact h
theorem aF (B:OpR X (compareOp op) r)(G:PE X a ta)(J:PE X b tb)(O:behindInMarks op b=false:=by exact BJ _):PT X (.Compare a [op] [b] pos) (En (tOp r ta tb)):=by
 intro pins s σ H Q I h;refine wpAny_isTrue_Compare1 (thn (G pins s σ H _ I h) fun v U ⟨x,H1,Y,r1,q1⟩=>thn (J pins U σ H1 _ Y q1) fun u s2 ⟨y,H2,I2,r2,q2⟩ =>
  thn (B pins s2 σ H2 x y v u _ I2 r1 r2 q2) fun c s3 ⟨z,H3,I3,r3,q3⟩ =>?_) O
 obtain⟨k,rfl,q3⟩:=ff q3;cases r3;exact wpAny_truthy_bool ⟨H3,I3,q3⟩
abbrev AK (r r':R2)(ta tb tc:TE):TE:=fun σ H Q=>ta σ H fun x H1=>tb σ H1 fun y H2=>r x y H2 fun z H3=>∃ k,z=.bl k ∧
 (if k=true then tc σ H3 fun w' H4=>r' y w' H4 Q else Q (.bl false) H3)
theorem Bw (U:OpR X (compareOp op) r)(B:OpR X (compareOp op') r')(Y:PE X a ta)(hb:PE X b tb)(hc:PE X c tc)
  (hm:lastMarks [op,op'] [b,c]=false:=by with_unfolding_all rfl):PE X (.Compare a [op,op'] [b,c] pos) (AK r r' ta tb tc):=by
 intro pins s σ H Q I h;refine Compare_chain (thn (Y pins s σ H _ I h) fun v s1 ⟨x,H1,I1,r1,q1⟩=>chain_link (thn (hb pins s1 σ H1 _ I1 q1) fun u s2 ⟨y,H2,I2,G,q2⟩ =>
  thn (U pins s2 σ H2 x y v u _ I2 r1 G q2) fun d s3 ⟨z,J,O,r3,k,e,q3⟩ =>?_)) hm
 subst e;cases r3;refine wpAny_truthy_bool ?_;cases k with
 | false=>exact ite_ff ⟨.bl false,J,O,rfl,q3⟩
 | true=>exact ite_tt (chain_last (thn (hc pins s3 σ J _ O q3) fun w' s4 ⟨z',H4,I4,r4,q4⟩=>B pins s4 σ H4 y z' u w' Q I4 G r4 q4))
theorem jK (Y:OpR X (compareOp op) r)(B:OpR X (compareOp op') r')(ha:PE X a ta)(hb:PE X b tb)(hc:PE X c tc)
  (hm:lastMarks [op,op'] [b,c]=false:=by with_unfolding_all rfl):PT X (.Compare a [op,op'] [b,c] pos) (En (AK r r' ta tb tc)):=by
 intro pins s σ H Q I h;refine isTrue_chain (thn (ha pins s σ H _ I h) fun v s1 ⟨x,H1,I1,r1,q1⟩=>test_link (thn (hb pins s1 σ H1 _ I1 q1) fun u s2 ⟨y,H2,I2,J,q2⟩ =>
  thn (Y pins s2 σ H2 x y v u _ I2 r1 J q2) fun d s3 ⟨z,O,U,r3,k,e,q3⟩ =>?_)) hm
 subst e;cases r3;refine wpAny_truthy_bool ?_;cases k with
 | false =>
  exact ite_ff ⟨O,U,q3⟩
 | true =>
  refine ite_tt (test_last (thn (hc pins s3 σ O _ U q3) fun w' s4 ⟨z',H4,I4,r4,q4⟩=>thn (B pins s4 σ H4 y z' u w' _ I4 J r4 q4) fun d' s5 ⟨z2,H5,I5,r5,G⟩ =>?_));obtain⟨k2,rfl,G⟩:=ff G;cases r5;exact wpAny_truthy_bool ⟨H5,I5,G⟩
theorem uk:(sizeLine:Nat) < 2 ^ 63:=by rw[sizeLine_eq];decide
theorem cJ:OpR X (binaryOp .Add) (fun x y H Q=>∃ i j,x=.str i∧y=.str j∧i.length + j.length≤sizeLine∧Q (.str (i++j)) H):=by
 intro pins s σ H x y v u Q I B G h;obtain⟨i,j,rfl,rfl,J,q⟩:=h;obtain⟨t,rfl⟩:=B;obtain⟨t',rfl⟩:=G;exact add_str (fun t' tk=>⟨.str (i++j),H,I.tok _,⟨_,rfl⟩,q⟩) J
theorem ju (r:ba [x] us):∃ u,us=[u]∧bw x u:=by
 cases r with
 | cons r1 r2=>cases r2;exact⟨_,rfl,r1⟩
theorem kH (r:ba [x,y] us):∃ u w',us=[u,w']∧bw x u∧bw y w':=by
 cases r with
 | cons r1 r2 =>
  cases r2 with
  | cons r3 r4=>cases r4;exact⟨_,_,rfl,r1,r3⟩
theorem wy:gJ X (.builtin "abs") (fun xs H Q=>∃ i,xs=[.int i]∧Q (.int (if i < 0 then -i else i)) H):=by
 intro pins s σ H xs us Q I r h;obtain⟨i,rfl,q⟩:=h;obtain⟨u,rfl,t,rfl⟩:=ju r;exact call_abs_int fun u tk=>⟨.int (if i < 0 then -i else i),H,I.tok _,⟨_,rfl⟩,q⟩
theorem fW (B:X.calm=true):gJ X (.builtin "max") (fun xs H Q=>∃ i j,xs=[.int i,.int j]∧Q (.int (if j > i then j else i)) H):=by
 intro pins s σ H xs us Q I r h;obtain⟨i,j,rfl,q⟩:=h;obtain⟨u,G,rfl,⟨t,rfl⟩,⟨t',rfl⟩⟩:=kH r;refine max_two_ints (I.ok.hd B) fun h' tk k=>⟨_,H,I.kept k,?_,q⟩;by_cases hj:j > i
 ·rw[if_pos hj,if_pos hj];exact⟨_,rfl⟩
 ·rw[if_neg hj,if_neg hj];exact⟨_,rfl⟩
theorem fV (B:X.calm=true):gJ X (.builtin "min") (fun xs H Q=>∃ i j,xs=[.int i,.int j]∧Q (.int (if j < i then j else i)) H):=by
 intro pins s σ H xs us Q I r h;obtain⟨i,j,rfl,q⟩:=h;obtain⟨u,G,rfl,⟨t,rfl⟩,⟨t',rfl⟩⟩:=kH r;refine min_two_ints (I.ok.hd B) fun h' tk k=>⟨_,H,I.kept k,?_,q⟩;by_cases hj:j < i
 ·rw[if_pos hj,if_pos hj];exact⟨_,rfl⟩
 ·rw[if_neg hj,if_neg hj];exact⟨_,rfl⟩
theorem eY:gJ X (.type "int") (fun xs H Q=>(∃ i,xs=[.int i]∧Q (.int i) H)∨∃ k,xs=[.bl k]∧Q (.int (if k then 1 else 0)) H):=by
 intro pins s σ H xs us Q I r h;rcases h with⟨i,rfl,q⟩ | ⟨k,rfl,q⟩
 ·obtain⟨u,rfl,t,rfl⟩:=ju r;exact call_int_int ⟨.int i,H,I,⟨_,rfl⟩,q⟩
 ·obtain⟨u,rfl,B⟩:=ju r;cases B;exact call_int_bool ⟨.int (if k then 1 else 0),H,I.tok _,⟨_,rfl⟩,q⟩
theorem mY:gJ X (.type "str") (fun xs H Q=>∃ i,xs=[.int i]∧i.natAbs.log2 < 1920∧Q (.str (toString i)) H):=by
 intro pins s σ H xs us Q I r h;obtain⟨i,rfl,B,q⟩:=h;obtain⟨u,rfl,t,rfl⟩:=ju r;exact PySem.P.str_of_int B ⟨.str _,H,I.tok _,⟨_,rfl⟩,q⟩
def Hm (K:PySem.W.Frag)(x:V)(H:Hp)(n:Nat):Prop :=
 match x with
 | .str y=>y.length≤sizeLine∧n=y.length
 | .byt y=>y.size≤sizeLine∧n=y.size
 | .ref p=>(∃ xs,SqL K H p xs∧n=xs.length)∨∃ xs,SqT K H p xs∧n=xs.length
 | _=>False
theorem bC:gJ X (.builtin "len") (fun xs H Q=>∃ x n,xs=[x]∧Hm X.K x H n∧Q (.int n) H):=by
 intro pins s σ H xs us Q I r h;obtain⟨x,n,rfl,e,q⟩:=h;obtain⟨u,rfl,J⟩:=ju r;have hl:=uk;have hs:sizeLine=16777216:=sizeLine_eq;cases x with
 | str y =>
  obtain⟨t,rfl⟩:=J;obtain⟨hy,G⟩:y.length≤sizeLine∧n=y.length:=e;subst G;exact len_str (by lia) ⟨.int _,H,I.tok _,⟨_,rfl⟩,q⟩
 | byt y =>
  obtain⟨t,rfl⟩:=J;obtain⟨hy,G⟩:y.size≤sizeLine∧n=y.size:=e;subst G;exact PySem.W.len_bytes (by lia) ⟨.int _,H,I.tok _,⟨_,rfl⟩,q⟩
 | ref p =>
  cases J;have G:(∃ xs,SqL X.K H p xs∧n=xs.length)∨∃ xs,SqT X.K H p xs∧n=xs.length:=e;rcases G with⟨xs,O,G⟩ | ⟨xs,O,G⟩
  ·subst G;obtain⟨its,U,Y,hz⟩:=I.list O;have B:=U.length;exact Calls.call_len_list Y.isList (by simp only[HV];lia) ⟨.int xs.length,H,I.tok _,⟨_,by simp only[HV];rw[B]⟩,q⟩
  ·subst G;obtain⟨its,U,Y,hz⟩:=I.tuple O;have B:=U.length;exact len_tuple Y (by simp only[HV];lia) ⟨.int xs.length,H,I.tok _,⟨_,by simp only[HV];rw[B]⟩,q⟩
 | _=>exact (show False from e).elim
end
structure FN (h:Heap)(x dx C:Addr)(mA:Str→Option Value):Prop where
 obj:h.get? x=some (PySem.W.instObj C dx)
 ns:h.Ns1 dx mA
 ne:dx≠x
theorem zX {h:Heap}{dx:Addr}{mA:Str→Option Value}(n:h.Ns1 dx mA):∃ od,h.get? dx=some od∧∀ name,PySem.W.lookIn name od=some (mA name):=by
 obtain⟨o,es,ep,G,J,O,_,U⟩:=n;refine⟨o,G,fun name =>?_⟩;have e:=U name;unfold nsFind findBy at e;rw[← Array.find?_toList]at e;unfold PySem.W.lookIn;rw[J];dsimp only
 split
 ·rename_i y q
  rw[q]at e;exact Ij some e
 ·rename_i q
  rw[q]at e;have a:es.toList.any (·.refKey)=false:=by
   rw[List.any_eq_false];intro y Y;obtain⟨z,t,B⟩:=O y (Array.mem_toList_iff.mp Y);simp[DictEntry.refKey,B]
  have a':¬ es.toList.any (·.refKey)=true:=by rw[a];exact HN
  rw[if_neg a'];exact Ij some e
theorem FN.look (I:FN h x dx C mA):∃ od,PySem.W.InstAt h x (PySem.W.instObj C dx) C (some od)∧∀ name,PySem.W.lookIn name od=some (mA name) :=
 let ⟨od,ho,hl⟩:=zX I.ns
 ⟨od,⟨I.obj,rfl,rfl,ho⟩,hl⟩
section
variable {w:World}{E:Value→Shared→Prop}{x dx C f:Addr}{mA:Str→Option Value}{name:Str}{v:Value}
end
theorem oN.some_of (r:oN (some v) o):∃ u,o=some u∧bw v u:=by
 cases o with
 | none=>exact (show False from r).elim
 | some u=>exact⟨u,rfl,r⟩
section
variable {P:Program}{w:World}{H':Hp}{h h':Heap}{a C dx:Addr}{fs fs':List (Str × V)}
theorem DR (B:HOk P w H h)(e:H a=some (.ins C dx fs)):∃ mA,FN h a dx C mA∧(∀ f,oN (fs.lookup f) (mA f))∧PySem.Within mA (fs.map (·.1))∧fs.length≤1000∧H dx=some (.own a):=by
 obtain⟨d,z,ne,G,mA,n,r,q⟩:=(show bF P w H h a (.ins C dx fs) from B a _ e);exact⟨mA,⟨G,n,ne⟩,r,q,z,d⟩
end
structure Cls (K:PySem.W.Frag)(C:Addr):Prop where
 pg:PySem.W.plainGet K C Str.empty=true
 hd:PySem.W.hasDictIn K C=true
 po:PySem.W.plainOver K C=true
 sa:PySem.W.findIn K (.ref C) "__setattr__" = some (some (.builtin "object.__setattr__"))
theorem Cls.get {K:PySem.W.Frag}(c:Cls K C)(f:Str):PySem.W.plainGet K C f=true:=c.pg
section
variable {pins:List (Addr × Obj)}{σ:St}{a C dx:Addr}{fs:List (Str × V)}{f:Str}{v:V}{E:Value→Shared→Prop}
end
section
variable {o e value:Expr}{f:Str}{pos' tpos:Pos}{ta tv:TE}
end
section
variable {pins:List (Addr × Obj)}{σ:St}{E:Value→Shared→Prop}{Q:Value→Shared→Prop}{c:Value}{b:Bool}
inductive kG (K:PySem.W.Frag)(H:Hp):V→Value→Prop where
 | non:kG K H .non (.type "NoneType")
 | bl (x:Bool):kG K H (.bl x) (.type "bool")
 | int (i:Int):kG K H (.int i) (.type "int")
 | str (x:Str):kG K H (.str x) (.type "str")
 | flt (x:UInt64):kG K H (.flt x) (.type "float")
 | lst {a:Addr} {xs:List V} (e:H a=some (.lst xs)):kG K H (.ref a) (.type "list")
 | frz {a:Addr} {o:Obj} {xs:List V} (e:H a=some (.frz o (.lst xs))):kG K H (.ref a) (.type "list")
 | tup {a:Addr} {xs:List V} (e:H a=some (.tup xs)):kG K H (.ref a) (.type "tuple")
 | dK {a:Addr} {kvs:List (Key × V)} (e:H a=some (.dK kvs)):kG K H (.ref a) (.type "dict")
 | dT {a:Addr} {kvs:List (List Key × V)} (e:H a=some (.dT kvs)):kG K H (.ref a) (.type "dict")
 | ins {a C dx:Addr} {fs:List (Str × V)} (e:H a=some (.ins C dx fs)) (cl:Cls K C) (ha:PySem.W.findIn K (.ref C) "__class__" = some (some (.builtin "object.__class__")))
   (hn:PySem.W.specialIn K (.builtin "object.__class__") "__get__" = some (some (.builtin "getset_descriptor.__get__"))) (htk:PySem.W.takesIn K (.builtin "object.__class__")=some true)
   (hm:PySem.W.mroIn K C (.type "object")=some true):kG K H (.ref a) (.ref C)
theorem Ac (I:Inv X pins σ H s)(B:bw x u)(ty:kG X.K H x t)(e:PySem.W.kitOne X.K t c=some b)(h:∀ tk,Q (.bool b) { s with toks:=tk }):
  wpAny (model X.prog X.w) A (call (.builtin "isinstance") [u,c]) Q E s:=by
 cases ty with
 | non=>cases (show u=Value.none from B);exact PySem.W.kia_one PySem.W.kitx_none I.kIn True.intro e (fun z=>nomatch z) h
 | bl y=>cases (show u=Value.bool y from B);exact PySem.W.kia_one PySem.W.kitx_bool I.kIn True.intro e (fun z=>nomatch z) h
 | int i=>obtain⟨t,q⟩:=(show ∃ t,u=Value.int i t from B);cases q;exact PySem.W.kia_one PySem.W.kitx_int I.kIn True.intro e (fun z=>nomatch z) h
 | str y=>obtain⟨t,q⟩:=(show ∃ t,u=Value.str y t from B);cases q;exact PySem.W.kia_one PySem.W.kitx_str I.kIn True.intro e (fun z=>nomatch z) h
 | flt y=>obtain⟨t,q⟩:=(show ∃ t,u=Value.float y t from B);cases q;exact PySem.W.kia_one PySem.W.kitx_float I.kIn True.intro e (fun z=>nomatch z) h
 | @lst a xs ea =>
  cases (show u=Value.ref a from B);obtain⟨_,_,n,_,h1⟩:=(show bF X.prog X.w H s.heap a (.lst xs) from I.hok a _ ea);exact PySem.W.kia_one PySem.W.kitx_list I.kIn ⟨_,h1,rfl⟩ e (fun z=>nomatch z) h
 | @frz a ob xs ea =>
  cases (show u=Value.ref a from B);obtain⟨_,_,_,n,_,h1⟩:=(show bF X.prog X.w H s.heap a (.frz ob (.lst xs)) from I.hok a _ ea);exact PySem.W.kia_one PySem.W.kitx_list I.kIn ⟨_,h1,rfl⟩ e (fun z=>nomatch z) h
 | @tup a xs ea =>
  cases (show u=Value.ref a from B);obtain⟨_,_,_,p⟩:=(show bF X.prog X.w H s.heap a (.tup xs) from I.hok a _ ea);obtain⟨o,h1,h2,_⟩:=p;exact PySem.W.kia_one PySem.W.kitx_tuple I.kIn ⟨o,h1,h2⟩ e (fun z=>nomatch z) h
 | @dK a kvs ea =>
  cases (show u=Value.ref a from B);obtain⟨_,_,vs,_,p⟩:=(show bF X.prog X.w H s.heap a (.dK kvs) from I.hok a _ ea);obtain⟨o,es,ep,h1,h2,_⟩:=p;exact PySem.W.kia_one PySem.W.kitx_dict I.kIn ⟨o,h1,h2.1⟩ e (fun z=>nomatch z) h
 | @dT a kvs ea =>
  cases (show u=Value.ref a from B);obtain⟨_,_,xs,_,o,es,ep,h1,h2,_⟩:=(show bF X.prog X.w H s.heap a (.dT kvs) from I.hok a _ ea);exact PySem.W.kia_one PySem.W.kitx_dict I.kIn ⟨o,h1,h2.1⟩ e (fun z=>nomatch z) h
 | @ins a C dx fs ea cl ha hn htk hm =>
  cases (show u=Value.ref a from B);obtain⟨mA,O,_⟩:=DR I.hok ea;obtain⟨od,J,_⟩:=O.look;exact PySem.W.kia_one (PySem.W.kitx_own (cl.get _) cl.hd ha hn htk hm) I.kIn J e (fun z=>nomatch z) h
end
structure cY (k:Nat)(A:Around):Prop where
 hd:A.handled=none
 dp:A.depth + 3 * k + 5 < recursionLimit
 un:A.units + 16 * k + 200 < cLine
theorem cY.mono (r:cY k A)(h:j≤k):cY j A:=⟨r.hd,by have:=r.dp;lia,by have:=r.un;lia⟩
theorem cY.deeper (r:cY (k + 1) A)(env:Env):cY k (A.deeper env) :=
 ⟨r.hd,by have:=r.dp;show A.depth + 1 + 3 * k + 5 < _;lia,by have:=r.un;show A.units + 3 + 16 * k + 200 < _;lia⟩
theorem cY.in1 (r:cY (k + 1) A):cY k A.in1 :=
 ⟨r.hd,by have:=r.dp;show A.depth + 3 * k + 5 < _;lia,by have:=r.un;show A.units + 1 + 16 * k + 200 < _;lia⟩
theorem cY.depth (r:cY k A):A.depth < recursionLimit:=by have:=r.dp;lia
theorem cY.units (r:cY k A):A.units + 64 < cLine:=by have:=r.un;lia
theorem cY.units0 (r:cY k A):A.units < cLine:=by have:=r.un;lia
abbrev AJ:TA:=fun _ H Q=>Q [] H
abbrev xU (ta:TE)(tr:TA):TA:=fun σ H Q=>ta σ H fun x H1=>tr σ H1 fun xs H2=>Q (x::xs) H2
section
variable {e:Expr}{es:List Expr}{te:TE}{t:TA}
theorem af:PA X [] AJ:=fun _ _ _ _ H Q I h=>Calls.spliced_nil ⟨[],H,I,.nil,h⟩
theorem aa (B:PE X e te)(G:PA X es t)(J:starEach (e::es) X.env=(false,eval e X.env)::starEach es X.env:=by rfl):PA X (e::es) (xU te t):=by
 intro pos pins s σ H Q I h;rw[J];show wpAny _ _ (spliced ((false,eval e X.env)::backTo pos (starEach es X.env))) _ _ s;refine Calls.spliced_cons (thn (B pins s σ H _ I h) fun u O ⟨x,H1,U,Y,q1⟩ =>?_);exact thn (G pos pins O σ H1 _ U q1) fun us s2 ⟨xs,H2,I2,r2,q2⟩=>⟨x::xs,H2,I2,.cons Y r2,q2⟩
abbrev FR (t:TA):TE:=fun σ H Q=>t σ H fun xs H1=>xs.length≤sizeLine∧Nw H1 (.tup xs) fun p H=>Q (.ref p) H
abbrev FV (t:TA):TE:=fun σ H Q=>t σ H fun xs H1=>xs.length≤sizeLine∧Nw H1 (.lst xs) fun p H=>Q (.ref p) H
theorem EY {x1}(h:PA X es t):PE X (.Tuple es x1 pos) (FR t):=by
 intro pins s σ H Q I J;refine wpAny_Tuple_spliced (thn (h pos pins s σ H _ I J) fun us B ⟨xs,H1,G,r,z,q⟩=>⟨by rw[← r.length];exact z,?_⟩);have O:H1 B.heap.objs.size=none:=G.hok.fresh (Ht _);refine⟨.ref B.heap.objs.size,upd H1 B.heap.objs.size (.tup xs),G.laid (t':=B.toks) (fun b u e=>Hq _ e) (Ht _) ?_,rfl,q _ O⟩;exact⟨z,us,r,⟨_,HQ _ rfl,rfl,_,rfl⟩⟩
theorem EZ (h:PA X es t):PE X (.List es pos) (FV t):=by
 intro pins s σ H Q I J;refine wpAny_List_spliced (thn (h pos pins s σ H _ I J) fun us B ⟨xs,H1,G,r,z,q⟩=>⟨by rw[← r.length];exact z,?_⟩);have O:H1 B.heap.objs.size=none:=G.hok.fresh (Ht _);refine⟨.ref B.heap.objs.size,upd H1 B.heap.objs.size (.lst xs),G.laid (t':=B.toks) (fun b u e=>Hq _ e) (Ht _) ?_,rfl,q _ O⟩;exact⟨z,us,0,r,HQ _ rfl⟩
end
abbrev Sp:=List V→Hp→VK→XK→Prop
abbrev CXT:=List Env→Hp→Shared→XK→Value→Shared→Prop
structure Em (P:Program)(w:World)(K:PySem.W.Frag)(mg:Str→Option Value)(base:Heap)(A:Around)(outer:List Env)(s:Shared)(H:Hp):Prop where
 frames:A.frames=some outer
 mod:Mod K mg base
 bs:∀ b o,base.get? b=some o→s.heap.get? b=some o∧H b=none
 bsz:base.objs.size≤s.heap.objs.size
 funs:s.heap.FunFrames base outer
 frf:∀ b∈frs outer,H b=none
 hok:HOk P w H s.heap
 bare:AllBare s.gens
def CE (outer:List Env)(P:Program)(w:World)(H:Hp)(s:Shared)(Q:VK)(u:Value)(s':Shared):Prop :=
 ∃ v H',s'.os=s.os∧AllBare s'.gens∧Un (frs outer) [] H H' s.heap s'.heap∧HOk P w H' s'.heap∧bw v u∧Q v H'
def CR (CX:CXT)(outer:List Env)(P:Program)(w:World)(H:Hp)(s:Shared)(Q:VK)(E:XK)(r:Result)(s':Shared):Prop :=
 match r with
 | .ok (.ret u)=>CE outer P w H s Q u s'
 | .ok _=>False
 | .error e=>CX outer H s E e s'
structure bA (P:Program)(w:World)(K:PySem.W.Frag)(mg:Str→Option Value)(base:Heap)(CX:CXT)(k:Nat)(f:Addr)(fd:FuncData)(ps:List Str)(sp:Sp):Prop where
 len:∀ vs H Q E,sp vs H Q E→vs.length=ps.length
 run:∀ (A:Around) (outer:List Env) (s:Shared) (H:Hp) (args:Args) (us:List Value) (vs:List V) (Q:VK) (E:XK),cY k A→Em P w K mg base A outer s H→BindsTo s fd args (ps.zip us)→ba vs us→sp vs H Q E →
  codeAny (model P w) A (.call (.ref f) args) (CR CX outer P w H s Q E) s
section
variable {pins:List (Addr × Obj)}{σ:St}{s':Shared}
theorem Inv.env0 (I:Inv X pins σ H s):Em X.prog X.w X.K X.mg X.base X.A X.stack s H :=
 ⟨I.ok.frames,I.ok.mod,I.bs,H_ I.ok.bsz I.sz,I.stack,I.stkFree,I.hok,I.bare⟩
theorem Inv.after (I:Inv X pins σ H s)(h:CE X.stack X.prog X.w H s Q u s'):EP X pins σ Q u s':=by
 obtain⟨v,H',os,bare,un,B,r,q⟩:=h;obtain⟨J,g,d,t,G⟩:=s';obtain rfl:G=s.os:=os;exact⟨v,H',I.call (h':=J) (g':=g) (d':=d) (t':=t) (ch:=[]) un B bare (fun b z=>absurd z (by simp)),r,q⟩
end
abbrev AL (sp:Sp)(dvs:List V)(E:XK)(t:TA):TE:=fun σ H Q=>t σ H fun vs H1=>sp (vs++dvs) H1 Q E
def eF (K:PySem.W.Frag)(fd:FuncData)(ps:List Str)(ds:List Value):Prop :=
 ∀ (s:Shared) (us:List Value),K.In s.heap→(us++ds).length=ps.length→BindsTo s fd ⟨us,[]⟩ (ps.zip (us++ds))
theorem eF.all {K:PySem.W.Frag}(h:∀ us:List Value,us.length=ps.length→bindArgs fd ⟨us,[]⟩=pure (ps.zip us)):eF K fd ps []:=fun s us _ B=>by
 rw[II]at B ⊢;exact .of_eq (h us B)
def q9 (CX:CXT)(X:Cx)(E:XK):Prop:=∀ (pins:List (Addr × Obj)) (σ:St) (H:Hp) (s:Shared) (e:Value) (s':Shared),Inv X pins σ H s→CX X.stack H s E e s'→X.xe e s'
section
variable {CX:CXT}{k:Nat}{f C:Addr}{fd:FuncData}{ps:List Str}{sp:Sp}{dvs:List V}{ds:List Value}{E:XK}{x m:Str}{p apos:Pos}{e o:Expr}{es:List Expr}{ta:TE}{t:TA}
theorem ET (F:bA X.prog X.w X.K X.mg X.base CX k f fd ps sp)(J:cY k X.A)(O:eF X.K fd ps ds)(U:ba dvs ds)(Y:q9 CX X E)
  (I:Inv X pins σ H s) (r:ba vs us) (h:sp (vs++dvs) H Q E):wpAny (model X.prog X.w) X.A (call (.ref f) us) (EP X pins σ Q) X.xe s:=by
 have G:ba (vs++dvs) (us++ds):=r.append U;have hl:(us++ds).length=ps.length:=by rw[← G.length];exact F.len _ _ _ _ h
 refine wpAny_call (codeAny_mono (F.run X.A X.stack s H ⟨us,[]⟩ (us++ds) (vs++dvs) Q E J I.env0 (O s us I.kIn hl) G h) fun r s' B =>?_);cases r with
 | error e=>exact Y pins σ H s e s' I B
 | ok fl =>
  cases fl with
  | ret u=>exact I.after B
  | next=>exact False.elim B
  | brk=>exact False.elim B
  | cont=>exact False.elim B
theorem Dq (F:bA X.prog X.w X.K X.mg X.base CX k f fd ps sp)(O:cY k X.A)(U:Gl X x)(Y:X.mg x=some (.ref f))(hk:PySem.W.keepIn X.K (.ref f)=true)(hb:eF X.K fd ps ds)(hd:ba dvs ds)(hx:q9 CX X E)
  (ha:PA X (e::es) t) (B:(x == ("__debug__" : Str))=false:=by decide) (he:starEach (e::es) X.env=(false,eval e X.env)::starEach es X.env:=by rfl) (G:(backTo pos (starEach es X.env)).any (·.1)=false:=by rfl) :
  PE X (.Call (.Name x p) (e::es) [] pos) (AL sp dvs E t):=by
 intro pins s σ H Q I h;refine wpAny_Call_Name_kw (uq I U Y ?_ B);refine PySem.W.callWith_K (h₀:=X.base) I.ok.mod.kin hk (thn (ha pos pins s σ H _ I h) fun us s1 ⟨vs,H1,J,r,q⟩=>⟨J.kIn,?_⟩) he G;exact ET F O hb hd hx J r q
end
section
variable {CX:CXT}{k:Nat}{f C:Addr}{fd:FuncData}{ps ks:List Str}{sp:Sp}{E:XK}{x m:Str}{p apos kpos:Pos}{e o:Expr}{es:List Expr}{kws:List Keyword}{te ta:TE}{t tk:TA}{nm:Option Str}
variable {g:List Value→List Value→List Value}{gV:List V→List V→List V}
end
structure aE (N P:List Str)(sc:Scope):Prop where
 kind:sc.kind=.function:=by rfl
 co:sc.isCoroutine=false:=by rfl
 gen:sc.isGenerator=false:=by rfl
 nd:N.Nodup:=by decide +kernel
 pre:N.take P.length=P:=by rfl
 par:∀ x∈P,sc.names.lookup x=some .local∨sc.names.lookup x=some .cell:=by decide +kernel
 nofree:∀ y∈sc.names,y.2≠.free:=by decide +kernel
theorem sG {kindOf:Str→Option NameKind}{x:Str}:∀ {binds:List (Str × Value)} {m:Str→Option Value},(∀ v,(x,v)∉binds)→bindL kindOf binds m x=m x
 | [],_,_=>rfl
 | (n,v)::r,m,h=>by
  unfold bindL;rw[sG fun w B=>h w (HF _ B)]
  split
  ·have:x≠n:=by rintro rfl;exact h v HP
   simp[this]
  ·rfl
theorem sI {kindOf:Str→Option NameKind}{x:Str}:∀ {binds:List (Str × Value)} {m:Str→Option Value},(∀ v,(x,v)∉binds)→bindC kindOf binds m x=m x
 | [],_,_=>rfl
 | (n,v)::r,m,h=>by
  unfold bindC;rw[sI fun w B=>h w (HF _ B)]
  split
  ·rfl
  ·have:x≠n:=by rintro rfl;exact h v HP
   simp[this]
theorem sH {kindOf:Str→Option NameKind}{x:Str}{v:Value}:∀ {P:List Str} {vs:List Value} {i:Nat} {m:Str→Option Value},P.Nodup→P[i]? = some x→vs[i]? = some v→kindOf x=some .local →
  bindL kindOf (P.zip vs) m x=some v
 | [],_,_,_,_,h,_,_=>by simp at h
 | _::_,[],_,_,_,_,h,_=>by simp at h
 | p::P,w::vs,0,m,nd,h1,h2,hk=>by
  simp at h1 h2;subst h1;subst h2;show bindL kindOf ((p,w)::P.zip vs) m p=_;unfold bindL;rw[sG fun v B=>(IZ.mp nd).1 (JW B).1,if_pos hk];simp
 | p::P,w::vs,i + 1,m,nd,h1,h2,hk=>by
  show bindL kindOf ((p,w)::P.zip vs) m x=_;unfold bindL;exact sH (i:=i) (IZ.mp nd).2 (by simpa using h1) (by simpa using h2) hk
theorem sJ {kindOf:Str→Option NameKind}{x:Str}{v:Value}:∀ {P:List Str} {vs:List Value} {i:Nat} {m:Str→Option Value},P.Nodup→P[i]? = some x→vs[i]? = some v→kindOf x≠some .local →
  bindC kindOf (P.zip vs) m x=some v
 | [],_,_,_,_,h,_,_=>by simp at h
 | _::_,[],_,_,_,_,h,_=>by simp at h
 | p::P,w::vs,0,m,nd,h1,h2,hk=>by
  simp at h1 h2;subst h1;subst h2;show bindC kindOf ((p,w)::P.zip vs) m p=_;unfold bindC;rw[sI fun v B=>(IZ.mp nd).1 (JW B).1,if_neg hk];simp
 | p::P,w::vs,i + 1,m,nd,h1,h2,hk=>by
  show bindC kindOf ((p,w)::P.zip vs) m x=_;unfold bindC;exact sJ (i:=i) (IZ.mp nd).2 (by simpa using h1) (by simpa using h2) hk
def start (N:List Str)(vs:List V):St:=vs.map some++List.replicate (N.length - vs.length) none
def i5 (CX:CXT)(P:Program)(w:World)(K:PySem.W.Frag)(mg:Str→Option Value)(base:Heap)(N:List Str)(qual:Str)(scope:Scope)(f:Addr)(cd:Value)(A:Around)(outer:List Env)(s:Shared)(H:Hp)(E:XK):Cx where
 prog:=P
 w:=w
 K:=K
 mg:=mg
 base:=base
 A:=A.deeper (envOfC qual scope s.heap.objs.size f cd)
 N:=N
 s₀:=s
 H₀:=H
 env:=envOfC qual scope s.heap.objs.size f cd
 outer:=outer
 stack:=envOfC qual scope s.heap.objs.size f cd::outer
 ex:=[]
 calm:=true
 fn:=fun _=>true
 pn:=[]
 xe:=fun e s'=>wpAny (model P w) (A.deeper (envOfC qual scope s.heap.objs.size f cd)) (leaving (envOfC qual scope s.heap.objs.size f cd) e) (fun _ s''=>CX outer H s E e s'') (fun e' s''=>CX outer H s E e' s'') s'
theorem wv {B:Scope}{n:Nat}{x:Str}(h:B.names.lookup x=some .cell):∃ c,(cellsFrom n B.names []).lookup x=some c:=by
 have q:=PySem.W.cellsFrom_some B.names n [] (.inl h);exact Ii.mp q
theorem Ad {CX:CXT}{P:Program}{w:World}{K:PySem.W.Frag}{mg:Str→Option Value}{base:Heap}{N ps:List Str}{qual:Str}{scope:Scope}{f:Addr}{cd:Value}{A:Around}{outer:List Env}{s Y:Shared}{H:Hp}{E:XK}{us:List Value}{vs:List V}
  (S:aE N ps scope) (hd:A.handled=none) (B:Em P w K mg base A outer s H) (hl:vs.length=ps.length) (r:ba vs us)
  (x:InCallC s s.heap.objs.size (bindL (envOfC qual scope s.heap.objs.size f cd).kindOf (ps.zip us) fun _=>none) (cellsFrom (s.heap.objs.size + 1) scope.names []) (bindC (envOfC qual scope s.heap.objs.size f cd).kindOf (ps.zip us) fun _=>none) Y) :
  Inv (i5 CX P w K mg base N qual scope f cd A outer s H E) [] (start N vs) H Y:=by
 have a0:ps.length≤N.length:=by have:=Ij List.length S.pre;rw[IC]at this;lia
 obtain⟨h1,tk,rfl,hk⟩:=x.done;have G:∀ b:Addr,b∉(i5 CX P w K mg base N qual scope f cd A outer s H E).ex:=fun b z=>absurd (show b∈([]:List Addr) from z) (by simp);refine⟨⟨B.mod,S.kind,rfl,rfl,Ht _,fun y z c h1 h2 =>?_,fun y J =>?_,fun y c _ h =>?_,fun _=>hd,Around.frames_deeper B.frames,.inr ⟨rfl,rfl⟩,fun b z=>absurd z (G b),B.bs,B.bsz,fun b _ _=>G b,fun b z=>absurd z (G b),B.funs,B.frf⟩,
  rfl,B.bare,Un.kept hk,⟨_,x.toInCall.ns,fun i y v h1 h2 h3 =>?_⟩,fun y c h=>⟨_,x.cell y c h⟩,B.hok.fresh (Ht _),fun y c h =>?_,fun p O=>absurd (show p∈([]:List (Addr × Obj)) from O) (by simp),B.hok.kept hk,?_⟩
 ·exact name_of_addr x.apart (PySem.mem_of_lookup h1) (PySem.mem_of_lookup h2)
 ·have J:scope.names.lookup y=some .cell∨scope.names.lookup y=some .free:=J;rcases J with J | J
  ·exact wv J
  ·exact absurd rfl (S.nofree _ (PySem.mem_of_lookup J))
 ·exact Jk (x.above y c (PySem.mem_of_lookup h))
 ·have hi:i < vs.length:=by
   unfold start at h2;by_cases hi:i < vs.length
   ·exact hi
   ·rw[IA (by simpa using hi)]at h2;rw[JX]at h2
    split at h2<;>cases h2
  have ha:vs[i]? = some v:=by
   unfold start at h2;rw[Iq (by simpa using hi),Ir]at h2;cases e:vs[i]? with
   | none=>rw[e]at h2;cases h2
   | some a=>rw[e]at h2;cases h2;rfl
  obtain⟨u,hu,rv⟩:=r.get ha;have O:ps[i]? = some y:=by
   rw[← S.pre,List.getElem?_take_of_lt (by lia)];exact h1
  have U:ps.Nodup:=by rw[← S.pre];exact S.nd.sublist (Ky _ _)
  refine⟨u,rv,?_⟩;rcases S.par y (HH O) with k | k
  ·exact .inl ⟨k,sH U O hu k⟩
  ·obtain⟨c,e⟩:=wv (n:=s.heap.objs.size + 1) k;refine .inr ⟨.inl k,c,e,?_⟩;have q:=x.cell y c e;rw[sJ U O hu (by show scope.names.lookup y≠_;rw[k];decide)]at q;exact q
 ·exact B.hok.fresh (Jk (x.above y c (PySem.mem_of_lookup h)))
 ·unfold start;show _=N.length;rw[Hs,Hw,JI]
  lia
theorem B9 {CX:CXT}{P:Program}{w:World}{K:PySem.W.Frag}{mg:Str→Option Value}{base:Heap}{k:Nat}{f:Addr}{name qual:Str}{G:Arguments}{O:List Stmt}{scope:Scope}{dV kV doc pm B ct oc:Value}{an od:Option Addr}
  {a1:Array (Option Value)} {N ps:List Str} {sp:Sp} (lk:K.lookup f=some ⟨oc,od,.func (PySem.W.fnOf name qual G O scope dV kV doc pm an B ct),a1⟩) (a2:PySem.W.codeIn K B qual=true) (S:aE N ps scope)
  (len:∀ vs H Q E,sp vs H Q E→vs.length=ps.length)
  (U:∀ (A:Around) (outer:List Env) (s:Shared) (H:Hp) (vs:List V) (Q:VK) (E:XK),cY k (A.deeper (envOfC qual scope s.heap.objs.size f B))→sp vs H Q E →
   ∃ t,PSs (i5 CX P w K mg base N qual scope f B A outer s H E) O t∧t { nx:=fun _ H'=>Q .non H',rt:=Q } (start N vs) H) :
  bA P w K mg base CX (k + 1) f (PySem.W.fnOf name qual G O scope dV kV doc pm an B ct) ps sp:=by
 refine⟨len,fun A outer s H args us vs Q E hr e0 hb r a0 =>?_⟩;have hl:=len _ _ _ _ a0;have KX:K.In s.heap:=e0.mod.kin.keeps fun b o e=>(e0.bs b o e).1;have a3:s.heap.NoLimit:=e0.mod.nolimit.keeps fun b o e=>(e0.bs b o e).1;have Y:∀ y∈ps.zip us,scope.names.lookup y.1=some .local∨(scope.names.lookup y.1=some .cell∧((cellsFrom (s.heap.objs.size + 1) scope.names []).lookup y.1).isSome=true):=fun⟨n,v⟩ hy=>by
  rcases S.par n (JW hy).1 with q|q
  ·exact .inl q
  ·exact .inr ⟨q,PySem.W.cellsFrom_some _ _ _ (.inl q)⟩
 refine codeAny_call_function hr.depth (KX _ _ lk) rfl S.co S.gen rfl (PySem.W.codeRec_of KX a2) (hb _ _ _ _ ?_);refine wpAny_newFunctionEnv_cells S.kind Y fun env he s1 x =>?_;subst he;refine⟨a3.keeps x.toInCall.keep,codeAny_func ?_⟩;obtain⟨t,ht,hq⟩:=U A outer s H vs Q E (hr.deeper _) a0;have I:Inv (i5 CX P w K mg base N qual scope f B A outer s H E) [] (start N vs) H s1:=Ad S hr.hd e0 hl r x;refine IJ (ht [] s1 (start N vs) H _ I hq) (fun fl s' hs =>?_) fun e s' hs=>hs;have fin:∀ {σ':St} {H':Hp} {v:V} {u:Value},Inv (i5 CX P w K mg base N qual scope f B A outer s H E) [] σ' H' s'→bw v u→Q v H'→CE outer P w H s Q u s' :=
  fun {σ' H' v u} J rv q=>⟨v,H',J.os,J.bare,J.base,J.hok,rv,q⟩
 cases fl with
 | ret u =>
  obtain⟨v,σ',H',J,rv,q⟩:=hs;exact fin J rv q
 | next =>
  obtain⟨σ',H',J,q⟩:=hs;exact fin (v:=V.non) (u:=Value.none) J rfl q
 | brk =>
  obtain⟨_,_,_,q⟩:=hs;exact False.elim q
 | cont =>
  obtain⟨_,_,_,q⟩:=hs;exact False.elim q
section
variable {x:Str}{p:Pos}{e:Expr}{es:List Expr}{t:TA}{id T:String}{r:List V→Hp→VK→Prop}
abbrev tCB (r:List V→Hp→VK→Prop)(t:TA):TE:=fun σ H Q=>t σ H fun vs H1=>r vs H1 Q
theorem aB (J:gJ X (.builtin id) r)(O:Gl X x)(U:X.mg x=none)(Y:bootBuiltins x=some (.builtin id))(ha:PA X (e::es) t)(hn:x ≠ "__name__" := by decide)(B:(x == ("__debug__" : Str))=false:=by decide)
  (he:starEach (e::es) X.env=(false,eval e X.env)::starEach es X.env:=by rfl) (G:(backTo pos (starEach es X.env)).any (·.1)=false:=by rfl):PE X (.Call (.Name x p) (e::es) [] pos) (tCB r t):=by
 intro pins s σ H Q I h;refine wpAny_Call_Name_kw (nU I O U Y ?_ hn B);exact PyProof.Rows.callWith_builtin1 (thn (ha pos pins s σ H _ I h) fun us s1 ⟨vs,H1,I1,r1,q1⟩=>J pins s1 σ H1 vs us Q I1 r1 q1) he G
theorem bI (J:gJ X (.type T) r)(O:Gl X x)(U:X.mg x=none)(Y:bootBuiltins x=some (.type T))(ha:PA X (e::es) t)(hn:x ≠ "__name__" := by decide)(B:(x == ("__debug__" : Str))=false:=by decide)
  (he:starEach (e::es) X.env=(false,eval e X.env)::starEach es X.env:=by rfl) (G:(backTo pos (starEach es X.env)).any (·.1)=false:=by rfl):PE X (.Call (.Name x p) (e::es) [] pos) (tCB r t):=by
 intro pins s σ H Q I h;refine wpAny_Call_Name_kw (nU I O U Y ?_ hn B);exact PyProof.Rows.callWith_type1 (thn (ha pos pins s σ H _ I h) fun us s1 ⟨vs,H1,I1,r1,q1⟩=>J pins s1 σ H1 vs us Q I1 r1 q1) he G
end
end L2
namespace HT
open PySem PyProof.Rows
section
open PySem.SeqAt
open PySem.AutoSeq1 (wpAny_loadPart')
open PySem.MeetsSeq PySem.MeetsSeq2 PySem.MeetsSeq3
end
section
variable {prog:Program}{w:World}{A:Around}{E:Value→Shared→Prop}{s:Shared}
def sIx (n d:Nat):Option Int→Nat
 | none=>d
 | some v=>if v < 0 then (v + (n:Int)).toNat else min v.toNat n
end
end HT
namespace L2
open PySem PySem.Spec PyProof.Rows
variable {H:Hp}{X:Cx}{s:Shared}{pos:Pos}{prog:Program}{A:Around}{K:PySem.W.Frag}
abbrev TO:=St→Hp→(Option Int→Hp→Prop)→Prop
def PO (X:Cx)(e:Option Expr)(t:TO):Prop :=
 ∀ (pins:List (Addr × Obj)) (s:Shared) (σ:St) (H:Hp) (Q:Option Int→Hp→Prop),Inv X pins σ H s→t σ H Q →
  wpAny (model X.prog X.w) X.A (evalPart e X.env) (fun u s'=>∃ o H',Inv X pins σ H' s'∧IsPart u o∧Q o H') X.xe s
def CN:TO:=fun _ H Q=>Q none H
abbrev FS (t:TE):TO:=fun σ H Q=>t σ H fun x H1=>∃ i,x=.int i∧Q (some i) H1
section
variable {e:Expr}{te:TE}{lo hi:Option Expr}{tl th:TO}{p2:Pos}
theorem fJ:PO X none CN:=by
 intro pins s σ H Q I h;rw[evalPart_none];exact HJ ⟨none,H,I,.none,h⟩
theorem dq (h:PE X e te):PO X (some e) (FS te):=by
 intro pins s σ H Q I B;rw[evalPart_some];refine thn (h pins s σ H _ I B) fun u O ⟨x,H1,G,J,q1⟩ =>?_;obtain⟨i,rfl,q⟩:=q1;obtain⟨t,rfl⟩:=J;exact⟨some i,H1,G,.int i t,q⟩
def SlR (X:Cx)(r:V→Option Int→Option Int→Hp→VK→Prop):Prop :=
 ∀ (pins:List (Addr × Obj)) (s:Shared) (σ:St) (H:Hp) (x:V) (v vl vu:Value) (lo hi:Option Int) (sl:Addr) (Q:VK),Inv X pins σ H s→bw x v→s.heap.IsSliceOf sl vl vu .none→IsPart vl lo→IsPart vu hi→r x lo hi H Q →
  ∃ T id,typeLookup (.type T) "__getitem__" = pure (some (.builtin id))∧s.TypeIs v T∧wpAny (model X.prog X.w) X.A (getItem v (.ref sl)) (EP X pins σ Q) X.xe s
abbrev tSl (r:V→Option Int→Option Int→Hp→VK→Prop)(te:TE)(tl th:TO):TE:=fun σ H Q=>te σ H fun x H1=>tl σ H1 fun l H2=>th σ H2 fun u H3=>r x l u H3 Q
theorem c_ (U:SlR X r)(Y:PE X e te)(hl:PO X lo tl)(hu:PO X hi th):PE X (.Subscript e (.Slice lo hi none p2) pos) (tSl r te tl th):=by
 intro pins s σ H Q I h;refine Subscript_ (thn (Y pins s σ H _ I h) fun v s1 ⟨x,H1,I1,r1,q1⟩ =>?_);refine wpAny_Slice (thn (hl pins s1 σ H1 _ I1 q1) fun G s2 ⟨l,H2,I2,pl,q2⟩=>thn (hu pins s2 σ H2 _ I2 q2) fun J B ⟨u,O,I3,pu,q3⟩ =>?_);rw[evalPart_none];refine HJ ?_;have I4:Inv X pins σ O { B with heap:=B.heap.push { cls:=.type "slice",data:=.fields #[G,J,.none] } }:=I3.kept (t':=B.toks) fun b ob q=>Hq _ q
 obtain⟨T,id,hT,ht,hg⟩:=U pins { B with heap:=B.heap.push { cls:=.type "slice",data:=.fields #[G,J,.none] } } σ O x v G J l u B.heap.objs.size Q I4 r1 (Heap.IsSliceOf.new ..) pl pu q3
 show wpAny (model X.prog X.w) X.A (subscriptTail e (.Slice lo hi none p2) v (.ref B.heap.objs.size)) (EP X pins σ Q) X.xe { B with heap:=B.heap.push { cls:=.type "slice",data:=.fields #[G,J,.none] } }
 exact tail_any (ops:=[.ref B.heap.objs.size,v]) ht hT hg (by with_unfolding_all rfl)
def wn (xs:List V)(lo hi:Option Int):List V:=(xs.drop (HT.sIx xs.length 0 lo)).take (HT.sIx xs.length xs.length hi - HT.sIx xs.length 0 lo)
theorem wm (xs:List V)(lo hi:Option Int):(wn xs lo hi).length≤xs.length:=by
 unfold wn;rw[IC,Ji]
 lia
end
def ixN (n:Nat)(i:Int):Option Nat:=if 0≤i then (if i < n then some i.toNat else none) else if -(n:Int)≤i then some (i + n).toNat else none
def atI {α:Type}(xs:List α)(i:Int):Option α:=(ixN xs.length i).bind fun j=>xs[j]?
theorem DQ (h:ixN n i=some j):seqIndex? i n=some j∧j < n∧-(n:Int)≤i∧i < n:=by
 unfold ixN at h;by_cases h0:0≤i
 ·rw[if_pos h0]at h;by_cases h1:i < n
  ·rw[if_pos h1]at h;have e:i.toNat=j:=Option.some.inj h;exact⟨by rw[seqIndex_of h0 h1,e],by lia,by lia,h1⟩
  ·rw[if_neg h1]at h;cases h
 ·rw[if_neg h0]at h;by_cases h1:-(n:Int)≤i
  ·rw[if_pos h1]at h;have e:(i + n).toNat=j:=Option.some.inj h;exact⟨by rw[seqIndex_neg (by lia) h1,e],by lia,h1,by lia⟩
  ·rw[if_neg h1]at h;cases h
theorem uM (h:atI xs i=some v):∃ j,seqIndex? i xs.length=some j∧xs[j]? = some v∧j < xs.length∧-(xs.length:Int)≤i∧i < xs.length:=by
 unfold atI at h;cases e:ixN xs.length i with
 | none=>rw[e]at h;cases h
 | some j =>
  rw[e]at h;obtain⟨h1,h2,B,G⟩:=DQ e;exact⟨j,h1,h,h2,B,G⟩
theorem bD {α:Type}{xs:List α}{j:Nat}{v:α}(h:xs[j]? = some v):atI xs (j:Int)=some v:=by
 have hj:j < xs.length:=(Hx.mp h).1;have e:ixN xs.length (j:Int)=some j:=by
  unfold ixN;rw[if_pos (by simp),if_pos (by lia)];simp
 unfold atI;rw[e];exact h
theorem CA (xs:List α)(v:α):atI (xs++[v]) (-1)=some v:=by
 have B:(xs++[v]).length=xs.length + 1:=by simp
 have e:ixN (xs++[v]).length (-1)=some xs.length:=by
  unfold ixN;rw[B,if_neg (by decide),if_pos (by lia)]
  congr 1
  lia
 unfold atI;rw[e];show (xs++[v])[xs.length]? = some v;simp
def Eh (b:Expr):Prop:=∀ o i,subscripted b false o i=operate [o,i] (getItem o i)
def IxR (X:Cx)(r:R2):Prop :=
 ∀ (value slice:Expr) (pins:List (Addr × Obj)) (s:Shared) (σ:St) (H:Hp) (x y:V) (v u:Value) (Q:VK),Inv X pins σ H s→bw x v→bw y u→r x y H Q →
  subscripted slice false v u=operate [v,u] (getItem v u)→wpAny (model X.prog X.w) X.A (subscriptTail value slice v u) (EP X pins σ Q) X.xe s
def MtR (X:Cx)(id:String)(r:V→List V→Hp→VK→Prop):Prop :=
 ∀ (pins:List (Addr × Obj)) (s:Shared) (σ:St) (H:Hp) (x:V) (xs:List V) (v:Value) (us:List Value) (Q:VK),Inv X pins σ H s→bw x v→ba xs us→r x xs H Q →
  wpAny (model X.prog X.w) X.A (call (.builtin id) (v::us)) (EP X pins σ Q) X.xe s
section
variable {a b:Expr}{ta tb:TE}
theorem au {r:R2}(B:IxR X r)(G:PE X a ta)(J:PE X b tb)(O:Eh b:=by exact fun _ _=>rfl):PE X (.Subscript a b pos) (tOp r ta tb):=by
 intro pins s σ H Q I h;exact Subscript_ (FF G J I h fun v u U x y H2 Y rx ry q=>B a b pins U σ H2 x y v u Q Y rx ry q (O _ _))
inductive EE (K:PySem.W.Frag)(x:V)(y:V)(H:Hp)(Q:VK):Prop
 | mk (p xs i v:_) (h_0:x=.ref p) (h_1:y=.int i) (h_2:SqL K H p xs) (h_3:atI xs i=some v) (h_4:Q v H):EE K x y H Q
def F6 (K:PySem.W.Frag):R2:=fun x y H Q=>EE K x y H Q
inductive ED (K:PySem.W.Frag)(x:V)(y:V)(H:Hp)(Q:VK):Prop
 | mk (p xs i v:_) (h_0:x=.ref p) (h_1:y=.int i) (h_2:SqT K H p xs) (h_3:atI xs i=some v) (h_4:Q v H):ED K x y H Q
def F5 (K:PySem.W.Frag):R2:=fun x y H Q=>ED K x y H Q
def G3:R2:=fun x y H Q=>∃ z i c,x=.str z∧y=.int i∧z.length≤sizeLine∧atI z.cps.toList i=some c∧Q (.str ⟨#[c]⟩) H
theorem bj:IxR X (F6 X.K):=by
 intro value B pins s σ H x y v u Q I Y ry h O;obtain⟨p,xs,i,z,rfl,rfl,hq,he,q⟩:=h;cases Y;obtain⟨t,rfl⟩:=ry;obtain⟨its,r,G,hz⟩:=I.list hq;obtain⟨j,h1,h2,h3,h4,h5⟩:=uM he;obtain⟨w,U,J⟩:=r.get h2;have hl:=r.length;have hn:=uk;have fin:EP X pins σ Q w s:=⟨z,H,I,J,q⟩;by_cases h0:0≤i
 ·have hj:i.toNat=j:=by
   rw[seqIndex_of h0 h5]at h1;exact Option.some.inj h1
  exact item_listR G.isList h0 (by lia) (by rw[hj];simpa using U) fin O
 ·have hj:(i + (its.toArray.size:Int)).toNat=j:=by
   rw[seqIndex_neg (by lia) h4]at h1;rw[HV,← hl];exact Option.some.inj h1
  exact subscriptTail_builtinR (x:=w) G.isList.typeIs slot_list_getitem.lookup
   (wpAny_getItem_list_neg (Q:=fun r s'=>r=w∧EP X pins σ Q r s') G.isList (by lia) (by rw[HV]<;>lia) (by lia) (by rw[hj];simpa using U) ⟨rfl,fin⟩) O
theorem aw:IxR X (F5 X.K):=by
 intro value B pins s σ H x y v u Q I O U h Y;obtain⟨p,xs,i,z,rfl,rfl,hq,he,q⟩:=h;cases O;obtain⟨t,rfl⟩:=U;obtain⟨its,r,J,hz⟩:=I.tuple hq;obtain⟨j,h1,h2,h3,h4,h5⟩:=uM he;obtain⟨w,ew,G⟩:=r.get h2;have hl:=r.length;have hn:=uk;have fin:EP X pins σ Q w s:=⟨z,H,I,G,q⟩;exact subscriptTail_builtinR (x:=w) J.typeIs slot_tuple_getitem.lookup
  (getItem_tuple (j:=j) (Q:=fun r s'=>r=w∧EP X pins σ Q r s') J (by lia) (by lia) (by rw[HV,← hl];exact h1) (by simpa using ew) ⟨rfl,fin⟩) Y
theorem jR:IxR X G3:=by
 intro value B pins s σ H x y v u Q I G J h O;obtain⟨z,i,c,rfl,rfl,hz,U,q⟩:=h;obtain⟨t,rfl⟩:=G;obtain⟨t',rfl⟩:=J;obtain⟨j,h1,h2,h3,Y,h5⟩:=uM U;have hl:z.cps.toList.length=z.length:=by simp[Str.length]
 rw[hl]at h1 Y h5;have hn:=uk;exact tail_any (typeIs_str s z t) slot_str_getitem.lookup (getItem_str (c:=c) (by
  have e1:decide (i < -(2 ^ 63:Int))=false:=Ih (by lia);have e2:decide (i ≥ 2 ^ 63)=false:=Ih (by lia);rw[e1,e2,Bool.or_false]) (by rw[h1];simpa using h2) ⟨.str ⟨#[c]⟩,H,I.tok _,⟨_,rfl⟩,q⟩) O
theorem s_ (lo hi:Option Int)(n:Nat):(sliceBounds lo hi none n).1=((HT.sIx n 0 lo:Nat):Int)∧(sliceBounds lo hi none n).2.1=((HT.sIx n n hi:Nat):Int)∧(sliceBounds lo hi none n).2.2=1:=by
 refine⟨?_,?_,rfl⟩
 ·cases lo with
  | none=>simp[sliceBounds,HT.sIx]
  | some i =>
   simp only[sliceBounds,HT.sIx,Option.getD_none,show (1:Int) > 0 by decide,if_true];by_cases h:i < 0
   ·simp only[h,if_true]<;>lia
   ·simp only[h,if_false]<;>lia
 ·cases hi with
  | none=>simp[sliceBounds,HT.sIx]
  | some i =>
   simp only[sliceBounds,HT.sIx,Option.getD_none,show (1:Int) > 0 by decide,if_true];by_cases h:i < 0
   ·simp only[h,if_true]<;>lia
   ·simp only[h,if_false]<;>lia
theorem rq (its:List Value)(lo hi:Option Int):slicePick its.toArray lo hi none=((its.drop (HT.sIx its.length 0 lo)).take (HT.sIx its.length its.length hi - HT.sIx its.length 0 lo)).toArray:=by
 obtain⟨h1,h2,B⟩:=s_ lo hi its.toArray.size;unfold slicePick;rw[h1,h2,B];simp only[sliceRange_one,pick_run,HV]<;>rfl
def G2 (K:PySem.W.Frag):V→Option Int→Option Int→Hp→VK→Prop:=fun x lo hi H Q=>∃ a xs,x=.ref a∧SqL K H a xs∧Nw H (.lst (wn xs lo hi)) fun p H=>Q (.ref p) H
theorem x_:SlR X (G2 X.K):=by
 intro pins s σ H x v vl vu lo hi sl Q I J O U Y h;obtain⟨a,xs,rfl,hx,q⟩:=h;cases J;obtain⟨its,r,G,hz⟩:=I.list hx;have B:=r.length;refine⟨"list",_,slot_list_getitem.lookup,G.isList.typeIs,?_⟩
 refine wpAny_getItem_list_slice G.isList O U Y .none (by simp) ?_ (by rw[HV]<;>lia);rw[rq,← B];refine⟨.ref s.heap.objs.size,_,I.laid (t':=s.toks) (o:=.lst (wn xs lo hi)) (fun b ob q=>Hq _ q) (Ht _) ?_,rfl,q _ (I.hok.fresh (Ht _))⟩;exact⟨H_ (wm xs lo hi) hz,_,0,(r.drop (HT.sIx xs.length 0 lo)).take (HT.sIx xs.length xs.length hi - HT.sIx xs.length 0 lo),HQ _ rfl⟩
def jS:V→Bool
 | .non=>true
 | .bl _=>true
 | .int _=>true
 | .str _=>true
 | _=>false
def eqV:V→V→Bool
 | .non,.non=>true
 | .bl a,.bl b=>a == b
 | .bl a,.int b=>(if a then 1 else 0) == b
 | .int a,.bl b=>a == (if b then 1 else 0)
 | .int a,.int b=>a == b
 | .str a,.str b=>a == b
 | _,_=>false
theorem Fz (G:bw y u)(B:bw x v)(O:jS y=true)(J:jS x=true):SeqAt.EqAt A s u v (eqV y x):=by
 cases y with
 | non =>
  cases G;cases x with
  | non=>cases B;exact SeqAt.EqAt.same _
  | bl b=>cases B;exact SeqAt.EqAt.none_bool b
  | int b=>obtain⟨t,rfl⟩:=B;exact SeqAt.EqAt.none_int b t
  | str b=>obtain⟨t,rfl⟩:=B;exact SeqAt.EqAt.none_str b t
  | _=>exact absurd (show false=true from J) HN
 | bl a =>
  cases G;cases x with
  | non=>cases B;exact SeqAt.EqAt.bool_none a
  | bl b=>cases B;exact SeqAt.EqAt.bool_bool a b
  | int b=>obtain⟨t,rfl⟩:=B;exact SeqAt.EqAt.bool_int a b t
  | str b=>obtain⟨t,rfl⟩:=B;exact SeqAt.EqAt.bool_str a b t
  | _=>exact absurd (show false=true from J) HN
 | int a =>
  obtain⟨t',rfl⟩:=G;cases x with
  | non=>cases B;exact SeqAt.EqAt.int_none a t'
  | bl b=>cases B;exact SeqAt.EqAt.int_bool a t' b
  | int b=>obtain⟨t,rfl⟩:=B;exact SeqAt.EqAt.int_int a t' b t
  | str b=>obtain⟨t,rfl⟩:=B;exact SeqAt.EqAt.int_str a t' b t
  | _=>exact absurd (show false=true from J) HN
 | str a =>
  obtain⟨t',rfl⟩:=G;cases x with
  | non=>cases B;exact SeqAt.EqAt.str_none a t'
  | bl b=>cases B;exact SeqAt.EqAt.str_bool a t' b
  | int b=>obtain⟨t,rfl⟩:=B;exact SeqAt.EqAt.str_int a t' b t
  | str b=>obtain⟨t,rfl⟩:=B;exact SeqAt.EqAt.str_str a t' b t
  | _=>exact absurd (show false=true from J) HN
 | _=>exact absurd (show false=true from O) HN
def eqU (x:V)(u:Value):Bool:=match u with
 | .none=>eqV .non x
 | .bool b=>eqV (.bl b) x
 | .int i _=>eqV (.int i) x
 | .str z _=>eqV (.str z) x
 | _=>false
theorem Cf (r:bw y u)(f:jS y=true):eqU x u=eqV y x:=by
 cases y with
 | non=>cases r;rfl
 | bl b=>cases r;rfl
 | int i=>obtain⟨t,rfl⟩:=r;rfl
 | str z=>obtain⟨t,rfl⟩:=r;rfl
 | _=>exact absurd (show false=true from f) HN
theorem uN:∀ {xs:List V} {us:List Value},ba xs us→xs.all jS=true→us.any (eqU x)=xs.any fun y=>eqV y x
 | _,_,.nil,_=>rfl
 | y::xs,u::us,.cons r t,f=>by
  rw[KB,IW]at f;rw[JZ,JZ,Cf r f.1,uN t f.2]
theorem qD (G:bw x v)(J:jS x=true):∀ {xs:List V} {us:List Value},ba xs us→xs.all jS=true→∀ u∈us,SeqAt.EqAt A s u v (eqU x u)
 | _,_,.nil,_=>fun u B=>by cases B
 | y::xs,u::us,.cons r t,f=>fun O B=>by
  rw[KB,IW]at f;rcases HZ.mp B with rfl | B
  ·rw[Cf r f.1];exact Fz r G f.1 J
  ·exact qD G J t f.2 O B
def inV (x:V)(xs:List V):Bool:=xs.any fun y=>eqV y x
def rIn (K:PySem.W.Frag)(neg:Bool):R2:=fun x y H Q=>∃ p xs,y=.ref p∧(SqL K H p xs∨SqT K H p xs)∧jS x=true∧xs.all jS=true∧Q (.bl (if neg then !inV x xs else inV x xs)) H
theorem zN:OpR X (compareOp .In) (rIn X.K false):=by
 intro pins s σ H x y v u Q I O Y h;obtain⟨p,xs,rfl,B,U,fs,q⟩:=h;cases Y;rcases B with B | B
 ·obtain⟨its,r,G,hz⟩:=I.list B;refine SeqAt.in_listAt (eqU x) G.isList (fun w J=>qD O U r fs w (by simpa using J)) ⟨.bl _,H,I,rfl,?_⟩;rw[show its.toArray.any (eqU x)=its.any (eqU x) by simp,uN r fs];exact q
 ·obtain⟨its,r,G,hz⟩:=I.tuple B;refine SeqAt.in_tupleAt (eqU x) G (fun w J=>qD O U r fs w (by simpa using J)) ⟨.bl _,H,I,rfl,?_⟩;rw[show its.toArray.any (eqU x)=its.any (eqU x) by simp,uN r fs];exact q
def tyV (K:PySem.W.Frag)(T:String)(x:V)(H:Hp):Prop:=match x with
 | .str _=>T = "str"
 | .int _=>T = "int"
 | .ref p=>(T = "list" ∧ ∃ xs,SqL K H p xs)∨(T = "tuple" ∧ ∃ o,K.lookup p=some o∧o.cls=.type "tuple" ∧ o.dict=none) ∨
   (T = "dict" ∧ ((∃ kvs,H p=some (.dK kvs))∨∃ kvs,H p=some (.dT kvs)))∨(T = "set" ∧ ∃ S n,H p=some (.set S n))
 | _=>False
theorem AB (I:Inv X pins σ H s)(r:bw x v)(ty:tyV X.K T x H):
  s.TypeIs v T∧∀ a,v=.ref a→∃ ob,s.heap.get? a=some ob∧ob.dict=none:=by
 cases x with
 | str z =>
  obtain⟨t,rfl⟩:=r;cases (show T = "str" from ty)
  exact⟨typeIs_str s z t,fun _ e=>nomatch e⟩
 | int i =>
  obtain⟨t,rfl⟩:=r;cases (show T = "int" from ty)
  exact⟨typeIs_int s i t,fun _ e=>nomatch e⟩
 | ref p =>
  cases r;rcases ty with⟨rfl,xs,U⟩ | ⟨rfl,o,B,Y,G⟩ | ⟨rfl,B⟩ | ⟨rfl,S,n,B⟩
  ·obtain⟨its,_,O,_⟩:=I.list U;refine⟨O.isList.typeIs,fun a e =>?_⟩;cases e;obtain⟨o,n,e,c,G,_⟩:=O;exact⟨o,e,G⟩
  ·refine⟨⟨o,I.kIn p o B,Y⟩,fun a e =>?_⟩;cases e;exact⟨o,I.kIn _ o B,G⟩
  ·have z:∃ o,s.heap.get? p=some o∧o.ExactDict:=by
    rcases B with⟨kvs,B⟩|⟨kvs,B⟩
    ·obtain⟨_,_,_,_,o,_,_,e,ex,_⟩:=I.hok p _ B;exact⟨o,e,ex⟩
    ·obtain⟨_,_,_,_,o,_,_,e,ex,_⟩:=I.hok p _ B;exact⟨o,e,ex⟩
   obtain⟨o,e,ex⟩:=z;refine⟨⟨o,e,ex.1⟩,fun a J =>?_⟩;cases J;exact⟨o,e,ex.2.1⟩
  ·obtain⟨o,_,_,_,e,ex,_⟩:=I.hok p _ B;refine⟨⟨o,e,ex.1⟩,fun a J =>?_⟩;cases J;exact⟨o,e,ex.2.1⟩
 | _=>exact False.elim ty
abbrev GW (K:PySem.W.Frag)(T:String)(r:V→List V→Hp→VK→Prop)(to:TE):TE:=fun σ H Q=>to σ H fun x H1=>tyV K T x H1∧r x [] H1 Q
abbrev tBM (K:PySem.W.Frag)(T:String)(r:V→List V→Hp→VK→Prop)(to:TE)(t:TA):TE:=fun σ H Q=>to σ H fun x H1=>tyV K T x H1∧t σ H1 fun xs H2=>r x xs H2 Q
variable {o e:Expr}{es:List Expr}{to:TE}{t:TA}{name:Str}{apos cpos:Pos}{T id:String}{r:V→List V→Hp→VK→Prop}
theorem E2 (pa:PlainAttrs T)(J:Slot T name id)(O:typeOf (.builtin id)=pure (.type "method_descriptor"))(hm:MtR X id r)(ho:PE X o to)
  (B:attributeBase o name X.env (eval o X.env)=eval o X.env:=by rfl) (G:(apos.endLine == cpos.line)=true:=by rfl):PE X (.Call (.Attribute o name apos) [] [] cpos) (GW X.K T r to):=by
 intro pins s σ H Q I h;refine wpAny_Call_method0_late B G (thn (ho pins s σ H _ I h) fun v s1 ⟨x,H1,U,Y,ty,q1⟩ =>?_);obtain⟨h1,h2⟩:=AB U Y ty;exact⟨T,id,pa,J,O,h1,h2,Calls.callWith_builtin rfl (PySem.evalArgs_none (hm pins s1 σ H1 x [] v [] Q U Y .nil q1))⟩
theorem rZ (pa:PlainAttrs T)(O:Slot T name id)(Y:typeOf (.builtin id)=pure (.type "method_descriptor"))(hm:MtR X id r)(ho:PE X o to)(ha:PA X (e::es) t)
  (G:attributeBase o name X.env (eval o X.env)=eval o X.env:=by rfl)
  (U:((backTo cpos (starEach (e::es) X.env)).all (fun x => !x.1) && (backToKw cpos (keywordEach [] X.env)).all (fun x=>x.1.isSome)
   && decide ((e::es).length + ([]:List Keyword).length + (if ([]:List Keyword).isEmpty then 0 else 1) < 30))=true:=by rfl)
  (J:(apos.endLine == cpos.line)=true:=by rfl) (hs:starEach (e::es) X.env=(false,eval e X.env)::starEach es X.env:=by rfl) (B:(backTo cpos (starEach es X.env)).any (·.1)=false:=by rfl) :
  PE X (.Call (.Attribute o name apos) (e::es) [] cpos) (tBM X.K T r to t):=by
 intro pins s σ H Q I h;refine wpAny_Call_method_late G U J rfl (thn (ho pins s σ H _ I h) fun v s1 ⟨x,H1,I1,r1,ty,q1⟩ =>?_);obtain⟨h1,h2⟩:=AB I1 r1 ty;refine⟨T,id,pa,O,Y,h1,h2,?_⟩;have hA:=ha cpos pins s1 σ H1 _ I1 q1;rw[hs]at hA ⊢;refine Calls.callWith_builtin (by show (false || (backTo cpos (starEach es X.env)).any (·.1))=false;rw[B]<;>rfl) (Calls.evalArgs_plain ?_);exact thn hA fun us s2 ⟨vs,H2,I2,r2,q2⟩=>hm pins s2 σ H2 x vs v us Q I2 r1 r2 q2
end
def MtM (X:Cx)(id:String)(r:V→List V→Hp→VK→Prop):Prop :=
 ∀ (pins:List (Addr × Obj)) (s:Shared) (σ:St) (H:Hp) (x:V) (xs:List V) (v:Value) (us:List Value) (Q:VK),Inv X pins σ H s→bw x v→ba xs us→r x xs H Q →
  wpAny (model X.prog X.w) X.A (call (.builtin id) (v::us)) (EP X pins σ Q) X.xe s
theorem ba.one:∀ {x:V} {us:List Value},ba [x] us→∃ u,us=[u]∧bw x u
 | _,_,.cons r .nil=>⟨_,rfl,r⟩
theorem ba.zero:∀ {us:List Value},ba [] us→us=[]
 | _,.nil=>rfl
theorem ba.reverse {xs:List V}{us:List Value}(h:ba xs us):ba xs.reverse us.reverse:=by
 induction h with
 | nil=>exact .nil
 | cons r t ih=>rw[List.reverse_cons,List.reverse_cons];exact ba.append ih (.cons r .nil)
section
variable {pins:List (Addr × Obj)}{σ:St}{l b:Addr}{xs ys zs:List V}
theorem Inv.lset {its its':List Value}{n:Nat}{f:Array Value→Array Value}{t':Nat}(I:Inv X pins σ H s)(B:H l=some (.lst xs))
  (e:s.heap.get? l=some { cls:=.type "list",data:=.seq its.toArray n }) (G:f its.toArray=its'.toArray) (J:ba ys its') (O:ys.length≤sizeLine) :
  Inv X pins σ (upd H l (.lst ys)) { s with heap:=s.heap.update l (Obj.mapSeq f),toks:=t' }:=by
 have q:=PySem.IsL.update e f;rw[G]at q;refine I.write (x:=l) (e:=l) (by rw[B];exact trivial) (.inl rfl) (fun b' u U Y=>(HY s.heap (Obj.mapSeq f) (Ne.symm U)).trans Y) ⟨_,q⟩ ?_;exact⟨O,its',_,J,q⟩
theorem Inv.lnew (I:Inv X pins σ H s)(B:ba ys its)(G:ys.length≤sizeLine):
  Inv X pins σ (upd H s.heap.objs.size (.lst ys)) { s with heap:=s.heap.push { cls:=.type "list",data:=.seq its.toArray },toks:=t' } :=
 I.laid (fun _ _ q=>Hq _ q) (Ht _) ⟨G,its,0,B,HQ _ rfl⟩
theorem Inv.fresh (I:Inv X pins σ H s):H s.heap.objs.size=none:=I.hok.fresh (Ht _)
theorem Inv.lstM (I:Inv X pins σ H s)(B:H l=some (.lst xs)):xs.length≤sizeLine∧∃ (its:List Value) (n:Nat),ba xs its∧xs.length=its.length∧s.heap.get? l=some { cls:=.type "list",data:=.seq its.toArray n }:=by
 obtain⟨z,its,n,r,e⟩:=I.hok l _ B;exact⟨z,its,n,r,r.length,e⟩
theorem BH (h:n≤sizeLine):Builtin.List.listTooLong n=false:=by
 unfold Builtin.List.listTooLong;exact Ih (by lia)
end
section
inductive wE  (x:V)(vs:List V)(H:Hp)(Q:VK):Prop
 | mk (l xs y:_) (h_0:x=.ref l) (h_1:vs=[y]) (h_2:H l=some (.lst xs)) (h_3:xs.length < sizeLine) (h_4:Q .non (upd H l (.lst (xs++[y])))):wE x vs H Q
def ye:V→List V→Hp→VK→Prop:=fun x vs H Q=>wE x vs H Q
theorem sd:MtM X "list.append" ye:=by
 intro pins s σ H x vs v us Q I G J h;obtain⟨l,xs,y,rfl,rfl,B,U,q⟩:=h;cases G;obtain⟨u,rfl,O⟩:=J.one;obtain⟨z,its,n,r,Y,e⟩:=I.lstM B;refine call_meets F.slot_list_append ⟨_,e,rfl⟩ F.entry_list_append (F.args_list_append_2 _ _) (PySem.list_append l its.toArray n u (by rw[HV];lia)) ⟨e,?_⟩;refine⟨.non,_,I.lset (its':=its++[u]) B e (by simp) (r.append (.cons O .nil)) ?_,rfl,q⟩;rw[Hs,IH]
 assumption
def C8:V→List V→Hp→VK→Prop:=fun x vs H Q=>∃ l b xs zs,x=.ref l∧vs=[.ref b]∧H l=some (.lst xs)∧H b=some (.lst zs)∧xs.length + zs.length≤sizeLine∧Q .non (upd H l (.lst (xs++zs)))
theorem nO:MtM X "list.extend" C8:=by
 intro pins s σ H x vs v us Q I O U h;obtain⟨l,b,xs,zs,rfl,rfl,J,Y,hz,q⟩:=h;cases O;obtain⟨u,rfl,ru⟩:=U.one;cases ru;obtain⟨z,its,n,r,hl,e⟩:=I.lstM J;obtain⟨z2,B,n2,r2,a0,e2⟩:=I.lstM Y;have hsz:its.toArray.size + B.toArray.size≤sizeLine:=by rw[HV,HV];lia
 have G:¬ (!its.toArray.isEmpty && Builtin.List.listTooLong (its.toArray.size + B.toArray.size))=true:=by
  rw[BH hsz,Bool.and_false];exact HN
 refine call_meets F.slot_list_extend ⟨_,e,rfl⟩ F.entry_list_extend (F.args_list_extend_2 _ _)
  (AutoSeq1.list_extend_list_list_0 l its.toArray n b B.toArray n2 G (by rw[HV];lia) (by lia)) ⟨e,e2,?_⟩
 refine⟨.non,_,I.lset (its':=its++B) J e (by simp) (r.append r2) ?_,rfl,q⟩;rw[Hs];omega
def AZ:V→List V→Hp→VK→Prop:=fun x vs H Q=>∃ l xs,x=.ref l∧vs=[]∧H l=some (.lst xs)∧Q .non (upd H l (.lst xs.reverse))
theorem xv:MtM X "list.reverse" AZ:=by
 intro pins s σ H x vs v us Q I J O h;obtain⟨l,xs,rfl,rfl,G,q⟩:=h;cases J;have B:=O.zero;subst B;obtain⟨z,its,n,r,U,e⟩:=I.lstM G;refine call_meets F.slot_list_reverse ⟨_,e,rfl⟩ F.entry_list_reverse (F.args_list_reverse_1 _) (AutoSeq1.list_reverse_list_0 l its.toArray n (by rw[HV];lia)) ⟨e,?_⟩;refine⟨.non,_,I.lset (its':=its.reverse) G e (by simp) r.reverse ?_,rfl,q⟩;rw[List.length_reverse];omega
def G5:R2:=fun x y H Q=>∃ l b xs zs,x=.ref l∧y=.ref b∧H l=some (.lst xs)∧H b=some (.lst zs)∧xs.length + zs.length≤sizeLine∧Nw H (.lst (xs++zs)) fun p H=>Q (.ref p) H
theorem tP:OpR X (binaryOp .Add) G5:=by
 intro pins s σ H x y v u Q I G J h;obtain⟨l,b,xs,zs,rfl,rfl,O,U,hz,q⟩:=h;cases G;cases J;obtain⟨z,its,n,r,hl,e⟩:=I.lstM O;obtain⟨z2,B,n2,Y,a0,e2⟩:=I.lstM U;refine PySem.P.add_list e e2 ?_ (by rw[HV,HV];lia);have ea:its.toArray++B.toArray=(its++B).toArray:=by simp
 rw[ea];exact⟨.ref _,_,I.lnew (t':=s.toks) (r.append Y) (by rw[Hs];omega),rfl,q _ I.fresh⟩
end
section
variable {w:World}{E:Value→Shared→Prop}
set_option maxRecDepth 100000 in
end
section
end
end L2
namespace Att
open PySem PySem.W PySem.Calls PyProof.Rows
theorem oJ:∀ (B:List Int) (vs:List Value),WellAll P h vs (B.map WData.int)→IntsAre vs B:=by
 intro B
 induction B with
 | nil =>
  intro vs w;rw[Ks]at w;cases w;exact .nil
 | cons n B ih =>
  intro vs w;rw[Ig]at w;cases w with
  | cons a b =>
   cases a;exact .cons _ _ (ih _ b)
theorem zA {l:OpenLaw}{n:Nat}(hn:l.most=some n){P:Params}{h:Heap}{args:List WData}{G:List Value}
  (J:l.row.toRowW.claim.pre args=true) (a0:WellAll P h G args) :
  ∃ a vs B,G=[Value.ref a]∧args=[WData.list (B.map WData.int)]∧h.get? a=some { cls:=.type "list",data:=.seq vs.toArray }∧IntsAre vs B∧B.length≤n:=by
 have a1:WShape.hasAll [] args [.list .int]=true:=(pre_splitW J).1;have hc:l.pre.holds [] { args:=args }=true:=(pre_splitW J).2;obtain⟨d,r,rfl,h1,h2⟩:=hasAllW_cons a1;obtain rfl:=hasAllW_nil h2;obtain⟨xs,rfl,h3⟩:=hasW_list h1;obtain⟨B,rfl⟩:=items_int h3;have O:B.length≤n:=by
  unfold OpenLaw.pre at hc;have U:(WTm.not (.lt (.lit (.int (n:Int))) (.len (.arg 0)))).holds [] { args:=[.list (B.map .int)] }=true:=by
   have U:=(holds_andW hc).1;rw[hn]at U;exact U
  have Y:=condW_of U (w_not (w_lt w_lit (w_len_list (w_arg rfl))));rw[Hw]at Y;refine Jn fun q =>?_;have q':(n:Int) < ((B.length:Nat):Int):=by omega
  first
   | (rw[Hr q']at Y;exact absurd Y (by decide))
   | (simp at Y;lia)
 cases a0 with
 | cons w1 w2 =>
  cases w2;cases w1 with
  | list ho hall=>exact⟨_,_,B,rfl,rfl,ho,oJ B _ hall,O⟩
theorem zG (l:OpenLaw)(args:List WData):l.row.toRowW.claim.post args (.bool true) args=true :=
 postW_of (r:=l.row.toRowW) (X:=(true == true))
  (show WShape.has [] (.bool true) .bool=true by first | rfl | decide | simp[WShape.has,WShape.arms,WShape.armsAll])
  (show (WTm.eq .res (.lit (.bool true))).value [] { args:=args,res:=some (.bool true),after:=args }=some (.bool (true == true)) from w_eq_bool (w_res rfl) w_lit) rfl
theorem wC {l:OpenLaw}{n:Nat}{q:Program}{B:List Str}{XP:(Str→Option Value)→Heap→Prop}{YP:World→Heap→Prop}{d:DefRec}
  (hn:l.most=some n) (a3:d.params.defaults=[])
  (call:∀ (w:World) (s₀ J:Shared) (mg mb:Str→Option Value) (U:Addr) (o:Obj) (pm cd doc:Value) (a:Addr) (vs:List Value) (ns:List Int),
   Ground q B [] XP w s₀ mg mb J.heap→YP w J.heap →
   J.heap.get? U=some o→o.data=.func (docDef d.name d.params d.body d.scope pm cd doc)→J.heap.CodeRec cd d.name→mg d.name=some (.ref U) →
   J.heap.get? a=some { cls:=.type "list",data:=.seq vs.toArray }→IntsAre vs ns→ns.length≤n→J.gens = #[] →
   codeAny (model l.prog w) callerA (.call (.ref U) ⟨[.ref a],[]⟩) (fun r s'=>r=.ok (.ret (.bool true))∧OldK J.heap s'.heap∧s'.os=J.os∧AllBare s'.gens) J) :
  WalkO q B XP YP l.row.toRowW d [] (fun f vs=>PySem.call f vs):=by
 intro w s₀ J mg mb G Y U o pm cd doc dV kV ho hd a4 hD a5 hg args a7 as a0 a8 a9 a6 b0;obtain rfl:dV=.none:=Dflts.none hD a3;obtain rfl:kV=.none:=Dflts.noKw hD;obtain⟨a,vs,ns,rfl,rfl,a1,O,a2⟩:=zA hn a0 a6;refine enter_call (codeAny_mono (call w s₀ J mg mb U o pm cd doc a vs ns G Y ho (fd_plain hd) a4 a5 a1 O a2 hg) fun r s' hq =>?_);obtain⟨rfl,h2,h3,h4⟩:=hq;exact⟨.inl ⟨.bool true,.bool true,[],rfl,fun _=>rfl,.bool true,zG l _,fun _=>⟨List.Pairwise.nil,fun _ hm=>(nomatch hm)⟩⟩,h2,h3,h4⟩
section
variable {prog:Program}{w:World}{A:Around}{E:Value→Shared→Prop}{s:Shared}{K:Frag}
end
end Att
namespace L2
open PySem PySem.Spec PyProof.Rows
variable {H:Hp}{X:Cx}{s:Shared}{pos:Pos}{prog:Program}{A:Around}{K:PySem.W.Frag}
theorem rP:∀ {vs:List Value} {ns:List Int},IntsAre vs ns→ba (ns.map V.int) vs
 | _,_,.nil=>.nil
 | _,_,.cons n t h=>.cons ⟨t,rfl⟩ (rP h)
def b_ (s:Stmt):Arguments:=match s with
 | .FunctionDef _ a _ _ _ _ _ _ _ _=>a
 | _=>{ posonlyargs:=[],args:=[],vararg:=none,kwonlyargs:=[],kw_defaults:=[],kwarg:=none,defaults:=[] }
def bO (s:Stmt):List Stmt:=match s with
 | .FunctionDef _ _ b _ _ _ _ _ _ _=>b
 | _=>[]
def aq (s:Stmt):Scope:=match s with
 | .FunctionDef _ _ _ _ _ _ sc _ _ _=>sc
 | _=>{ kind:=.function,names:=[],isGenerator:=false,isCoroutine:=false }
abbrev E0:XK:=fun _ _ _=>False
section
variable {P:Program}{w:World}{mg:Str→Option Value}{base:Heap}
end
theorem cz (h:n≤1000):n < sizeLine:=Jp h (by decide)
section
theorem pv (i:Nat)(G:X.N[i]? = some x:=by rfl)(J:Vis X.env.scope x:=by first | exact Or.inl rfl | exact Or.inr (Or.inl rfl) | exact Or.inr (Or.inr rfl))(O:(x == ("__debug__" : Str))=false:=by decide)
  (B:(x == ("__classdict__" : Str))=false:=by decide):PE X (.Name x pos) (wL i):=EX G J O B
end
theorem js {A B:Prop}(h:B):if false=true then A else B:=by
 rw[if_neg HN];exact h
theorem mK {A B:Prop}(h:A):if true=true then A else B:=by
 rw[if_pos rfl];exact h
theorem aY {c A B:Prop}[Decidable c](h1:c→A)(h2:¬ c→B):if c then A else B:=by
 by_cases h:c
 ·rw[if_pos h];exact h1 h
 ·rw[if_neg h];exact h2 h
theorem Go {c A B:Prop}[Decidable c](G:c)(h:B):if (!decide c)=true then A else B:=by
 rw[Hr G];exact js h
def ak (H H':Hp):Prop:=∀ b o,H b=some o→H' b=some o
theorem ak.refl (H:Hp):ak H H:=fun _ _ h=>h
theorem ak.trans {H H1 H2:Hp}(a:ak H H1)(b:ak H1 H2):ak H H2:=fun c o h=>b c o (a c o h)
theorem ak.free (e:ak H H')(h:H' l=Option.none):H l=Option.none:=by
 cases q:H l with
 | none=>rfl
 | some o =>
  rw[e l o q]at h;cases h
theorem ak.seq {K:PySem.W.Frag}(e:ak H H')(h:SqL K H a xs):SqL K H' a xs:=by
 rcases h with (h|⟨o,h⟩)|h
 ·exact .inl (.inl (e _ _ h))
 ·exact .inl (.inr ⟨o,e _ _ h⟩)
 ·exact .inr h
section
variable {κ:Type}[DecidableEq κ]
def cm (kvs:List (κ × V))(k:κ):Option V:=(kvs.find? fun kv=>decide (kv.1=k)).map (·.2)
def fI (kvs:List (κ × V))(k:κ)(v:V):List (κ × V) :=
 if (kvs.any fun kv=>decide (kv.1=k))=true then kvs.map (fun kv=>if kv.1=k then (kv.1,v) else kv) else kvs++[(k,v)]
theorem Ay:cm ([]:List (κ × V)) k=none:=rfl
theorem cN {p:κ × V}{r:List (κ × V)}{k:κ}(e:p.1=k):cm (p::r) k=some p.2:=by simp[cm,Jc,e]
theorem cO {p:κ × V}{r:List (κ × V)}{k:κ}(e:¬ p.1=k):cm (p::r) k=cm r k:=by simp[cm,Jc,e]
theorem l_ (k:κ):∀ kvs:List (κ × V),(kvs.any fun B=>decide (B.1=k))=(cm kvs k).isSome
 | []=>rfl
 | p::r=>by
  rw[JZ];by_cases e:p.1=k
  ·simp only[cN e,Hr e,Bool.true_or,Option.isSome_some]
  ·rw[cO e,Ih e,Bool.false_or];exact l_ k r
theorem uY (k j:κ)(y:V):∀ kvs:List (κ × V),cm (kvs.map fun B=>if B.1=k then (B.1,y) else B) j=(cm kvs j).map fun x=>if j=k then y else x
 | []=>rfl
 | p::r=>by
  have G:=uY k j y r;rw[Ig];by_cases h:p.1=k
  ·rw[if_pos h];by_cases e:p.1=j
   ·rw[cN (p:=(p.1,y)) e,cN e,JU,if_pos (e.symm.trans h)]
   ·rw[cO (p:=(p.1,y)) e,cO e,G]
  ·rw[if_neg h];by_cases e:p.1=j
   ·rw[cN (p:=p) e,cN e,JU,if_neg (fun z=>h (e.trans z))]
   ·rw[cO (p:=p) e,cO e,G]
theorem rQ (k j:κ)(y:V):∀ kvs:List (κ × V),cm kvs k=none→cm (kvs++[(k,y)]) j=if j=k then some y else cm kvs j
 | [],_=>by
  by_cases e:k=j
  ·rw[if_pos e.symm];exact cN (p:=(k,y)) e
  ·rw[if_neg (fun z=>e z.symm)];exact cO (p:=(k,y)) e
 | p::r,hn=>by
  rw[List.cons_append];have B:¬ p.1=k:=fun z=>by rw[cN z]at hn;cases hn
  rw[cO B]at hn;have G:=rQ k j y r hn;by_cases e:p.1=j
  ·rw[cN e,cN e,if_neg (fun z=>B (e.trans z))]
  ·rw[cO e,cO e,G]
theorem pQ (kvs:List (κ × V))(k j:κ)(y:V):cm (fI kvs k y) j=if j=k then some y else cm kvs j:=by
 unfold fI;by_cases a:(kvs.any fun B=>decide (B.1=k))=true
 ·rw[if_pos a,uY];rw[l_]at a;by_cases e:j=k
  ·obtain⟨x,G⟩:=Ii.mp a;rw[if_pos e,e,G,JU,if_pos rfl]
  ·rw[if_neg e];cases cm kvs j with
   | none=>rfl
   | some x=>rw[JU,if_neg e]
 ·rw[if_neg a];refine rQ k j y kvs ?_;rw[l_]at a;cases q:cm kvs k with
  | none=>rfl
  | some x=>rw[q]at a;exact (a rfl).elim
theorem fq (kvs:List (κ × V))(k:κ)(v:V):(fI kvs k v).length≤kvs.length + 1:=by
 unfold fI
 split
 ·rw[Hw];simp
 ·rw[Hs,HX,KM];simp
theorem oN.isSome_eq (r:oN o u):o.isSome=u.isSome:=by
 cases o with
 | none=>cases u with
  | none=>rfl
  | some _=>exact (show False from r).elim
 | some _=>cases u with
  | none=>exact (show False from r).elim
  | some _=>rfl
theorem KV.val {kvs:List (κ × V)}{vs:List (κ × Value)}(r:KV kvs vs)(k:κ):oN (cm kvs k) (valueAt vs k):=by
 unfold KV at r
 induction r with
 | nil=>exact True.intro
 | @cons p q ps qs h t ih =>
  obtain⟨h1,h2⟩:=h;by_cases e:p.1=k
  ·have e':q.1=k:=h1.symm.trans e;have b:valueAt (q::qs) k=some q.2:=by simp[valueAt,Jc,e']
   rw[cN e,b];exact h2
  ·have e':¬ q.1=k:=fun z=>e (h1.trans z);have b:valueAt (q::qs) k=valueAt qs k:=by simp[valueAt,Jc,e']
   rw[cO e,b];exact ih
theorem KV.any (r:KV kvs vs)(k:κ):(kvs.any fun B=>decide (B.1=k))=vs.any fun B=>decide (B.1=k):=by
 unfold KV at r
 induction r with
 | nil=>rfl
 | cons h t ih=>rw[JZ,JZ,ih,h.1]
theorem KV.repl (r:KV kvs vs)(k:κ)(G:bw y u):
  KV (kvs.map fun B=>if B.1=k then (B.1,y) else B) (vs.map fun B=>if B.1=k then (B.1,u) else B):=by
 unfold KV at r ⊢
 induction r with
 | nil=>exact .nil
 | @cons p q ps qs h t ih =>
  rw[Ig,Ig];refine .cons ?_ ih;obtain⟨h1,h2⟩:=h;by_cases e:p.1=k
  ·rw[if_pos e,if_pos (h1.symm.trans e)];exact⟨h1,G⟩
  ·rw[if_neg e,if_neg (fun z=>e (h1.trans z))];exact⟨h1,h2⟩
theorem KV.put (r:KV kvs vs)(k:κ)(B:bw y u):KV (fI kvs k y) (stored vs k u):=by
 unfold fI stored;rw[r.any k];by_cases e:(vs.any fun G=>decide (G.1=k))=true
 ·rw[if_pos e,if_pos e];exact r.repl k B
 ·rw[if_neg e,if_neg e];exact Paired.snoc r ⟨rfl,B⟩
theorem KV.length (r:KV kvs vs):kvs.length=vs.length:=Paired.length r
end
theorem gH (r:bw (kV k) u):(aT P w).is k u=true:=by
 cases k with
 | inl i=>obtain⟨t,e⟩:=(show ∃ t,u=Value.int i t from r);subst e;exact vP P w i t
 | inr x=>obtain⟨t,e⟩:=(show ∃ t,u=Value.str x t from r);subst e;exact vO P w x t
theorem se:∀ {ks:List Key} {us:List Value},ba (ks.map kV) us→ItemsAre (aT P w) ks us
 | [],_,r=>by rw[Ks]at r;cases r;exact .nil
 | k::ks,_,r=>by
  rw[Ig]at r;cases r with
  | cons h t=>exact .cons (gH h) (se t)
abbrev KT (H:Hp):List (List Key × V)→List (List Key × Addr × Value)→Prop:=Paired fun p q=>p.1=q.1∧H q.2.1=some (.tup (p.1.map kV))∧bw p.2 q.2.2
theorem KT.val {H:Hp}{kvs:List (List Key × V)}{xs:List (List Key × Addr × Value)}(r:KT H kvs xs)(k:List Key):oN (cm kvs k) ((atKey xs k).map (·.2)):=by
 induction r with
 | nil=>exact True.intro
 | @cons p q ps qs h t ih =>
  obtain⟨h1,_,h2⟩:=h;by_cases e:p.1=k
  ·have e':q.1=k:=h1.symm.trans e;have b:atKey (q::qs) k=some q.2:=by simp[atKey,Jc,e']
   rw[cN e,b];exact h2
  ·have e':¬ q.1=k:=fun z=>e (h1.trans z);have b:atKey (q::qs) k=atKey qs k:=by simp[atKey,Jc,e']
   rw[cO e,b];exact ih
theorem KT.repl (r:KT H kvs xs)(k:List Key)(G:bw y u):
  KT H (kvs.map fun B=>if B.1=k then (B.1,y) else B) (xs.map (putAt k u)):=by
 induction r with
 | nil=>exact .nil
 | @cons p q ps qs h t ih =>
  rw[Ig,Ig];refine .cons ?_ ih;obtain⟨h1,h2,J⟩:=h;unfold putAt;by_cases e:p.1=k
  ·rw[if_pos e,if_pos (h1.symm.trans e)];exact⟨h1,h2,G⟩
  ·rw[if_neg e,if_neg (fun z=>e (h1.trans z))];exact⟨h1,h2,J⟩
theorem KT.put (r:KT H kvs xs)(k:List Key)(G:H b=some (.tup (k.map kV)))(B:bw y u):
  KT H (fI kvs k y) (storedH xs k b u):=by
 have e:(kvs.any fun J=>decide (J.1=k))=(atKey xs k).isSome:=by
  rw[l_,(r.val k).isSome_eq,IP]
 unfold fI storedH;rw[e];by_cases q:(atKey xs k).isSome=true
 ·rw[if_pos q,if_pos q];exact r.repl k B
 ·rw[if_neg q,if_neg q];exact Paired.snoc r ⟨rfl,G,B⟩
theorem KT.keeps (r:KT H kvs xs)(B:∀ b ys,H b=some (.tup ys)→H' b=some (.tup ys)):KT H' kvs xs :=
 Paired.mapP r fun _ _ z=>⟨z.1,B _ _ z.2.1,z.2.2⟩
section
variable {P:Program}{w:World}{h:Heap}{a:Addr}
theorem Er (ok:HOk P w H h)(e:Rd H a u):bF P w H h a u:=e.ok ok
theorem yO (ok:HOk P w H h)(e:Rd H a (.dK kvs)):kvs.length≤sizeLine∧(a == sysModules)=false∧∃ vs,KV kvs vs∧h.DictOf (aT P w) a vs :=
 show bF P w H h a (.dK kvs) from Er ok e
theorem EB (ok:HOk P w H h)(e:H a=some (.dK kvs)):kvs.length≤sizeLine∧(a == sysModules)=false∧∃ vs,KV kvs vs∧h.DictOf (aT P w) a vs:=yO ok (.inl e)
theorem qI (ok:HOk P w H h)(e:H a=some (.tup (ks.map kV))):(tupleKind (aT P w)).is h ks a:=by
 obtain⟨_,its,r,o,h1,h2,n,B⟩:=(show bF P w H h a (.tup (ks.map kV)) from ok a _ e);exact⟨o,its.toArray,n,h1,h2,B,by simpa using se r⟩
theorem yM (ok:HOk P w H h)(e:Rd H a (.dT kvs)):kvs.length≤sizeLine∧(a == sysModules)=false ∧
  ∃ xs,KT H kvs xs∧h.DictOfH (tupleKind (aT P w)) a xs:=by
 obtain⟨z,y,xs,r,o,es,ep,h1,h2,G,J,O⟩:=(show bF P w H h a (.dT kvs) from Er ok e);refine⟨z,y,xs,r,o,es,ep,h1,h2,G,J,fun x B =>?_,O⟩;have all:∀ {l:List (List Key × V)} {m:List (List Key × Addr × Value)},KT H l m→∀ x∈m,(tupleKind (aT P w)).is h x.1 x.2.1:=by
  intro l m q
  induction q with
  | nil=>intro x B;exact nomatch B
  | @cons p q ps qs hq t ih =>
   intro x B;rcases HZ.mp B with e | B
   ·subst e;exact qI ok (by rw[← hq.1];exact hq.2.1)
   ·exact ih x B
 exact all r x B
theorem GB (ok:HOk P w H h)(e:H a=some (.dT kvs)):kvs.length≤sizeLine∧(a == sysModules)=false ∧
  ∃ xs,KT H kvs xs∧h.DictOfH (tupleKind (aT P w)) a xs:=yM ok (.inl e)
end
def n8 (H:Hp)(a:Addr)(y:V)(r:Option V):Prop :=
 (∃ kvs k,Rd H a (.dK kvs)∧y=kV k∧r=cm kvs k)∨∃ kvs k b,Rd H a (.dT kvs)∧y=.ref b∧H b=some (.tup (k.map kV))∧r=cm kvs k
def Av (H:Hp)(a:Addr)(y v:V)(H':Hp):Prop :=
 (∃ kvs k,H a=some (.dK kvs)∧y=kV k∧kvs.length < sizeLine∧H'=upd H a (.dK (fI kvs k v))) ∨
 ∃ kvs k b,H a=some (.dT kvs)∧y=.ref b∧H b=some (.tup (k.map kV))∧kvs.length < sizeLine∧H'=upd H a (.dT (fI kvs k v))
theorem n8.k {H:Hp}{a:Addr}{kvs:List (Key × V)}{k:Key}(e:H a=some (.dK kvs)):n8 H a (kV k) (cm kvs k):=.inl ⟨kvs,k,.inl e,rfl,rfl⟩
theorem Av.k {H:Hp}{a:Addr}{kvs:List (Key × V)}{k:Key}{v:V}(e:H a=some (.dK kvs))(B:kvs.length < sizeLine):Av H a (kV k) v (upd H a (.dK (fI kvs k v))):=.inl ⟨kvs,k,e,rfl,B,rfl⟩
section
variable {pins:List (Addr × Obj)}{σ:St}{a:Addr}{y v:V}{u r:Value}{o:Option V}{E:Value→Shared→Prop}
theorem Inv.big (I:Inv X pins σ H s):sysModules < s.heap.objs.size:=by
 have h:mainGlobals < s.heap.objs.size:=(I.mod.glob.keeps I.bk).lt;exact Kf (by decide) h
theorem Aj (hu:A.units + 1 < cLine)(I:Inv X pins σ H s)(g:n8 H a y (some v))(ry:bw y u)(h:∀ J s',Inv X pins σ H s'→bw v J→Q J s'):
  wpAny (model X.prog X.w) A (getItem (.ref a) u) Q E s:=by
 rcases g with⟨kvs,k,e,O,l⟩|⟨kvs,k,b,e,O,eb,l⟩
 ·subst O;obtain⟨z,hd,vs,B,dd⟩:=yO I.hok e;obtain⟨J,U,G⟩:=oN.some_of (v:=v) (o:=valueAt vs k) (by rw[l];exact B.val k);exact wpAny_getItem_of (gH ry) dd.mapOf U (h J _ (I.tok _) G)
 ·subst O;cases (show u=Value.ref b from ry);obtain⟨z,hd,xs,B,dd⟩:=yM I.hok e;obtain⟨J,U,G⟩:=oN.some_of (v:=v) (o:=(atKey xs k).map (·.2)) (by rw[l];exact B.val k);obtain⟨p,hp,Y⟩:=Iw.mp U;refine wpAny_getItem_heap (tupleKind_room_in1 hu) (qI I.hok eb) dd hp ?_;rw[Y];exact h J _ (I.tok _) G
theorem D4 (U:A.units + 1 < cLine)(I:Inv X pins σ H s)(g:n8 H a y o)(O:bw y u)(h:∀ s',Inv X pins σ H s'→Q (.bool (!o.isSome)) s'):
  wpAny (model X.prog X.w) A (compareOp .NotIn u (.ref a)) Q E s:=by
 rcases g with⟨kvs,k,e,G,l⟩|⟨kvs,k,b,e,G,Y,l⟩
 ·subst G;obtain⟨z,J,vs,B,dd⟩:=yO I.hok e;refine wpAny_notIn_of (gH O) J dd.mapOf ?_;rw[← (B.val k).isSome_eq,← l];exact h _ (I.tok _)
 ·subst G;cases (show u=Value.ref b from O);obtain⟨z,J,xs,B,dd⟩:=yM I.hok e;refine wpAny_notIn_heap (tupleKind_room_in1 U) (qI I.hok Y) J dd ?_;have q:=(B.val k).isSome_eq;rw[IP]at q;rw[← q,← l];exact h _ (I.tok _)
theorem pM (I:Inv X pins σ H s)(B:Mut (H a))(G:Heap.SameBut a s.heap h')(J:∃ q,h'.get? a=some q)(new:bF X.prog X.w (upd H a ob) h' a ob):
  Inv X pins σ (upd H a ob) { s with heap:=h',toks:=t' } :=
 I.write (x:=a) (e:=a) B (.inl rfl) (fun b q O z=>(G.2 b O).trans z) J new
theorem Ck (z:kvs.length≤sizeLine)(G:(a == sysModules)=false)(B:KV kvs vs)(dd:h'.DictOf (aT P w) a vs):
  bF P w H' h' a (.dK kvs):=⟨z,G,vs,B,dd⟩
theorem Ai {H':Hp}{Q:Unit→Shared→Prop}(hu:A.units + 1 < cLine)(I:Inv X pins σ H s)(g:Av H a y v H')(ry:bw y u)(rv:bw v r)(h:∀ s',Inv X pins σ H' s'→Q () s'):
  wpAny (model X.prog X.w) A (setItem (.ref a) u r) Q E s:=by
 rcases g with⟨kvs,k,e,O,l,U⟩|⟨kvs,k,b,e,O,eb,l,U⟩
 ·subst O U;obtain⟨z,Y,vs,B,dd⟩:=EB I.hok e;have hz:vs.length≤sizeLine:=by rw[← B.length];exact z
  have hl:(fI kvs k v).length≤sizeLine:=by have:=fq kvs k v;lia
  refine wpAny_setItem_pairs (hsz:=hz) (gH ry) dd fun h' G hs=>h _ ?_;have he:∃ q,h'.get? a=some q:=let ⟨q,_,_,J,_⟩:=G;⟨q,J⟩
  exact pM I (by rw[e];exact True.intro) hs he (Ck hl Y (B.put k rv) G)
 ·subst O U;cases (show u=Value.ref b from ry);obtain⟨z,Y,xs,B,dd⟩:=GB I.hok e;have hz:xs.length≤sizeLine:=by rw[← Paired.length B];exact z
  have hl:(fI kvs k v).length≤sizeLine:=by have:=fq kvs k v;lia
  refine wpAny_setItem_heap (hsz:=hz) (tupleKind_room_in1 hu) (qI I.hok eb) dd fun h' G hs=>h _ ?_;obtain⟨q,es,ep,J,h2,h3,h4,_,h5⟩:=G;refine pM I (by rw[e];exact True.intro) hs ⟨q,J⟩ ⟨hl,Y,_,(B.put k eb rv).keeps fun c ys ec =>?_,q,es,ep,J,h2,h3,h4,h5⟩;rw[aH (Eu ec e (fun z=>nomatch z))];exact ec
end
section
variable {pins:List (Addr × Obj)}{σ:St}{a:Addr}{kvs:List (Key × V)}{k:Key}{u:Value}{E:Value→Shared→Prop}
end
def Ei (i:Expr):Prop:=∀ ov iv,subscripted i false ov iv=operate [ov,iv] (getItem ov iv)
theorem sX {T id:String} 
  (Y:typeLookup (.type T) "__getitem__" = pure (some (.builtin id))) (hs:Ei slice)
  (h:wpAny (model prog w) A (eval value env) (fun o J=>wpAny (model prog w) A (eval slice env) (fun i B=>B.TypeIs o T∧wpAny (model prog w) A (getItem o i) Q E B) E J) E s) :
  wpAny (model prog w) A (eval (.Subscript value slice pos) env) Q E s:=by
 refine Subscript_ (IJ h (fun o J h₁=>IJ h₁ (fun i B G =>?_) fun _ _ x=>x) fun _ _ x=>x);obtain⟨O,G⟩:=G;unfold subscriptTail;refine Ho ?_;rw[getitemInPython_of_ne O.not_modules];refine Ho (wpAny_specialOf O Y ?_);have fin:wpAny (model prog w) A (subscripted slice false o i) (fun r U=>wpAny (model prog w) A (letTemporaryGo value o r >>= fun _=>pure r) Q E U) E B:=by
  rw[hs o i];exact wpAny_operating (IJ G (fun r U h₃=>Ho (wpAny_letTemporaryGo (HJ h₃))) fun _ _ x=>x)
 first
  | exact HJ (Ho fin)
  | exact Ho (HJ (Ho fin))
  | exact Ho fin
theorem wf (I:Inv X pins σ H s)(g:n8 H a y o):s.TypeIs (.ref a) "dict" := by
 rcases g with⟨kvs,k,e,_,_⟩|⟨kvs,k,b,e,_,_,_⟩
 ·obtain⟨_,_,vs,_,dd⟩:=yO I.hok e;exact dd.typeIs
 ·obtain⟨_,_,xs,_,dd⟩:=yM I.hok e;exact dd.typeIs
abbrev FY (td ty:TE):TE:=fun σ H Q=>td σ H fun x H1=>ty σ H1 fun y H2=>∃ a v,x=.ref a∧n8 H2 a y (some v)∧Q v H2
abbrev F2 (td ty tv:TE):TS:=fun D σ H=>tv σ H fun v H1=>td σ H1 fun x H2=>ty σ H2 fun y H3=>∃ a H4,x=.ref a∧Av H3 a y v H4∧D.nx σ H4
section
variable {o i e value:Expr}{pos' tpos:Pos}{td ty tv:TE}
theorem iW (J:X.A.units + 1 < cLine)(O:PE X o td)(hi:PE X i ty)(U:Ei i):PE X (.Subscript o i pos) (FY td ty):=by
 intro pins s σ H Q I h;refine sX PySem.F.slot_dict_getitem.lookup U (thn (O pins s σ H _ I h) fun u Y ⟨x,H1,I1,rx,q1⟩=>thn (hi pins Y σ H1 _ I1 q1) fun iv s2 ⟨y,H2,G,ry,a,v,ex,g,q2⟩ =>?_);subst ex;obtain rfl:u=Value.ref a:=rx;exact⟨wf G g,Aj J G g ry fun w' s3 I3 B=>⟨v,H2,I3,B,q2⟩⟩
theorem yk (B:X.A.units + 1 < cLine)(G:PE X o td)(hi:PE X i ty)(J:PE X value tv)(O:swapsWith value (some (.Subscript o i pos')) pos.line X.env=pure false):
  PS X (.Assign [.Subscript o i pos'] value pos) (F2 td ty tv):=by
 intro pins s σ H D I h;refine wpAny_Assign_Subscript (thn (J pins s σ H _ I h) fun r U ⟨v,H1,Y,rv,q1⟩=>thn (G pins U σ H1 _ Y q1) fun u s2 ⟨x,H2,I2,rx,q2⟩=>thn (hi pins s2 σ H2 _ I2 q2) fun iv s3 ⟨y,H3,I3,ry,a,H4,ex,g,q3⟩ =>?_) O;subst ex;obtain rfl:u=Value.ref a:=rx;exact Ai B I3 g ry rv fun s4 I4=>⟨σ,H4,I4,q3⟩
end
theorem we (h:Heap)(B:sysModules < h.objs.size):bF P w H (h.push { cls:=.type "dict",data:=.dict #[] }) h.objs.size (.dK []) :=
 ⟨HE _,beq_eq_false_iff_ne.mpr (Ne.symm (Ik B)),[],.nil,Heap.DictOf.new h⟩
def EM:TE:=fun _ H Q=>Nw H (.dK []) fun p H=>Q (.ref p) H
section
theorem Bt:PE X (.Dict [] [] pos) EM:=fun pins s σ H Q I h =>
 wpAny_Dict_empty ⟨.ref s.heap.objs.size,_,I.laid (a:=s.heap.objs.size) (o:=.dK []) (t':=s.toks) (fun _ _ q=>Hq _ q) (Ht _) (we s.heap I.big),rfl,h _ (I.hok.fresh (Ht _))⟩
end
def wN:List (TE × TE)→St→Hp→(List (V × V)→Hp→Prop)→Prop
 | [],_,H,Q=>Q [] H
 | (tk,tv)::r,σ,H,Q=>tk σ H fun x H1=>tv σ H1 fun y H2=>wN r σ H2 fun ps H3=>Q ((x,y)::ps) H3
abbrev VV:List (V × V)→List (Value × Value)→Prop:=Paired fun p q=>bw p.1 q.1∧bw p.2 q.2
def PPs (X:Cx)(pos:Pos)(keys:List (Option Expr))(values:List Expr)(trs:List (TE × TE)):Prop :=
 ∀ (pins:List (Addr × Obj)) (s:Shared) (σ:St) (H:Hp) (Q:List (V × V)→Hp→Prop),Inv X pins σ H s→wN trs σ H Q →
  wpAny (model X.prog X.w) X.A (evalPairs (pairTrees keys values X.env pos)) (fun vs s'=>∃ ps H',Inv X pins σ H' s'∧VV ps vs∧Q ps H') X.xe s
theorem Di:PPs X pos [] [] []:=fun pins s σ H Q I h=>pairTrees_nil_walk ⟨[],H,I,.nil,h⟩
theorem Bo (G:PE X k tk)(J:PE X v tv)(O:PPs X pos ks vs trs):
  PPs X pos (some k::ks) (v::vs) ((tk,tv)::trs):=fun pins s σ H Q I h =>
 pairTrees_cons_walk (thn (G pins s σ H _ I h) fun u U ⟨x,H1,Y,rx,q1⟩=>thn (J pins U σ H1 _ Y q1) fun w2 s2 ⟨y,H2,I2,ry,q2⟩ =>
  thn (O pins s2 σ H2 _ I2 q2) fun ws s3 ⟨ps,H3,I3,B,q3⟩=>⟨(x,y)::ps,H3,I3,.cons ⟨rx,ry⟩ B,q3⟩)
def qC (kvs more:List (Key × V)):List (Key × V):=more.foldl (fun acc kv=>fI acc kv.1 kv.2) kvs
theorem KV.merge:∀ {B:List (Key × V)} {G:List (Key × Value)} {kvs:List (Key × V)} {vs:List (Key × Value)},KV B G→KV kvs vs→KV (qC kvs B) (merged vs G):=by
 intro B G kvs vs r;unfold KV at r
 induction r generalizing kvs vs with
 | nil=>intro q;exact q
 | @cons p q ps qs h t ih =>
  intro J;have e:KV (fI kvs p.1 p.2) (stored vs q.1 q.2):=by
   have:=J.put p.1 h.2
   rw[← h.1];exact this
  exact ih e
theorem kU:∀ (more kvs:List (Key × V)),(qC kvs more).length≤kvs.length + more.length
 | [],kvs=>by show kvs.length≤kvs.length + 0;simp
 | p::r,kvs=>by
  have h1:=kU r (fI kvs p.1 p.2);have h2:=fq kvs p.1 p.2;show (qC (fI kvs p.1 p.2) r).length≤_;rw[HX];lia
theorem qV:∀ {kvs:List (Key × V)} {ws:List (Value × Value)},VV (kvs.map fun G=>(kV G.1,G.2)) ws→∃ B,Carries (aT P w) ws B∧KV kvs B
 | [],_,r=>by rw[Ks]at r;cases r;exact⟨[],True.intro,.nil⟩
 | p::kvs,_,r=>by
  rw[Ig]at r;cases r with
  | @cons a b as bs h t =>
   obtain⟨B,c,q⟩:=qV (P:=P) (w:=w) t;obtain⟨O,J⟩:=b;exact⟨(p.1,J)::B,⟨gH h.1,rfl,c⟩,.cons ⟨rfl,h.2⟩ q⟩
def Eo (trs:List (TE × TE)):TE:=fun σ H Q=>∀ p,H p=none→wN trs σ (upd H p (.dK [])) fun ps H2=>H2 p=some (.dK [])∧∃ kvs:List (Key × V),ps=kvs.map (fun kv=>(kV kv.1,kv.2))∧kvs.length≤15∧Q (.ref p) (upd H2 p (.dK (qC [] kvs)))
theorem Dp (h:PPs X pos keys values trs)(B:keys.all (·.isSome)=true)(Y:keys.length=values.length)(h0:keys≠[])
  (J:keys.length≤15):PE X (.Dict keys values pos) (Eo trs):=by
 intro pins s σ H Q I q;have hn:=I.hok.fresh (Ht s.heap.objs.size);have I1:=I.laid (a:=s.heap.objs.size) (o:=.dK []) (h':=s.heap.push { cls:=.type "dict",data:=.dict #[] }) (t':=s.toks) (fun _ _ q=>Hq _ q) (Ht _) (we s.heap I.big)
 refine wpAny_Dict_walk (knd:=aT X.prog X.w) B Y h0 J (thn (h pins _ σ _ _ I1 (q _ hn)) fun ws s2 ⟨ps,H2,U,O,e,kvs,ep,lk,q2⟩ =>?_);subst ep;obtain⟨rs,c,rk⟩:=qV (P:=X.prog) (w:=X.w) O;obtain⟨z,hd,a0,r0,dd⟩:=EB U.hok e;cases r0;refine⟨rs,c,dd,fun h' G hs=>⟨.ref s.heap.objs.size,_,?_,rfl,q2⟩⟩;have hz:(qC [] kvs).length≤sizeLine:=by
  have h1:=kU kvs [];rw[KM]at h1;rw[sizeLine_eq];lia
 have he:∃ q,h'.get? s.heap.objs.size=some q:=let ⟨q,_,_,hq,_⟩:=G;⟨q,hq⟩
 exact pM U (by rw[e];exact True.intro) hs he (Ck hz hd (rk.merge .nil) G)
section
variable {pins:List (Addr × Obj)}{σ:St}{a:Addr}{y d:V}{u r:Value}{o:Option V}{E:Value→Shared→Prop}
end
section
variable {o e f:Expr}{apos cpos:Pos}{td ty tx:TE}
end
section
variable {pins:List (Addr × Obj)}{σ:St}{a:Addr}{kvs:List (Key × V)}{E:Value→Shared→Prop}
end
section
variable {pins:List (Addr × Obj)}{σ:St}{a:Addr}{y:V}{u:Value}{E:Value→Shared→Prop}
end
section
variable {κ:Type}[DecidableEq κ]
end
def Itg (n:Nat)(g:Nat→V):It:=⟨fun i _=>i < n,fun i H x H'=>H'=H∧x=g i,fun i _=>n≤i⟩
theorem nn {K:PySem.W.Frag}{St:Nat→Heap→Prop} 
  (W:∀ A:Around,A.handled=none→Walks P w A it [it] [it] n Pn St) (hv:∀ i v,Pn i v→bw (g i) v)
  (hk:∀ i h h',St i h→(∀ o,h.get? it=some o→h'.get? it=some o)→St i h')
  (B:∀ (A:Around) (i:Nat) (s:Shared) (Q:Value→Shared→Prop) (E:Value→Shared→Prop),St i s.heap→Q (.ref it) s→wpAny (model P w) A (pyIter (.ref it)) Q E s)
  (ho:∀ i h,St i h→∃ o c vs,h.get? it=some o∧o.cls=.type c∧o.data=.fields vs ∧
   ["enumerate","zip","dict_itemiterator","dict_reverseitemiterator","odict_iterator","itertools.zip_longest","itertools.pairwise"].contains c=false) :
  As P w K tg (Itg n g) [it] it (fun i h=>i≤n∧St i h) where
 mem:=by simp
 obj:=fun i h st b G=>by
  have e:b=it:=by simpa using G
  subst e;obtain⟨o,c,vs,e,_,d,_⟩:=ho i h st.2;exact⟨o,e,fun v z=>by rw[d]at z;cases z⟩
 keep:=fun i h h' st k=>⟨st.1,hk i h h' st.2 fun o e=>k it (by simp) o e⟩
 item:=by
  intro X J hw hK hc i pins s σ H E I Y st hg;subst J hw hK;obtain⟨f0,f1,f2,f3,f4,f5⟩:=Y it (by simp);refine (W X.A (I.ok.hd hc)).item i s _ _ hg st.2 fun v h' tk J O kk =>?_;have I1:Inv X pins σ H { s with heap:=h',toks:=tk }:=I.turned (fun b o G e=>kk b o (by simpa using G) e) f0 f1 f3 f4 f5;obtain⟨o,c,vs,e,U,d,hn⟩:=ho _ _ O;exact⟨v,rfl,vW (s:={ s with heap:=h',toks:=tk }) e U d hn ⟨g i,H,I1,hv i v J,⟨rfl,rfl⟩,⟨hg,O⟩,fun b G=>(Y b G).1⟩⟩
 done:=by
  intro X J hw hK hc i pins s σ H E I Y st hg;subst J hw hK;obtain⟨f0,f1,f2,f3,f4,f5⟩:=Y it (by simp);have hg':n≤i:=hg;have e:i=n:=Nat.le_antisymm st.1 hg';subst e;exact (W X.A (I.ok.hd hc)).done s _ _ st.2 fun h' tk kk=>⟨rfl,I.turned (fun b o G e=>kk b o (by simpa using G) e) f0 f1 f3 f4 f5⟩
 self:=fun A i s Q E st h=>B A i s Q E st.2 h
theorem fO {n:Nat}{g':Nat→V}{g:TG}{tb:TS}{D:uR}{σ:St}{H:Hp}(Pv:Nat→St→Hp→Prop)(J:Pv 0 σ H)
  (O:∀ i σ H,i < n→Pv i σ H→g (g' i) σ H fun B H2=>tb { D with nx:=Pv (i + 1),ct:=Pv (i + 1),bk:=D.nx } B H2) (U:∀ σ H,Pv n σ H→D.nx σ H) :
  ∃ W:Nat→Nat→St→Hp→Prop,(∃ m,W 0 m σ H)∧∀ i m σ H,W i m σ H →
   ((Itg n g').stop i H∧D.nx σ H)∨((Itg n g').go i H∧∃ N:St→Hp→Prop,(∀ G H',N G H'→∃ m',m' < m∧W (i + 1) m' G H')∧∀ x H',(Itg n g').yld i H x H'→g x σ H' fun B H2=>tb { D with nx:=N,ct:=N,bk:=D.nx } B H2):=by
 refine⟨fun i m σ H=>m=n - i∧i≤n∧Pv i σ H,⟨n,by simp,HE _,J⟩,?_⟩;rintro i m σ H ⟨rfl,hi,p⟩;by_cases hlt:i < n
 ·refine .inr ⟨hlt,Pv (i + 1),fun G H' Y=>⟨n - (i + 1),by lia,rfl,hlt,Y⟩,fun x H' y =>?_⟩;obtain⟨e,y⟩:=y;subst e y;exact O i σ _ hlt p
 ·have e:i=n:=by lia
  subst e;exact .inl ⟨Ht _,U σ H p⟩
section
variable {tg:Expr}
def sgn (z:Str)(i:Nat):Str:=⟨#[z.cps.getD i 0]⟩
abbrev Hd (tl:TE):TI:=fun σ H R=>tl σ H fun x H1=>∃ z,x=.str z∧R (Itg z.length fun i=>.str (sgn z i)) H1
theorem AO (h:SignAt z i v):bw (.str (sgn z i)) v:=by
 obtain⟨c,u,B,rfl⟩:=h;refine⟨u,?_⟩;have e:z.cps.getD i 0=c:=by simp[IF,B]
 unfold sgn;rw[e]
theorem nJ (U:PE X l tl):PI X tg l (Hd tl):=by
 intro pins s σ H R I h;refine thn (U pins s σ H _ I h) fun v B ⟨x,H1,G,Y,q1⟩ =>?_;obtain⟨z,e,q⟩:=q1;subst e;obtain⟨t,rfl⟩:=Y;have fp:∀ b∈[B.heap.objs.size],wG X pins H1 b:=fun b hb=>by
  have e:b=B.heap.objs.size:=by simpa using hb
  subst e;exact G.fpOk (Ht _) (G.hok.fresh (Ht _))
 cases ha:z.cps.all (· < 128)
 ·refine wpAny_pyIter_wide ha ?_;refine⟨B.heap.objs.size,[B.heap.objs.size],_,_,H1,rfl,G.kept (t':=B.toks) fun b o e=>Hq _ e,
   nn (St:=fun i h=>h.IsStrIter B.heap.objs.size "str_iterator" z t i) (fun A J=>Walks.strWide J _ z t) (fun i v=>AO) (fun i h h' st k=>let ⟨o,ho,r⟩:=st;⟨o,k o ho,r⟩) (fun A i s Q E st O=>wpAny_pyIter_striter_wide st O)
    (fun i h st=>let ⟨o,ho,hc,hd⟩:=st;⟨o,_,_,ho,hc,hd,by decide⟩),⟨HE _,⟨_,HQ _ rfl,rfl,rfl⟩⟩,fp,q⟩
 ·refine wpAny_pyIter_ascii ha ?_;refine⟨B.heap.objs.size,[B.heap.objs.size],_,_,H1,rfl,G.kept (t':=B.toks) fun b o e=>Hq _ e,
   nn (St:=fun i h=>h.IsStrIter B.heap.objs.size "str_ascii_iterator" z t i) (fun A J=>Walks.strAscii J _ z t) (fun i v=>AO) (fun i h h' st k=>let ⟨o,ho,r⟩:=st;⟨o,k o ho,r⟩) (fun A i s Q E st O=>wpAny_pyIter_striter_ascii st O)
    (fun i h st=>let ⟨o,ho,hc,hd⟩:=st;⟨o,_,_,ho,hc,hd,by decide⟩),⟨HE _,⟨_,HQ _ rfl,rfl,rfl⟩⟩,fp,q⟩
abbrev Gs (ta:TA):TI:=fun σ H R=>ta σ H fun vs H1=>∃ (i j c:Int) (n:Nat),vs=[.int i,.int j,.int c]∧c≠0∧(c < 1073741824∧-1073741824 < c)∧Builtin.Range.small i j c=true∧Builtin.Range.rangeSize i j c=(n:Int)∧R (Itg n fun k=>.int (i + (k:Int) * c)) H1
theorem kj (Y:Gl X "range")(hm:X.mg "range" = none)(ha:PA X [a,b,d] ta)
  (hs:starEach [a,b,d] X.env=(false,eval a X.env)::starEach [b,d] X.env:=by rfl) (J:(backTo pos (starEach [b,d] X.env)).any (·.1)=false:=by rfl) :
  PI X tg (.Call (.Name "range" p) [a,b,d] [] pos) (Gs ta):=by
 intro pins s σ H R I h;refine Call_ (nU I Y hm boot_range (PyProof.Rows.callWith_type1 (thn (ha pos pins s σ H _ I h) fun us G ⟨vs,H1,I1,r1,q1⟩ =>?_) hs J));obtain⟨i,j,c,n,e,hc,a0,O,hsz,q⟩:=q1;subst e;cases r1 with
 | cons r rr =>
  cases rr with
  | cons r' rr =>
   cases rr with
   | cons r'' rr =>
    cases rr;obtain⟨t,rfl⟩:=r;obtain⟨t',rfl⟩:=r';obtain⟨B,rfl⟩:=r'';refine call_range_3 hc ?_ (.inl (PyProof.noPylong_small (by lia)));refine wpAny_pyIter_range (IsRange.new ..) O ?_;have U:Inv X pins σ H1 { G with heap:=G.heap.push { cls:=.type "range",data:=.fields #[.int i t,.int j t',.int c B] } }:=I1.kept (t':=G.toks) fun b o e=>Hq _ e
    refine⟨(G.heap.push { cls:=.type "range",data:=.fields #[.int i t,.int j t',.int c B] }).objs.size,[(G.heap.push { cls:=.type "range",data:=.fields #[.int i t,.int j t',.int c B] }).objs.size],_,_,H1,rfl,
     U.kept (t':=G.toks) fun b o e=>Hq _ e,
     nn (g:=fun k=>.int (i + (k:Int) * c)) (fun A hA=>Walks.range hA _ i c n) (fun k v h=>let ⟨t,e⟩:=h;⟨t,e⟩) (fun i h h' st k=>k _ st) (fun A i s Q E st hQ=>wpAny_pyIter_rangeiter st hQ)
      (fun i h st=>⟨_,_,_,st,rfl,rfl,by decide⟩),⟨HE _,?_⟩,fun b hb =>?_,q⟩
    ·have e1:i + ((0:Nat):Int) * c=i:=by simp
     have e2:(n:Int) - ((0:Nat):Int)=Builtin.Range.rangeSize i j c:=by rw[hsz];simp
     show IsRangeIter _ _ (i + ((0:Nat):Int) * c) ((n:Int) - ((0:Nat):Int)) c;rw[e1,e2];exact HQ _ rfl
    ·have e:b=(G.heap.push { cls:=.type "range",data:=.fields #[.int i t,.int j t',.int c B] }).objs.size:=by simpa using hb
     subst e;exact U.fpOk (Ht _) (U.hok.fresh (Ht _))
end
section
theorem eu:gJ X (.type "int") (fun xs H Q=>∃ z n,xs=[.str z]∧PySem.intText? z=some n∧z.length≤640∧Q (.int n) H):=by
 intro pins s σ H xs us Q I r h;obtain⟨z,n,rfl,B,G,q⟩:=h;obtain⟨u,rfl,t,rfl⟩:=ju r;exact PySem.W.KIN.call_text B G ⟨.int n,H,I.tok _,⟨_,rfl⟩,q⟩
theorem pS:∀ {ys:List Str} {us:List Value},ba (ys.map V.str) us→StrsAre us ys
 | [],us,r=>by rw[Ks]at r;cases r;exact .nil
 | y::ys,us,r=>by
  rw[Ig]at r;cases r with
  | cons r1 r2 =>
   obtain⟨t,e⟩:=r1;subst e;exact .cons y t (pS r2)
def F4 (K:PySem.W.Frag):V→List V→Hp→VK→Prop:=fun x vs H Q=>∃ z a ys,x=.str z∧vs=[.ref a]∧SqL K H a (ys.map V.str)∧(ys.map (·.length)).sum + ys.length * z.length≤16777216∧Q (.str (Txt.join z ys)) H
theorem DC:MtR X "str.join" (F4 X.K):=by
 intro pins s σ H x vs v us Q I B G h;obtain⟨z,a,ys,rfl,rfl,J,O,q⟩:=h;obtain⟨t,rfl⟩:=B;obtain⟨u,rfl,U⟩:=G.one;cases U;obtain⟨its,r,Y,_⟩:=I.list J;exact join_list Y.isList (by simpa using pS r) O fun t' k=>⟨.str _,H,I.tok _,⟨_,rfl⟩,q⟩
def G0:V→Option Int→Option Int→Hp→VK→Prop:=fun x lo hi H Q=>∃ z,x=.str z∧z.length≤sizeLine∧Q (.str (Txt.slice z lo hi)) H
theorem iL:SlR X G0:=by
 intro pins s σ H x v vl vu lo hi sl Q I rx hs pl Y h;obtain⟨z,rfl,B,q⟩:=h;obtain⟨t,rfl⟩:=rx;refine⟨"str",_,F.slot_str_getitem.lookup,typeIs_str _ _ _,?_⟩
 obtain⟨o,G,J,O⟩:=hs;have fin:∀ (U:Str) (t':Tok) (k:Nat),U=Txt.slice z lo hi→EP X pins σ Q (.str U t') { s with toks:=k }:=fun U t' k e=>by
  subst e;exact⟨.str _,H,I.tok _,⟨_,rfl⟩,q⟩
 cases pl with
 | none =>
  cases Y with
  | none=>exact wpAny_getItem_str_slice (l:=none) (u:=none) (st:=none) ⟨o,G,J,O⟩ rfl (post_val_or_str ⟨H_ (Txt.slice_le z _ _) B,fun t' k=>fin _ t' k rfl⟩)
  | int j uj=>exact wpAny_getItem_str_slice (l:=none) (u:=some (j,uj)) (st:=none) ⟨o,G,J,O⟩ rfl (post_val_or_str ⟨H_ (Txt.slice_le z _ _) B,fun t' k=>fin _ t' k rfl⟩)
 | int i ui =>
  cases Y with
  | none=>exact wpAny_getItem_str_slice (l:=some (i,ui)) (u:=none) (st:=none) ⟨o,G,J,O⟩ rfl (post_val_or_str ⟨H_ (Txt.slice_le z _ _) B,fun t' k=>fin _ t' k rfl⟩)
  | int j uj=>exact wpAny_getItem_str_slice (l:=some (i,ui)) (u:=some (j,uj)) (st:=none) ⟨o,G,J,O⟩ rfl (post_val_or_str ⟨H_ (Txt.slice_le z _ _) B,fun t' k=>fin _ t' k rfl⟩)
def F8 (K:PySem.W.Frag)(T:String):List V→Hp→VK→Prop:=fun xs H Q=>∃ x t b,xs=[x,.ty T]∧kG K H x t∧PySem.W.kitOne K t (.type T)=some b∧Q (.bl b) H
theorem bW (T:String):gJ X (.builtin "isinstance") (F8 X.K T):=by
 intro pins s σ H xs us Q I r h;obtain⟨x,t,b,rfl,ty,B,q⟩:=h;obtain⟨u,c,rfl,G,J⟩:=kH r;cases (show c=.type T from J);exact Ac I G ty B fun tk=>⟨.bl b,H,I.tok _,rfl,q⟩
end
section
variable {w:World}{R:Result→Shared→Prop}
def AG (ifs:List Expr)(env:Env):Sem Bool:=forIn ifs true fun c r=>if r=true then do
  let ok ← isTrue c env (eval c env)
  pure (ForInStep.yield ok)
 else pure (ForInStep.yield r)
theorem wp (I:Nat→Shared→Prop)
  (turn:∀ n s,I n s→wpAny (model prog w) A (pyNext it) (fun r J=>match r with
   | none=>R (.ok .next) J
   | some v=>wpAny (model prog w) A (letOwnedTupleGo target it v) (fun _ O=>wpAny (model prog w) A (assign target env v) (fun _ U =>
     wpAny (model prog w) A (AG ifs env) (fun ok B=>if ok=true then
     wpAny (model prog w) A (eval elt env) (fun x B =>
      wpAny (model prog w) A (call (.builtin "list.append") [acc,x]) (fun _ Y=>∃ m,m < n∧I m Y) (notedBy (model prog w) A env fun e s'=>R (.error e) s') B) (notedBy (model prog w) A env fun e s'=>R (.error e) s') B
     else ∃ m,m < n∧I m B) (notedBy (model prog w) A env fun e s'=>R (.error e) s') U)
     (notedBy (model prog w) A env fun e s'=>R (.error e) s') O) (notedBy (model prog w) A env fun e s'=>R (.error e) s') J) (notedBy (model prog w) A env fun e s'=>R (.error e) s') s)
  (n:Nat) (h:I n s) :
  codeAny (model prog w) A (.compLoop (.ListComp elt [⟨target,iter,ifs,0⟩] scope pos) 0 it acc env) R s:=by
 refine codeAny_loop rfl I (fun n s hI =>?_) n h;show wpAny _ A ((compTurn (.ListComp elt [⟨target,iter,ifs,0⟩] scope pos) 0 it acc env).onRaise (fun x=>do noteFrame x env;theTreesLotGoes x)) _ _ s;refine wpAny_noted ?_;rw[compTurn_list];refine Ho (wpAny_standAt (Ho (IJ (turn n s hI) (fun r J h1 =>?_) fun _ _ h'=>h')));cases r with
 | none=>exact HJ h1
 | some v =>
  refine Ho (IJ h1 (fun _ O h2=>Ho (IJ h2 (fun _ U h3 =>?_) fun _ _ h'=>h')) fun _ _ h'=>h');refine Ho (IJ h3 (fun ok B G =>?_) fun _ _ h'=>h');cases ok with
  | false=>exact HJ ⟨rfl,G⟩
  | true =>
   exact Ho (Ho (IJ G (fun x B G=>Ho (IJ G (fun _ Y h5=>HJ (HJ ⟨rfl,h5⟩)) fun _ _ h'=>h')) fun _ _ h'=>h'))
end
section
variable {elt tg iter:Expr}{scope:Scope}{N':List Str}{wi:TI}{g:TG}{te:TE}
end
section
theorem ot:∀ {bs:List Bool} {us:List Value},ba (bs.map V.bl) us→LSm.BoolsAre us bs
 | [],us,r=>by rw[Ks]at r;cases r;exact .nil
 | b::bs,us,r=>by
  rw[Ig]at r;cases r with
  | cons r1 r2 =>
   cases (show _=Value.bool b from r1);exact .cons b (ot r2)
theorem Cv (U:X.calm=true):gJ X (.builtin "all") (fun xs H Q=>∃ (a:Addr) (bs:List Bool),xs=[.ref a]∧SqL X.K H a (bs.map V.bl)∧Q (.bl (bs.all id)) H):=by
 intro pins s σ H xs us Q I r h;obtain⟨a,bs,rfl,Y,q⟩:=h;obtain⟨u,rfl,ru⟩:=ju r;cases ru;obtain⟨its,rv,B,_⟩:=I.list Y;have J:=ot rv;have G:a < s.heap.objs.size:=by obtain⟨_,e,_⟩:=B.isList;exact HL e
 refine call_all_walk (wpAny_pyIter_list B.isList ?_);refine⟨s.heap.objs.size,[s.heap.objs.size,a],[s.heap.objs.size],its.toArray.size,_,_,fun i=>(bs[i]?).getD true,rfl,Walks.list (A:=X.A.in1) (I.ok.hd U) _ a (Ik G) its.toArray,
  ⟨⟨_,HQ _ rfl,rfl,rfl⟩,B.isList.push _⟩,fun i v s' Q' E' hP O =>?_,fun h' tk hk =>?_⟩
 ·obtain⟨b,e,rfl⟩:=J.get i v (by simpa using hP);simp only[e,Option.getD_some]at O;exact wpAny_truthy_bool O
 ·have e:((List.range its.toArray.size).all fun i=>(bs[i]?).getD true)=bs.all id:=by
   rw[HV,J.length];exact LSm.range_all bs
  rw[e];exact⟨.bl _,H,I.kept (LSm.kept_iter hk),rfl,q⟩
theorem BO:MtR X "str.index" (fun x vs H Q=>∃ z y i rest,x=.str z∧vs=[.str y]∧Builtin.Str.occurrences z y 0 z.length 1=i::rest∧Q (.int (i:Nat)) H):=by
 intro pins s σ H x vs v us Q I B G h;obtain⟨z,y,i,rest,rfl,rfl,J,q⟩:=h;obtain⟨t,rfl⟩:=B;obtain⟨u,rfl,O,rfl⟩:=G.one;exact SC.index J ⟨.int _,H,I.tok _,⟨_,rfl⟩,q⟩
end
def bZ (CX:CXT):Prop:=∀ outer H s e s',CX outer H s E0 e s'→False
theorem F_ (q:bZ CX):q9 CX X E0:=fun _ _ _ _ _ _ _ h=>(q _ _ _ _ _ h).elim
structure Fok (P:Program)(w:World)(K:PySem.W.Frag)(mg:Str→Option Value)(base:Heap)(CX:CXT)(j:Nat)(x:Str)(ps:List Str)(dvs:List V)(sp:Sp):Prop where
 ex:∃ f fd ds,bA P w K mg base CX j f fd ps sp∧eF K fd ps ds∧ba dvs ds∧PySem.W.keepIn K (.ref f)=true∧mg x=some (.ref f)
section
variable {CX:CXT}{j k:Nat}{ps:List Str}{sp:Sp}{dvs:List V}{E:XK}{x:Str}{p:Pos}{e:Expr}{es:List Expr}{t:TA}
theorem qv (F:Fok X.prog X.w X.K X.mg X.base CX j x ps dvs sp)(O:cY k X.A)(U:q9 CX X E)(Y:PA X (e::es) t)(hj:j≤k:=by decide)(hg:Gl X x:=by rfl)
  (B:(x == ("__debug__" : Str))=false:=by decide) (he:starEach (e::es) X.env=(false,eval e X.env)::starEach es X.env:=by rfl) (J:(backTo pos (starEach es X.env)).any (·.1)=false:=by rfl) :
  PE X (.Call (.Name x p) (e::es) [] pos) (AL sp dvs E t):=by
 obtain⟨f,fd,ds,G,b,v,kp,m⟩:=F.ex;exact Dq G (O.mono hj) hg m kp b v U Y B he J
theorem aj (F:Fok X.prog X.w X.K X.mg X.base CX j x ps dvs sp)(q:bZ CX)(J:cY k X.A)(O:PA X (e::es) t)(hj:j≤k:=by decide)(U:Gl X x:=by rfl)
  (B:(x == ("__debug__" : Str))=false:=by decide) (Y:starEach (e::es) X.env=(false,eval e X.env)::starEach es X.env:=by rfl) (G:(backTo pos (starEach es X.env)).any (·.1)=false:=by rfl) :
  PE X (.Call (.Name x p) (e::es) [] pos) (AL sp dvs E0 t):=qv F J (F_ q) O hj U B Y G
end
section
variable {P:Program}{w:World}{mg:Str→Option Value}{base:Heap}
structure bu (K:PySem.W.Frag)(x qual:Str)(st:Stmt)(f:Addr)(fd:FuncData)(dV:Value):Prop where
 ex:∃ (oc:Value) (od:Option Addr) (kV doc pm:Value) (an:Option Addr) (cdv ct:Value) (osl:Array (Option Value)),
  fd=PySem.W.fnOf x qual (b_ st) (bO st) (aq st) dV kV doc pm an cdv ct∧K.lookup f=some ⟨oc,od,.func fd,osl⟩∧PySem.W.codeIn K cdv qual=true
 kp:PySem.W.keepIn K (.ref f)=true
theorem pE {x qual:Str}{st:Stmt}{f:Addr}{Y:Value}{od J:Option Addr}{G:Array (Option Value)}{O kV doc U B ct:Value}(l:K.lookup f=some ⟨Y,od,.func (PySem.W.fnOf x qual (b_ st) (bO st) (aq st) O kV doc U J B ct),G⟩)
  (c:PySem.W.codeIn K B qual=true) (k:PySem.W.keepIn K (.ref f)=true):bu K x qual st f (PySem.W.fnOf x qual (b_ st) (bO st) (aq st) O kV doc U J B ct) O:=⟨⟨Y,od,kV,doc,U,J,B,ct,G,rfl,l,c⟩,k⟩
theorem bu.ok {st:Stmt}(F:bu K x qual st f fd dV)(S:aE N ps (aq st))(len:∀ vs H Q E,sp vs H Q E→vs.length=ps.length)
  (G:∀ (B:Value) (A:Around) (outer:List Env) (s:Shared) (H:Hp) (vs:List V) (Q:VK) (E:XK),cY k (A.deeper (envOfC qual (aq st) s.heap.objs.size f B))→sp vs H Q E →
   ∃ t,PSs (i5 CX P w K mg base N qual (aq st) f B A outer s H E).nox (bO st) t∧t { nx:=fun _ H'=>Q .non H',rt:=Q } (start N vs) H):bA P w K mg base CX (k + 1) f fd ps sp:=by
 obtain⟨oc,od,kV,doc,pm,an,B,ct,U,rfl,Y,J⟩:=F.ex;refine B9 Y J S len fun A outer s H vs Q E hr O =>?_;obtain⟨t,h,q⟩:=G B A outer s H vs Q E hr O;exact⟨t,h.nox,q⟩
theorem bu.okX {st:Stmt}(F:bu K x qual st f fd dV)(S:aE N ps (aq st))(len:∀ vs H Q E,sp vs H Q E→vs.length=ps.length)
  (G:∀ (B:Value) (A:Around) (outer:List Env) (s:Shared) (H:Hp) (vs:List V) (Q:VK) (E:XK),cY k (A.deeper (envOfC qual (aq st) s.heap.objs.size f B))→sp vs H Q E →
   ∃ t,PSs (i5 CX P w K mg base N qual (aq st) f B A outer s H E) (bO st) t∧t { nx:=fun _ H'=>Q .non H',rt:=Q } (start N vs) H):bA P w K mg base CX (k + 1) f fd ps sp:=by
 obtain⟨oc,od,kV,doc,pm,an,B,ct,U,rfl,Y,J⟩:=F.ex;exact B9 Y J S len fun A outer s H vs Q E hr O=>G B A outer s H vs Q E hr O
theorem bu.binds {st:Stmt}(F:bu K x qual st f fd dV)
  (h:∀ (kV doc G:Value) (J:Option Addr) (B ct:Value) (us:List Value),us.length=ps.length→bindArgs (PySem.W.fnOf x qual (b_ st) (bO st) (aq st) dV kV doc G J B ct) ⟨us,[]⟩=pure (ps.zip us)):eF K fd ps []:=by
 obtain⟨Y,od,kV,doc,G,J,B,ct,O,rfl,lk,U⟩:=F.ex;exact .all (h kV doc G J B ct)
theorem bu.bindsD {st:Stmt}(F:bu K x qual st f fd (.ref t))(O:K.lookup t=some o)(U:o.data=.seq items n)
  (h:∀ (kV doc G:Value) (J:Option Addr) (B ct:Value) (us:List Value),(us++ds).length=ps.length →
   ∃ k,bindArgs (PySem.W.fnOf x qual (b_ st) (bO st) (aq st) (.ref t) kV doc G J B ct) ⟨us,[]⟩=seqItems? (.ref t) >>= k∧k (some items)=pure (ps.zip (us++ds))):eF K fd ps ds:=by
 obtain⟨oc,od,kV,doc,G,J,B,ct,Y,rfl,lk,a0⟩:=F.ex;intro s us X hl;obtain⟨k,h1,h2⟩:=h kV doc G J B ct us hl;exact BindsTo.of_defaults rfl (X _ _ O) U h1 h2
theorem fok {st:Stmt}(F:bu K x qual st f fd dV)(G:bA P w K mg base CX j f fd ps sp)(b:eF K fd ps [])(m:mg x=some (.ref f)):
  Fok P w K mg base CX j x ps [] sp:=⟨f,fd,[],G,b,.nil,F.kp,m⟩
theorem Hg {st:Stmt}(F:bu K x qual st f fd dV)(G:bA P w K mg base CX j f fd ps sp)(b:eF K fd ps ds)(v:ba dvs ds)(m:mg x=some (.ref f)):
  Fok P w K mg base CX j x ps dvs sp:=⟨f,fd,ds,G,b,v,F.kp,m⟩
end
section
def EG (i j:Int):Prop:=0 < j∧j < 2 ^ 1000
def wZ:R2:=fun x y H Q=>of2 (fun i j=>EG i j∧Q (.int (i / j)) H) x y
theorem aJ:OpR X (binaryOp .FloorDiv) wZ:=opI fun i j _ _ _ _ _ B q=>by
 have h1:(0:Int) < j:=B.1;have h2:j < 2 ^ 1000:=B.2;refine floordiv_int (by lia) (by rw[Int.fdiv_eq_ediv_of_nonneg i (by lia)];exact q) (.inl (PyProof.noPylong_of_log2 ?_));have e:j.natAbs.log2 < 1000:=by
  refine (Nat.log2_lt (by lia)).mpr ?_;have G:((j.natAbs:Nat):Int)=j:=by lia
  have J:((2 ^ 1000:Nat):Int)=(2:Int) ^ 1000:=by rw[Int.natCast_pow];rfl
  lia
 lia
theorem ci (B:0 < j)(h1:j < 1000000000000000000000000):EG i j:=⟨B,Int.lt_trans h1 (by decide +kernel)⟩
end
theorem eA:bootBuiltins "int" = some (.type "int"):=by decide +kernel
theorem xM:bootBuiltins "str" = some (.type "str"):=by decide +kernel
theorem yZ:bootBuiltins "bool" = some (.type "bool"):=by decide +kernel
theorem yX:bootBuiltins "list" = some (.type "list"):=by decide +kernel
theorem gI:bootBuiltins "tuple" = some (.type "tuple"):=by decide +kernel
theorem yY:bootBuiltins "dict" = some (.type "dict"):=by decide +kernel
theorem aU:bootBuiltins "isinstance" = some (.builtin "isinstance"):=by decide +kernel
theorem lZ:bootBuiltins "max" = some (.builtin "max"):=by decide +kernel
theorem lY:bootBuiltins "min" = some (.builtin "min"):=by decide +kernel
theorem FG:bootBuiltins "all" = some (.builtin "all"):=by decide +kernel
theorem cR:bootBuiltins "len" = some (.builtin "len"):=by decide +kernel
theorem Cy:bootBuiltins "abs" = some (.builtin "abs"):=by decide +kernel
section
theorem BZ:PySem.W.kitOne K (.type "int") (.type "int")=some true:=by kernel_rfl
theorem B0:PySem.W.kitOne K (.type "int") (.type "bool")=some false:=by kernel_rfl
theorem Fj:PySem.W.kitOne K (.type "str") (.type "str")=some true:=by kernel_rfl
theorem Fk:PySem.W.kitOne K (.type "bool") (.type "int")=some true:=by kernel_rfl
theorem Fl:PySem.W.kitOne K (.type "bool") (.type "bool")=some true:=by kernel_rfl
theorem lU:PySem.W.kitOne K (.type "tuple") (.type "tuple")=some true:=by kernel_rfl
end
section
variable {w:World}{E:Value→Shared→Prop}
end
section
variable {w:World}{E:Value→Shared→Prop}
end
section
variable {pins:List (Addr × Obj)}{σ:St}{h':Heap}
end
section
end
def KTu (K:PySem.W.Frag)(a:Addr)(xs:List V):Prop:=∃ (o:Obj) (its:Array Value) (n:Nat),K.lookup a=some o∧o.cls=.type "tuple" ∧ o.data=.seq its n∧its.size≤sizeLine∧ba xs its.toList
theorem KTu.sq {K:PySem.W.Frag}(h:KTu K a xs):SqT K H a xs:=.inr h
def KD (P:Program)(w:World)(K:PySem.W.Frag)(a:Addr)(kvs:List (Key × V)):Prop:=∃ (o:Obj) (vs:List (Key × Value)),K.lookup a=some o∧KV kvs vs∧o.IsDictOf (aT P w) vs
abbrev FW (P:Program)(w:World)(K:PySem.W.Frag)(td ty:TE):TE:=fun σ H Q=>td σ H fun x H1=>ty σ H1 fun y H2=>∃ a kvs k v,x=.ref a∧y=kV k∧KD P w K a kvs∧cm kvs k=some v∧Q v H2
theorem ym (U:PE X o td)(hi:PE X i ty)(Y:Ei i):PE X (.Subscript o i pos) (FW X.prog X.w X.K td ty):=by
 intro pins s σ H Q I h;refine sX PySem.F.slot_dict_getitem.lookup Y (thn (U pins s σ H _ I h) fun u s1 ⟨x,H1,I1,rx,q1⟩=>thn (hi pins s1 σ H1 _ I1 q1) fun iv s2 ⟨y,H2,J,ry,a,kvs,k,v,ex,ey,kd,l,q2⟩ =>?_);subst ex ey;obtain rfl:u=Value.ref a:=rx;obtain⟨O,vs,hk,B,dd⟩:=kd;have dd':s2.heap.DictOf (aT X.prog X.w) a vs:=Heap.dictOf_iff.mpr ⟨O,J.kIn a O hk,dd⟩;obtain⟨w',hw,G⟩:=oN.some_of (v:=v) (o:=valueAt vs k) (by rw[← l];exact B.val k);exact⟨dd'.typeIs,wpAny_getItem_of (gH ry) dd'.mapOf hw ⟨v,H2,J.tok _,G,q2⟩⟩
def Tr3 (h base:Heap)(e:Addr)(cls a0 fl:Value):Prop :=
 ∃ oe vs T oT ts,h.get? e=some oe∧(oe.cls=cls∧vs[0]? = some a0∧vs[2]? = some .none)∧oe.data=.fields vs∧vs[1]? = some (.ref T)∧base.get? T=none∧T≠e∧h.get? T=some oT∧oT.data=.fields ts∧ts[3]? = some fl
def On3 (base:Heap)(l:List Env)(e:Addr)(cls a0 fl:Value)(h:Heap):Prop:=base.StaysIn h∧base.get? e=none∧h.FunFrames base l∧Tr3 h base e cls a0 fl
section
variable {M:Model}{E:Value→Shared→Prop}{base:Heap}{env:Env}{outer l:List Env}{L e:Addr}{cls a0 fl:Value}{Q:Unit→Shared→Prop}
theorem C6 (G:s.heap.FunFrames base l)(J:s.heap.get? b=some o)(O:o.data=.fields vs):b∉l.filterMap (·.frame):=fun m=>by
 obtain⟨_,o',B,U⟩:=G.mem m;cases J.symm.trans B;exact U vs O
theorem On3.poke (st:base.StaysIn h)(O:h.FunFrames base l)(U:h.get? T=some oT)(dT:oT.data=.fields ts)(Y:base.get? T=none)(G:∀ b,b≠T→h'.get? b=h.get? b):
  base.StaysIn h'∧h'.FunFrames base l∧∀ b o,h.get? b=some o→(∀ vs,o.data≠.fields vs)→h'.get? b=some o:=by
 have k:∀ b o,h.get? b=some o→(∀ vs,o.data≠.fields vs)→h'.get? b=some o:=fun b o B J=>(G b fun q=>by subst q;cases B.symm.trans U;exact J ts dT).trans B;exact⟨fun b o B=>(G b fun q=>by subst q;rw[Y]at B;cases B).trans (st b o B),O.of_keeps fun b o B J=>⟨o,k b o B J,rfl⟩,k⟩
theorem Gd (f:On3 base l e cls a0 fl s.heap)(q:∀ h',On3 base l e cls a0 .none h'→s.heap.UpToSlots h'→Q () { s with heap:=h' }):wpAny M A (setFlight (.ref e) none) Q E s:=by
 obtain⟨st,ne,fr,oe,vs,T,oT,ts,J,hc,O,h1,U,Y,B,dT,h3⟩:=f;have lt:=(Ja.mp h3).1;unfold setFlight;refine Ho (wpAny_field J O h1 ?_);rw[if_pos (by simp)];refine wpAny_setField B dT lt ?_;obtain⟨a1,a2,a3⟩:=On3.poke st fr B dT U (h':=s.heap.update T (Obj.mapFields (·.setIfInBounds 3 ((none:Option Addr).elim Value.none fun f=>rawInt f)))) fun b G=>HY _ _ (Ne.symm G);exact q _ ⟨a1,ne,a2,oe,vs,T,_,_,(HY _ _ Y).trans J,hc,O,h1,U,Y,Kh _ B (Obj.isFreed_of_fields (Obj.data_mapFields dT _)),Obj.data_mapFields dT _,by simp[lt]⟩ fun b o G nf=>⟨o.slots,a3 b o G nf⟩
theorem Cg (a1:A.frames=some (env::outer))(hf:env.frame=some L)(st:base.StaysIn s.heap)(ne:base.get? e=none)(U:s.heap.FunFrames base (env::outer))
  (he:s.heap.get? e=some oe) (Y:oe.data=.fields vs) (lt:1 < vs.size) (hc:oe.cls=cls∧vs[0]? = some a0∧vs[2]? = some .none) (q:∀ h',On3 base (env::outer) e cls a0 (rawInt L) h'→s.heap.UpToSlots h'→Q () { s with heap:=h' }) :
  wpAny M A (do let a ← frameOf env;let O ← entryPlaceOf L had;let b ← EntryCells.newEntry head a .none (rawInt L) .none O;setField (.ref e) 1 b) Q E s:=by
 have out:=C6 U he Y;refine Ho (wpAny_frameOf_fun a1 U hf fun g sl=>Ho (wpAny_entryPlaceOf fun O hp =>?_));unfold EntryCells.newEntry newFields;refine Ho (wpAny_newObj_type ?_ (hp.sizeOk5 _ _ _ _ _));have g1:g.get? e=some oe:=(sl.2.1 e out).trans he;have g2:base.StaysIn g:=fun b o B=>(sl.2.1 b fun m=>by rw[(U.mem m).1]at B;cases B).trans (st b o B);obtain⟨N,eN⟩:∃ N:Obj,N={ cls:=.type "traceback",dict:=none,data:=.fields ([head,.ref L,.none,rawInt L,.none]++(if O.isEmpty then List.replicate 6 Value.none else O)).toArray }:=⟨_,rfl⟩
 have dN:N.data=.fields ([head,.ref L,.none,rawInt L,.none]++(if O.isEmpty then List.replicate 6 Value.none else O)).toArray:=by rw[eN]
 have gN:(g.push N).get? g.objs.size=some N:=HQ g (by rw[eN];rfl);have g3:(g.push N).get? e=some oe:=Hq N g1;have Te:g.objs.size≠e:=Jo (HL g1);rw[← eN];refine wpAny_setField g3 Y lt (q _ ?_ ?_)
 all_goals
  have J:∀ b,b≠e→((g.push N).update e (Obj.mapFields (·.setIfInBounds 1 (Value.ref g.objs.size)))).get? b=(g.push N).get? b:=fun b B=>HY _ _ (Ne.symm B);have hk:∀ b o,s.heap.get? b=some o→(∀ vs,o.data≠.fields vs)→∃ G,((g.push N).update e (Obj.mapFields (·.setIfInBounds 1 (Value.ref g.objs.size)))).get? b=some { o with slots:=G }:=fun b o B nf=>by
   obtain⟨G,e1⟩:=sl.2.2 b o B;exact⟨G,(J b fun z=>by subst z;cases B.symm.trans he;exact nf vs Y).trans (Hq N e1)⟩
 ·have d3:=Obj.data_mapFields Y (·.setIfInBounds 1 (Value.ref g.objs.size));refine⟨fun b o B=>(J b fun z=>by subst z;rw[ne]at B;cases B).trans (Hq N (g2 b o B)),ne,U.of_keeps fun b o B nf =>?_,_,_,g.objs.size,N,_,Kh _ g3 (Obj.isFreed_of_fields d3),⟨?_,?_,?_⟩,d3,by simp[lt],g2.fresh,Te,(J _ Te).trans gN,dN,by rfl⟩
  ·obtain⟨G,e1⟩:=hk b o B nf;exact⟨_,e1,rfl⟩
  ·exact (Obj.cls_mapFields _ _).trans hc.1
  ·rw[Kc (by decide)];exact hc.2.1
  ·rw[Kc (by decide)];exact hc.2.2
 ·exact hk
theorem Gg (B:A.frames=some (env::outer))(O:env.frame=some L)(f:On3 base (env::outer) e cls a0 .none s.heap)(q:∀ h',On3 base (env::outer) e cls a0 (rawInt L) h'→s.heap.UpToSlots h'→Q () { s with heap:=h' }):
  wpAny M A (noteFrame (.ref e) env) Q E s:=by
 obtain⟨st,ne,fr,oe,vs,T,oT,ts,U,hc,Y,h1,nT,Te,G,dT,h3⟩:=f;unfold noteFrame;simp only[O];refine Ho (wpAny_field U Y h1 ?_);rw[if_pos (by simp)];refine Ho (wpAny_field G dT h3 ?_);rw[if_neg (by simp[rawInt])];refine Ho (wpAny_setField G dT (Ja.mp h3).1 ?_);obtain⟨a1,a2,a3⟩:=On3.poke st fr G dT nT (h':=s.heap.update T (Obj.mapFields (·.setIfInBounds 3 Value.none))) fun b J=>HY _ _ (Ne.symm J);exact Cg B O a1 ne a2 ((HY _ _ Te).trans U) Y (Ja.mp h1).1 hc fun h' o u=>q h' o fun b o' J nf=>u b o' (a3 b o' J nf) nf
theorem Fg (B:A.frames=some (env::outer))(G:env.frame=some L)(f:On3 base (env::outer) e cls a0 .none s.heap)(q:∀ h',On3 base outer e cls a0 .none h'→s.heap.UpToSlots h'→Q () { s with heap:=h' }):
  wpAny M A (leaving env (.ref e)) Q E s:=by
 unfold leaving;refine Ho (Gg B G f fun h1 J O=>Gd J fun h2 U Y =>?_);obtain⟨b1,b2,⟨_,_,b3⟩,b4⟩:=U;exact q h2 ⟨b1,b2,b3,b4⟩ (O.trans Y)
theorem Gf (G:A.frames=some (env::outer))(O:env.frame=some L)(st:base.StaysIn h)(Y:h.FunFrames base (env::outer))(B:Heap.MadeExcOf h s.heap e cls args)
  (q:∀ h' a0,On3 base outer e cls a0 .none h'→s.heap.UpToSlots h'→Q () { s with heap:=h' }):wpAny M A (leaving env (.ref e)) Q E s:=by
 obtain⟨t,U,tn,ht⟩:=B.there;have ne:base.get? e=none:=by
  cases z:base.get? e with
  | none=>rfl
  | some o=>have:=st e o z;rw[B.new]at this;cases this
 unfold leaving noteFrame;simp only[O];refine Ho (Ho (wpAny_field U rfl (x:=Value.none) rfl ?_));rw[if_neg (by decide)];refine Cg G O (fun b o J=>B.keeps b o (st b o J)) ne (Y.of_keeps fun b o J _=>⟨o,B.keeps b o J,rfl⟩) U rfl (by simp) ⟨rfl,rfl,rfl⟩ fun h1 o1 u1=>Gd o1 fun h2 o2 u2 =>?_;obtain⟨b1,b2,⟨_,_,b3⟩,b4⟩:=o2;exact q h2 _ ⟨b1,b2,b3,b4⟩ (u1.trans u2)
end
theorem bF.there (x:bF P w H h a o):∃ u,h.get? a=some u:=by
 cases o with
 | lst xs=>obtain⟨_,_,_,_,e⟩:=x;exact⟨_,e⟩
 | tup xs=>obtain⟨_,_,_,o,e,_⟩:=x;exact⟨_,e⟩
 | dK kvs=>obtain⟨_,_,_,_,o,_,_,e,_⟩:=x;exact⟨_,e⟩
 | dT kvs=>obtain⟨_,_,_,_,o,_,_,e,_⟩:=x;exact⟨_,e⟩
 | set S n=>obtain⟨o,_,_,_,e,_⟩:=x;exact⟨_,e⟩
 | ins C dx fs=>obtain⟨_,_,_,e,_⟩:=x;exact⟨_,e⟩
 | own y=>exact x
 | xd fs=>obtain⟨_,⟨_,_,_,e,_⟩,_⟩:=x;exact⟨_,e⟩
 | rng lo hi=>obtain⟨_,_,_,e⟩:=x;exact⟨_,e⟩
 | frz ob u=>obtain⟨e,_⟩:=x;exact⟨_,e⟩
 | tbl ps=>exact⟨_,(show h.get? a=some _ from x)⟩
 | met f y=>exact⟨_,(show h.get? a=some _ from x)⟩
 | ext φ=>obtain⟨_,e,_⟩:=x;exact e
theorem HOk.not (x:HOk P w H h)(e:h.get? a=none):H a=none:=by
 cases q:H a with
 | none=>rfl
 | some o =>
  obtain⟨u,z⟩:=(x a o q).there;rw[e]at z;cases z
structure Fly (h0:Heap)(H:Hp)(h:Heap)(e:Addr)(cls:Value):Prop where
 ex:∃ oe vs a0 T oT ts,h.get? e=some oe∧(oe.cls=cls∧vs[0]? = some a0∧vs[2]? = some .none)∧oe.data=.fields vs∧vs[1]? = some (.ref T)∧(h0.get? T=none∧H T=none)∧T≠e∧h.get? T=some oT∧oT.data=.fields ts∧ts[3]? = some .none
 new:h0.get? e=none
 un:H e=none
def CXe (P:Program)(w:World):CXT:=fun outer H s E ev s'=>∃ e cls H',ev=.ref e∧s'.os=s.os∧AllBare s'.gens∧Un (frs outer) [] H H' s.heap s'.heap∧HOk P w H' s'.heap∧Fly s.heap H' s'.heap e cls∧E cls none H'
theorem bq:bZ (CXe P w):=fun _ _ _ _ _ ⟨_,_,_,_,_,_,_,_,_,h⟩=>h
theorem wW {h b B:Heap}:∀ {l:List Env},h.FunFrames b l→(∀ a∈frs l,B.get? a=none)→h.FunFrames B l
 | [],_,_=>trivial
 | env::r,⟨hk,⟨L,o,hf,hn,ho,hd⟩,hr⟩,k=>by
  have e:frs (env::r)=L::frs r:=by unfold frs;rw[JT,hf]
  rw[e]at k;exact⟨hk,⟨L,o,hf,k L HP,ho,hd⟩,wW hr fun a G=>k a (HF _ G)⟩
abbrev less (h:Heap)(l:List Addr):Heap:=PySem.W.hideAll h l
theorem qG (h:Heap)(l:List Addr):(less h l).StaysIn h:=fun _ _ e=>PySem.W.of_hideAll l e
section
variable {P:Program}{w:World}{H':Hp}{h h' h'' bs:Heap}{l:List Env}{hid:List Addr}
theorem xT (u:Un (frs l) [] H H' h h')(ok:HOk P w H' h')(fr:h'.FunFrames bs l)(Y:∀ b∈frs l,H' b=none)(hh:∀ b∈hid,h.get? b=none∧H' b=none)
  (st:(less h' (hid++frs l)).StaysIn h'') (up:h'.UpToSlots h''):Un (frs l) [] H H' h h''∧HOk P w H' h'':=by
 have kp:∀ b o,h'.get? b=some o→b∉hid→b∉frs l→h''.get? b=some o:=fun b o e n1 n2=>st b o (PySem.W.hideAll_get _ e fun z=>(HD.mp z).elim n1 n2);have nh:∀ b o,h.get? b=some o→b∉hid:=fun b o e z=>by rw[(hh b z).1]at e;cases e
 have fs:∀ b o,h'.get? b=some o→b∈frs l→∃ sl,h''.get? b=some { o with slots:=sl }:=fun b o e B=>by
  obtain⟨_,o',e',nf⟩:=fr.mem B;rw[e]at e';cases e';exact up b o e nf
 refine⟨⟨fun b o e n B J=>kp b o (u.keep b o e n B J) (nh b o e) B,fun b o e n B J =>?_,u.free,fun b o e J =>?_,u.tups,u.frzs,u.tbls⟩,fun a o e =>?_⟩
 ·obtain⟨sl,U⟩:=u.slot b o e n B J;obtain⟨O,e2⟩:=fs b _ U B;exact⟨O,e2⟩
 ·obtain⟨o',U⟩:=u.there b o e J;by_cases B:b∈frs l
  ·obtain⟨O,e2⟩:=fs b _ U B;exact⟨_,e2⟩
  ·exact⟨o',kp b o' U (nh b o e) B⟩
 ·refine (ok a o e).stay (fun b v B q =>?_) (fun _ q=>q) fun _ _ q=>q;have G:∃ v,H' b=some v:=by
   rcases B with z|z
   ·exact⟨o,z▸e⟩
   ·exact⟨_,z⟩
  obtain⟨v',G⟩:=G;refine kp b v q (fun z =>?_) fun z =>?_
  ·rw[(hh b z).2]at G;cases G
  ·rw[Y b z]at G;cases G
theorem sx (u:Un (frs l) [] H H' h h')(ok:HOk P w H' h')(J:h'.FunFrames bs l)(O:∀ b∈hid,h.get? b=none∧H' b=none)(up:h'.UpToSlots h'') 
  (e:h''.get? T=some oT) (d:oT.data=.fields ts) (n:(less h' (hid++frs l)).get? T=none):h.get? T=none∧H' T=none:=by
 have B:T∉frs l:=fun z=>by
  obtain⟨_,o',U,B⟩:=J.mem z;obtain⟨Y,q⟩:=up T o' U B;rw[e]at q;cases q;exact B ts d
 by_cases hb:T∈hid
 ·exact O T hb
 ·have z:h'.get? T=none:=by
   cases q:h'.get? T with
   | none=>rfl
   | some o =>
    have z:(less h' (hid++frs l)).get? T=some o:=PySem.W.hideAll_get _ q fun z=>(HD.mp z).elim hb B;rw[n]at z;cases z
  refine⟨?_,ok.not z⟩;cases q:h.get? T with
  | none=>rfl
  | some o =>
   obtain⟨o',G⟩:=u.there T o q (by simp);rw[z]at G;cases G
end
theorem back (u:Un fs [] H H' h h')(e:h'.get? a=none):h.get? a=none:=by
 cases q:h.get? a with
 | none=>rfl
 | some o =>
  obtain⟨o',B⟩:=u.there a o q (by simp);rw[e]at B;cases B
section
variable {P:Program}{w:World}{mg:Str→Option Value}{base:Heap}{N:List Str}{qual:Str}{scope:Scope}{f:Addr}{cd:Value}{outer:List Env}{s0:Shared}{H0:Hp}{E:XK}
theorem xy {pins:List (Addr × Obj)}{σ:St}{H:Hp}{s:Shared}{h':Heap}{e:Addr}{cls:Value}{args:List Value}(I:Inv (i5 (CXe P w) P w K mg base N qual scope f cd A outer s0 H0 E) pins σ H s)
  (B:Heap.MadeExcOf s.heap h' e cls args) (q:E cls none H):(i5 (CXe P w) P w K mg base N qual scope f cd A outer s0 H0 E).xe (.ref e) { s with heap:=h' }:=by
 have G:s.heap.FunFrames _ (i5 (CXe P w) P w K mg base N qual scope f cd A outer s0 H0 E).stack:=I.stack;have O:=I.stkFree;refine Gf (base:=less s.heap ([]++frs (i5 (CXe P w) P w K mg base N qual scope f cd A outer s0 H0 E).stack)) (h:=s.heap) (L:=s0.heap.objs.size) I.ok.frames rfl (qG _ _)
  (wW G fun a ha=>PySem.W.hideAll_none _ (Ia _ ha)) B fun h'' a0 x1 x4 =>?_
 have up:s.heap.UpToSlots h'':=(Heap.UpToSlots.of_keeps B.keeps).trans x4;obtain⟨y1,y2,y3,oe,vs,T,oT,ts,z1,z2,z3,z4,z5,z6,U,Y,z9⟩:=x1;obtain⟨u,ok⟩:=xT (H:=H) (hid:=[]) Un.refl I.hok G O (fun b z=>by cases z) y1 up;have J:=I.call' (s':={ s with heap:=h'' }) (ch:=[]) rfl u ok I.bare (fun b z=>by cases z);obtain⟨n1,n2⟩:=sx (H:=H) (hid:=[]) Un.refl I.hok G (fun b z=>by cases z) up U Y z5;exact⟨e,cls,H,rfl,J.os,J.bare,J.base,ok,⟨⟨oe,vs,_,T,oT,ts,z1,z2,z3,z4,⟨back I.base n1,n2⟩,z6,U,Y,z9⟩,back I.base B.new,I.hok.not B.new⟩,q⟩
theorem BU {pins:List (Addr × Obj)}{σ:St}{H:Hp}{s s':Shared}{e:Value}(I:Inv (i5 (CXe P w) P w K mg base N qual scope f cd A outer s0 H0 E) pins σ H s)
  (c:CXe P w (i5 (CXe P w) P w K mg base N qual scope f cd A outer s0 H0 E).stack H s E e s'):(i5 (CXe P w) P w K mg base N qual scope f cd A outer s0 H0 E).xe e s':=by
 obtain⟨G,cls,H',rfl,c1,c2,O,U,⟨⟨oe,vs,a0,T,oT,ts,f1,f2,f3,f4,f5,f6,f7,f8,f9⟩,fn,fu⟩,q⟩:=c;have J:=I.call' (s':=s') (ch:=[]) c1 O U c2 (fun b z=>by cases z);have Y:s'.heap.FunFrames _ (i5 (CXe P w) P w K mg base N qual scope f cd A outer s0 H0 E).stack:=J.stack;have hh:∀ b∈[G,T],s.heap.get? b=none∧H' b=none:=fun b B=>by
  rcases HZ.mp B with rfl|B
  ·exact⟨fn,fu⟩
  ·rcases HZ.mp B with rfl|B
   ·exact f5
   ·cases B
 refine Fg (base:=less s'.heap ([G,T]++frs (i5 (CXe P w) P w K mg base N qual scope f cd A outer s0 H0 E).stack)) (L:=s0.heap.objs.size) (cls:=cls) (a0:=a0) I.ok.frames rfl
  ⟨qG _ _,PySem.W.hideAll_none _ (by simp),wW Y fun a ha=>PySem.W.hideAll_none _ (Ia _ ha),oe,vs,T,oT,ts,f1,f2,f3,f4,PySem.W.hideAll_none _ (by simp),f6,f7,f8,f9⟩ fun h'' x1 x4 =>?_
 obtain⟨y1,y2,y3,a1,a2,T',a3,a4,z1,z2,z3,z4,z5,z6,z7,z8,z9⟩:=x1;obtain⟨u,ok⟩:=xT O U Y J.stkFree hh y1 x4;have J':=I.call' (s':={ s' with heap:=h'' }) (ch:=[]) c1 u ok c2 (fun b z=>by cases z);obtain⟨n1,n2⟩:=sx O U Y hh x4 z7 z8 z5;exact⟨G,cls,H',rfl,J'.os,J'.bare,J'.base,ok,⟨⟨a1,a2,_,T',a3,a4,z1,z2,z3,z4,⟨back I.base n1,n2⟩,z6,z7,z8,z9⟩,back I.base fn,fu⟩,q⟩
theorem Et:q9 (CXe P w) (i5 (CXe P w) P w K mg base N qual scope f cd A outer s0 H0 E) E:=fun _ _ _ _ _ _ I c=>BU I c
end
abbrev bmV:List Value:=[.type "ValueError",.type "Exception",.type "BaseException",.type "object"]
structure GK (K:PySem.W.Frag)(mg:Str→Option Value)(x:Str)(C:Addr):Prop where
 m:mg x=some (.ref C)
 ok:PySem.W.excIn K C bmV "ValueError.__new__" = true
theorem Ds {K:PySem.W.Frag}(X:K.In h)(q:PySem.W.excIn K C bmB newId=true):
  ∃ bm N nm B bs G sn sub ab col dd k0 k1 k2 k3 k5 mN,h.get? C=some (excClassObj nm B C N bs bm G sn sub ab col dd k0 k1 k2 k3 k5 newId)∧h.Ns N mN∧mN "__init__" = none∧OwnTail h bmB bm:=by
 unfold PySem.W.excIn at q
 split at q
 ·rename_i dct cdt slo hob
  split at q
  ·rename_i C2 bmx j0 j1 j2 j3 nw j5 hmr hsl
   simp only[IW,beq_iff_eq,Bool.not_eq_true']at q;obtain⟨⟨⟨⟨⟨q1,q2⟩,q3⟩,U⟩,J⟩,O⟩:=q;subst q1 q2;obtain⟨nm,bs,Y,ns,B,G,sn,sub,ab,col,a0⟩:=cdt;dsimp only at hmr q3 J O;subst hmr q3;have es:slo = #[j0,j1,j2,j3,some (.builtin nw),j5]:=by
    obtain⟨l⟩:=slo;simp only at hsl;rw[hsl]
   subst es;exact⟨bmx,ns,nm,B,bs,G,sn,sub,ab,col,dct,j0,j1,j2,j3,j5,_,X _ _ hob,.of_isNs (PySem.W.isNs_of_in X J),PySem.W.nsMap_none_of_in X J O,PySem.W.tail_of_in X U⟩
  ·cases q
 ·cases q
def CF (X:Cx)(E:XK):Prop:=∀ (pins:List (Addr × Obj)) (σ:St) (H:Hp) (s:Shared) (h':Heap) (e:Addr) (cls:Value) (args:List Value),Inv X pins σ H s→Heap.MadeExcOf s.heap h' e cls args→E cls none H→X.xe (.ref e) { s with heap:=h' }
theorem C7 {K:PySem.W.Frag}:
  CF (i5 (CXe P w) P w K mg base N qual scope f cd A outer s0 H0 E) E:=fun _ _ _ _ _ _ _ _ I B q=>xy I B q
abbrev EJ (te:TE)(cls:Value)(E:XK):TS:=fun _ σ H=>te σ H fun _ H1=>E cls none H1
section
theorem Bj (o:GK X.K X.mg x C)(U:CF X E)(Y:PE X e te)(hc:X.calm=true:=by rfl)(hg:Gl X x:=by rfl)(hd:(x == ("__debug__" : Str))=false:=by decide)
  (G:starEach [e] X.env=(false,eval e X.env)::starEach [] X.env:=by rfl):PS X (.Raise (some (.Call (.Name x np) [e] [] cpos)) none pos) (EJ te (.ref C) E):=by
 intro pins s σ H D I h;obtain⟨bm,N,nm,qn,bs,J,sn,sub,ab,col,dd,k0,k1,k2,k3,k5,mN,hC,hN,O,T⟩:=Ds I.mod.kin o.ok;refine wpAny_Raise_call_subT (C:=C) (nm:=nm) (q:=qn) (N:=N) (bs:=bs) (bm:=bm) (hdct:=J) (sn:=sn) (sub:=sub) (ab:=ab) (col:=col) (dd:=dd) (k0:=k0) (k1:=k1) (k2:=k2) (k3:=k3) (k5:=k5) (mN:=mN)
  F.excBase_ValueError (T.hasType F.excBase_ValueError.hasBase) (I.ok.hd hc) (by rw[G];rfl) O (uq I hg o.m ⟨rfl,?_⟩ hd)
 have ha':=aa Y af G cpos pins s σ H (fun vs H1=>vs.length=1∧E (.ref C) none H1) I (by
  refine (?_:xU te AJ σ H _);exact (show te σ H _ from by
   have e1:(fun x H1=>AJ σ H1 fun xs H2=>(x::xs).length=1∧E (Value.ref C) none H2)=fun (_:V) H1=>E (Value.ref C) none H1:=by
    funext x H1;simp[AJ]
   rw[e1];exact h))
 rw[G]at ha' ⊢;refine Calls.evalArgs_plain (IJ ha' (fun us s2 z =>?_) fun _ _ y=>y);obtain⟨vs,H1,B,r,hl,q⟩:=z;refine⟨rfl,by rw[← r.length,hl];decide,B.bk _ _ hC,hN.keeps B.bk,T.keeps B.bk,fun h' e hm=>U pins σ H1 s2 h' e _ us B hm q⟩
end
structure Hn (K:PySem.W.Frag)(C:Addr):Prop where
 ga:PySem.W.findIn K (.ref C) "__getattribute__" = some (some (.builtin "BaseException.__getattribute__"))
 gt:PySem.W.findIn K (.ref C) "__getattr__" = some none
 ca:PySem.W.findIn K (.ref C) "__class__" = some (some (.builtin "object.__class__"))
 m1:PySem.W.subIn K (.ref C) (.type "object")=some true
 m2:PySem.W.subIn K (.ref C) (.type "BaseException")=some true
 cl:(PySem.W.clsIn K C).isSome=true
section
variable {w:World}{E:Value→Shared→Prop}{h:Heap}{g:Array GenState}{d:Drawn}{t:Nat}{os:OsState}{a C:Addr}{o:Obj}{vs:Array Value}
end
section
end
section
variable {pins:List (Addr × Obj)}{σ:St}
end
section
end
section
variable {w:World}{E:Value→Shared→Prop}{x:Str}{t:Tok}
end
section
variable {tg:Expr}
end
def clo (env:Env)(xs:List Str):List (Str × Addr):=xs.map fun x=>(x,(env.cells.lookup x).getD 0)
def uU (env:Env)(scope:Scope)(xs caps:List Str):Prop:=∀ x∈caps,env.kindOf x=some .cell∧(relabel scope env).names.lookup x=some .cell∧x∈xs
theorem xJ:uU env scope xs []:=fun _ h=>by cases h
theorem wx (h1:env.kindOf x=some .cell)(h2:(relabel scope env).names.lookup x=some .cell)(G:x∈xs)(h:uU env scope xs r):uU env scope xs (x::r):=fun y B=>by
 rcases HZ.mp B with rfl|B
 ·exact⟨h1,h2,G⟩
 ·exact h y B
theorem Cu:∀ {xs:List Str},x∈xs→env.cells.lookup x=some c→(clo env xs).lookup x=some c
 | [],h,_=>by cases h
 | y::r,h,e=>by
  unfold clo;rw[Ig,KF];by_cases z:x=y
  ·subst z;simp[e]
  ·have B:(x == y)=false:=by simpa using z
   rw[B];rcases HZ.mp h with q | q
   ·exact absurd q z
   ·exact Cu q e
theorem uJ:∀ {xs:List Str},x∈xs→∃ c,(clo env xs).lookup x=some c
 | [],h=>by cases h
 | y::r,h=>by
  unfold clo;rw[Ig,KF];by_cases z:x=y
  ·subst z;exact⟨_,by simp;rfl⟩
  ·have B:(x == y)=false:=by simpa using z
   rw[B];rcases HZ.mp h with q | q
   ·exact absurd q z
   ·exact uJ q
theorem D8 (B:(xs.all fun x=>(env.cells.lookup x).isSome)=true)(e:(clo env xs).lookup x=some c):env.cells.lookup x=some c:=by
 induction xs with
 | nil=>cases e
 | cons y r ih =>
  unfold clo at e;rw[Ig,KF]at e;rw[KB,IW]at B;by_cases z:x=y
  ·subst z;obtain⟨a,G⟩:=Ii.mp B.1;rw[G]at e ⊢;simpa using e
  ·have J:(x == y)=false:=by simpa using z
   rw[J]at e;exact ih B.2 e
theorem ww {σ:St}{vs:List V}{is:List Nat}{N N' B:List Str}{k:Nat}(G:is.map (fun i=>σ[i]?)=vs.map fun v=>some (some v))(J:is.map (N[·]?)=B.map some)(O:N'.drop k=B)(U:k≤N'.length):
  (List.replicate k (none:Option V)++vs.map some).length=N'.length:=by
 have h1:=Ij List.length G;have h2:=Ij List.length J;have Y:=Ij List.length O;simp only[Hw,Ji,Hs,JI]at *
 lia
theorem D9 {σ:St}{vs:List V}{is:List Nat}{N N' B:List Str}{k i:Nat}{x:Str}{v:V}(O:is.map (fun i=>σ[i]?)=vs.map fun v=>some (some v))(U:is.map (N[·]?)=B.map some)(Y:N'.drop k=B)
  (e1:N'[i]? = some x) (G:(List.replicate k (none:Option V)++vs.map some)[i]? = some (some v)):∃ j:Nat,N[j]? = some x∧x∈B∧σ[j]? = some (some v):=by
 have J:k≤i:=by
  by_cases h:k≤i
  ·exact h
  ·rw[Iq (by simpa using h),JX]at G
   split at G<;>cases G
 rw[IA (by simpa using J),JI]at G;have e1':B[i - k]? = some x:=by rw[← Y,JY,Nat.add_sub_cancel' J];exact e1
 have ev:vs[i - k]? = some v:=by
  rw[Ir]at G;cases z:vs[i - k]? with
  | none=>rw[z]at G;cases G
  | some a=>rw[z]at G;cases G;rfl
 have q1:=Ij (·[i - k]?) O;have q2:=Ij (·[i - k]?) U;simp only[Ir,ev,e1',JU]at q1 q2;cases z:is[i - k]? with
 | none=>rw[z]at q1;cases q1
 | some j =>
  rw[z]at q1 q2;exact⟨j,Option.some.inj q2,HH e1',Option.some.inj q1⟩
theorem Am {σ:St}{vs:List V}{k:Nat}(h:σ.drop k=vs.map some)(i:Nat)(v:V)(e:(List.replicate k (none:Option V)++vs.map some)[i]? = some (some v)):σ[i]? = some (some v):=by
 have B:k≤i:=by
  by_cases h:k≤i
  ·exact h
  ·rw[Iq (by simpa using h),JX]at e
   split at e<;>cases e
 rw[IA (by simpa using B),JI,← h,JY,Nat.add_sub_cancel' B]at e;exact e
theorem FI {names:List (Str × NameKind)}{xs:List Str}(h:(names.all fun y => !(y.2 == .cell || y.2 == .free) || xs.contains y.1)=true):∀ y∈names,(y.2=.cell∨y.2=.free)→y.1∈xs:=fun y B G=>by
 have z:=KG.mp h y B;rcases G with e | e
 ·rw[e]at z;exact List.contains_iff_mem.mp (by simpa using z)
 ·rw[e]at z;exact List.contains_iff_mem.mp (by simpa using z)
def bg (X:Cx)(N':List Str)(scope:Scope)(xs:List Str)(C:Addr)(s0:Shared)(H0:Hp)(fp:List Addr)(pins:List (Addr × Obj)):Cx where
 prog:=X.prog
 w:=X.w
 K:=X.K
 mg:=X.mg
 base:=X.base
 A:=X.A
 N:=N'
 s₀:=s0
 H₀:=H0
 env:=compEnvC scope (clo X.env xs) C X.env
 outer:=X.stack
 stack:=X.stack
 ex:=fp
 fn:=fun _=>false
 calm:=X.calm
 pn:=X.pn++pins
 xe:=fun _ _=>False
def qT (σ0:St)(k:Nat)(cs:St)(g:TG)(te:TE)(Q:VK):It→Hp→Prop:=fun J H1=>∀ D,H1 D=none→∃ W:Nat→Nat→List V→Hp→Prop,(∃ m,W 0 m [] (upd H1 D (.lst []))) ∧
 ∀ i m ys H2,W i m ys H2→H2 D=some (.lst ys)∧((J.stop i H2∧Q (.ref D) H2)∨(J.go i H2∧ys.length < sizeLine ∧
  ∀ x H',J.yld i H2 x H'→g x σ0 H' fun σ2 H3=>σ2.drop k=cs∧te σ2 H3 fun y H4=>H4 D=some (.lst ys)∧∃ m',m' < m∧W (i + 1) m' (ys++[y]) (upd H4 D (.lst (ys++[y])))))
def sS (is:List Nat)(k:Nat)(wi:TI)(g:TG)(te:TE):TE:=fun σ H Q=>∃ vs:List V,is.map (fun i=>σ[i]?)=vs.map (fun v=>some (some v))∧wi σ H (qT (List.replicate k none++vs.map some) k (vs.map some) g te Q)
def mX (σ0:St)(k:Nat)(cs:St)(g:TG)(tt:TT)(te:TE)(Q:VK):It→Hp→Prop:=fun J H1=>∀ D,H1 D=none→∃ W:Nat→Nat→List V→Hp→Prop,(∃ m,W 0 m [] (upd H1 D (.lst []))) ∧
 ∀ i m ys H2,W i m ys H2→H2 D=some (.lst ys)∧((J.stop i H2∧Q (.ref D) H2)∨(J.go i H2∧ys.length < sizeLine ∧
  ∀ x H',J.yld i H2 x H'→g x σ0 H' fun σ2 H3=>σ2.drop k=cs∧tt σ2 H3 fun b H4=>if b=true then te σ2 H4 fun y H5=>H5 D=some (.lst ys)∧∃ m',m' < m∧W (i + 1) m' (ys++[y]) (upd H5 D (.lst (ys++[y])))
   else ∃ m',m' < m∧W (i + 1) m' ys H4))
def iJ (is:List Nat)(k:Nat)(wi:TI)(g:TG)(tt:TT)(te:TE):TE:=fun σ H Q=>∃ vs:List V,is.map (fun i=>σ[i]?)=vs.map (fun v=>some (some v))∧wi σ H (mX (List.replicate k none++vs.map some) k (vs.map some) g tt te Q)
def PTs (X:Cx)(ifs:List Expr)(tt:TT):Prop:=∀ (pins:List (Addr × Obj)) (s:Shared) (σ:St) (H:Hp) (Q:Bool→Hp→Prop),Inv X pins σ H s→tt σ H Q→wpAny (model X.prog X.w) X.A (AG ifs X.env) (fun ok s'=>∃ H',Inv X pins σ H' s'∧Q ok H') X.xe s
def EH:TT:=fun _ H Q=>Q true H
theorem yh (h:PT X c tt):PTs X [c] tt:=fun pins s σ H Q I q=>wpAny_tests_one (h pins s σ H Q I q)
theorem yi:PTs X [] EH:=fun _ _ _ H _ I q=>wpAny_tests_nil ⟨H,I,q⟩
theorem sC (is:List Nat)(k:Nat)(wi:TI)(g:TG)(te:TE):sS is k wi g te=iJ is k wi g EH te:=by
 unfold sS iJ qT mX EH;simp only[if_true]
structure l9 (X:Cx)(N':List Str)(scope:Scope)(xs caps:List Str)(is:List Nat)(k:Nat):Prop where
 hclos:closureFor scope X.env=pure (clo X.env xs):=by with_unfolding_all rfl
 hin:(xs.all fun x=>(X.env.cells.lookup x).isSome)=true:=by rfl
 hcap:uU X.env scope xs caps:=by repeat (first | exact xJ | refine wx rfl rfl (by decide) ?_)
 his:is.map (X.N[·]?)=caps.map some:=by rfl
 hN:N'.drop k=caps:=by rfl
 hk:k≤N'.length:=by decide
 hallB:((relabel scope X.env).names.all fun y => !(y.2 == .cell || y.2 == .free) || xs.contains y.1)=true:=by rfl
 hcell:∀ y∈scope.names,y.2≠.cell:=by decide +kernel
 hkind:scope.kind=.function:=by rfl
 hnames:∀ y∈scope.names,y.2=.local→scope.names.lookup y.1=some .local:=by decide +kernel
 hcalm:X.calm=true:=by rfl
section
variable {elt tg iter cnd:Expr}{ifs:List Expr}{scope:Scope}{N':List Str}{wi:TI}{g:TG}{te:TE}{tt:TT}
theorem sA {pos':Pos}{use:Option (Value→Sem Unit)}{Qf:Value→Shared→Prop}{R:VK}{pins:List (Addr × Obj)}{s:Shared}{σ:St}{H:Hp}(xs c9:List Str)(is:List Nat)(k:Nat)(ok:l9 X N' scope xs c9 is k)(hi:PI X tg iter wi)(hg:∀ C s0 H0 fp pins,PG (bg X N' scope xs C s0 H0 fp pins) tg g)(ht:∀ C s0 H0 fp pins,PTs (bg X N' scope xs C s0 H0 fp pins) ifs tt)(he:∀ C s0 H0 fp pins,PE (bg X N' scope xs C s0 H0 fp pins) elt te)
  (hs:∀ x,foldedSetIterable iter X.env x=pure x) (I:Inv X pins σ H s) (h:iJ is k wi g tt te σ H R)
  (d0:∀ (d C:Addr) (H':Hp) (s':Shared),Inv X pins σ H' s'→∀ m,s'.heap.Ns C m→H' C=none→C≠X.env.locals→X.s₀.heap.objs.size≤C→(∀ x c,X.env.cells.lookup x=some c→c≠C)→(∀ p∈X.pn++pins,p.1≠C)→R (.ref d) H'→compPost (model X.prog X.w) X.A X.xe use Qf (.ref d) C (.ok .next) s') :
  wpAny (model X.prog X.w) X.A (comprehension (.ListComp elt [⟨tg,iter,ifs,0⟩] scope pos) scope X.env pos' (newList []) false (eval iter X.env) use) Qf X.xe s:=by
 obtain⟨b8,e4,d1,b9,hN,hk,c0,c1,a6,b3,a9⟩:=ok;have b5:=FI c0;obtain⟨vs,c2,h⟩:=h;refine wpAny_comprehension_free rfl hs b8 a6 b3 (thn (hi pins s σ H _ I h) fun v s1 h1=>thn h1 fun g1 O h2 =>?_);obtain⟨it,fp,tn,J,H2,e,U,T,c3,f2,hW⟩:=h2;subst e;refine wpAny_newObj_type (wpAny_newFunctionEnv c1 (by intro y hy;simp at hy) (fun h₁ b0 a8 =>?_) a6);dsimp only at b0 a8 ⊢;generalize c4:O.heap.push { cls:=.type "list",dict:=none,data:=.seq ([]:List Value).toArray }=Y at b0 a8 ⊢
 have hC:Y.objs.size=O.heap.objs.size + 1:=by rw[← c4,Heap.size_push]
 have G:∀ b,b < O.heap.objs.size→b≠Y.objs.size∧b≠O.heap.objs.size:=fun b B=>⟨by rw[hC];exact Ik (Ka B),Ik B⟩;have d2:O.heap.objs.size≠Y.objs.size:=by rw[hC];exact Ik (Ki _)
 have a7:∀ b o,O.heap.get? b=some o→h₁.get? b=some o:=fun b o e=>a8.extBut b o (G b (HL e)).1 (Hq _ (c4▸Hq _ e));have hD:h₁.get? O.heap.objs.size=some { cls:=.type "list",dict:=none,data:=.seq ([]:List Value).toArray }:=a8.extBut _ _ d2 (Hq _ (c4▸HQ _ rfl))
 have d3:H2 O.heap.objs.size=none:=U.hok.fresh (Ht _);have e5:H2 Y.objs.size=none:=U.hok.fresh (by rw[hC];exact Nat.le_succ _);have c5:∀ b∈fp,b < O.heap.objs.size:=fun b B=>by
  obtain⟨o,e,_⟩:=T.obj _ _ c3 b B;exact HL e
 have c6:∀ b,b≠X.env.locals→b∉X.fs→b∉frs X.stack:=fun b n1 n2 z=>by
  rcases HZ.mp (U.stkSub b z) with e|e
  ·exact n1 e
  ·exact n2 e
 obtain⟨W,⟨m0,w0⟩,turn⟩:=hW O.heap.objs.size d3;have a0:∀ (x:Str) (c:Addr),(clo X.env xs).lookup x=some c→X.env.cells.lookup x=some c:=fun x c e=>D8 e4 e;have b6:∀ (x:Str) (c:Addr),(clo X.env xs).lookup x=some c→∃ v,O.heap.IsCell c v:=fun x c e=>U.cell x c (a0 x c e);have e6:∀ (x:Str) (c:Addr),(clo X.env xs).lookup x=some c→c < O.heap.objs.size:=fun x c e=>by
  obtain⟨v,o,ho,_⟩:=b6 x c e;exact HL ho
 have ok':(bg X N' scope xs Y.objs.size O H2 fp pins).Ok:=by
  refine⟨U.ok.mod,a6,U.ok.glob,U.ok.blt,?_,fun x y c e e'=>U.ok.inj x y c (a0 x c e) (a0 y c e'),fun x hx =>?_,(fun x c z _=>by cases z),U.ok.hd,U.ok.frames,.inl rfl,fun b B=>⟨(G b (c5 b B)).1,fun x c e=>(f2 b B).2.2.2.2.1 x c (a0 x c e)⟩,U.bs,H_ U.ok.bsz U.sz,fun b o e B =>?_,fun b B=>c6 b (f2 b B).2.1 (f2 b B).2.2.1,U.stack,U.stkFree⟩
  ·show O.heap.objs.size≤Y.objs.size;rw[hC];exact Nat.le_succ _
  ·have hx':(relabel scope X.env).names.lookup x=some .cell∨(relabel scope X.env).names.lookup x=some .free:=hx;rcases hx' with z | z
   ·exact uJ (b5 _ (PySem.mem_of_lookup z) (.inl rfl))
   ·exact uJ (b5 _ (PySem.mem_of_lookup z) (.inr rfl))
  ·rcases (f2 b B).2.2.2.1 with z|z
   ·exact U.ok.noex b o e z
   ·exact absurd (HS (HL (U.ok.bs b o e).1) z) (Jq _)
 have I':Inv (bg X N' scope xs Y.objs.size O H2 fp pins) [] (List.replicate k none++vs.map some) (upd H2 O.heap.objs.size (.lst [])) { O with heap:=h₁,toks:=O.toks + ([]:List (Str × Value)).length }:=by
  refine⟨ok',rfl,U.bare,Un.laid a7 (Ht _) d3,⟨_,b0,fun i x v e1 e2 e3 =>?_⟩,fun x c e =>?_,?_,fun x c e =>?_,fun p hp =>?_,U.hok.laid a7 (Ht _) ⟨by simp,[],0,.nil,hD⟩,?_⟩
  ·obtain⟨j,ej,e7,e9⟩:=D9 c2 b9 hN e1 e2;obtain⟨d4,f0,f1⟩:=d1 x e7;obtain⟨m,hn,hl⟩:=U.loc;obtain⟨u,r,l⟩:=hl j x v ej e9 (.inr (.inl d4));refine⟨u,r,.inr ⟨.inl f0,?_⟩⟩;rcases l with⟨z,_⟩|⟨_,c,ec,⟨o,ho,hd⟩⟩
   ·rw[show X.env.kindOf x=some .cell from d4]at z;cases z
   ·exact⟨c,Cu f1 ec,o,a7 _ _ ho,hd⟩
  ·obtain⟨v,o,ho,hd⟩:=b6 x c e;exact⟨v,o,a7 _ _ ho,hd⟩
  ·show upd H2 O.heap.objs.size (.lst []) Y.objs.size=none;rw[aH (Ne.symm d2)];exact e5
  ·show upd H2 O.heap.objs.size (.lst []) c=none;rw[aH (G _ (e6 x c e)).2];exact U.freeC x c (a0 x c e)
  ·have hp':p∈X.pn++pins:=by
    rcases HD.mp hp with z|z
    ·exact z
    ·cases z
   obtain⟨a1,a2,a3,a4,a5⟩:=U.pin p hp';refine⟨a7 _ _ a1,?_,(G _ (HL a1)).1,c6 _ a3 a4,a5⟩;rw[aH (G _ (HL a1)).2];exact a2
  ·show (List.replicate k none++vs.map some).length=N'.length;exact ww c2 b9 hN hk
 have b1:∀ {H':Hp},(∀ b∈fp,H' b=none)→∀ b∈fp,wG (bg X N' scope xs Y.objs.size O H2 fp pins) [] H' b:=fun {H'} hn b B =>
  ⟨hn b B,(G b (c5 b B)).1,c6 b (f2 b B).2.1 (f2 b B).2.2.1,.inl B,fun x c e=>(f2 b B).2.2.2.2.1 x c (a0 x c e),fun p hp=>(f2 b B).2.2.2.2.2 p (by
   rcases HD.mp hp with z|z
   ·exact z
   ·cases z)⟩
 have fin:∀ (ys:List V) (σ':St) (H':Hp) (s':Shared),Inv (bg X N' scope xs Y.objs.size O H2 fp pins) [] σ' H' s'→R (.ref O.heap.objs.size) H'→compPost (model X.prog X.w) X.A X.xe use Qf (.ref O.heap.objs.size) Y.objs.size (.ok .next) s':=by
  intro ys σ' H' s' J1 q;obtain⟨m,hm,_⟩:=id J1.loc;have J2:Inv X pins σ H' s':=U.call' (s':=s') (ch:=fp) J1.os ⟨J1.base.keep,J1.base.slot,J1.base.free,J1.base.there,J1.base.tups,J1.base.frzs,J1.base.tbls⟩ J1.hok J1.bare fun b B=>⟨(f2 b B).2.2.2.1,(f2 b B).2.1,(f2 b B).2.2.2.2.1,(f2 b B).2.2.2.2.2⟩;have f3:X.s₀.heap.objs.size≤Y.objs.size:=H_ U.sz (by rw[hC];exact Nat.le_succ _);have f4:Y.objs.size≠X.env.locals:=Ne.symm (G _ U.lt).1;have f5:∀ x c,X.env.cells.lookup x=some c→c≠Y.objs.size:=fun x c e=>by
   obtain⟨v,o,ho,_⟩:=U.cell x c e;exact (G _ (HL ho)).1
  have f6:∀ p∈X.pn++pins,p.1≠Y.objs.size:=fun p hp=>(G _ (HL (U.pin p hp).1)).1;exact d0 _ _ H' s' J2 m hm J1.free f4 f3 f5 f6 q
 have b7:codeAny (model X.prog X.w) X.A (.compLoop (.ListComp elt [⟨tg,iter,ifs,0⟩] scope pos) 0 (.ref it) (.ref O.heap.objs.size) (compEnvC scope (clo X.env xs) Y.objs.size X.env))
   (compPost (model X.prog X.w) X.A X.xe use Qf (.ref O.heap.objs.size) Y.objs.size)
   { O with heap:=h₁,toks:=O.toks + ([]:List (Str × Value)).length }:=by
  refine wp (fun n s'=>∃ i ys σ' H',σ'.drop k=vs.map some∧Inv (bg X N' scope xs Y.objs.size O H2 fp pins) [] σ' H' s'∧tn i s'.heap∧(∀ b∈fp,H' b=none)∧W i n ys H') ?_ m0
   ⟨0,[],List.replicate k none++vs.map some,_,by simp,I',T.keep _ _ _ c3 (fun b B o e=>a7 b o e),fun b B=>by rw[aH (G b (c5 b B)).2];exact (f2 b B).1,w0⟩
  rintro n s3 ⟨i,ys,σ3,H3,f7,J3,d5,d6,w3⟩;obtain⟨hl,q3⟩:=turn i n ys H3 w3;rcases q3 with⟨d7,q⟩ | ⟨go,f8,step⟩
  ·refine thn (T.done (bg X N' scope xs Y.objs.size O H2 fp pins) rfl rfl rfl a9 i [] s3 σ3 H3 _ J3 (b1 d6) d5 d7) fun r s4 ⟨hr,J4⟩ =>?_;subst hr;exact fin ys σ3 H3 s4 J4 q
  ·refine thn (T.item (bg X N' scope xs Y.objs.size O H2 fp pins) rfl rfl rfl a9 i [] s3 σ3 H3 _ J3 (b1 d6) d5 go) fun r s4 ⟨u,hr,h4⟩ =>?_;subst hr;refine thn h4 fun _ s5 ⟨x,H5,J5,r5,y5,b2,f9⟩ =>?_;have J5':=J5.pinned (b1 f9) (T.obj _ _ b2);have J6:Inv (bg X N' scope xs Y.objs.size O H2 fp pins) ([]++qt fp s5.heap) (List.replicate k none++vs.map some) H5 s5:=J5'.weak (by rw[J5'.len];exact ww c2 b9 hN hk) (Am f7);refine IJ (hg _ _ _ _ _ _ s5 _ H5 x u _ J6 r5 (step x H5 y5)) (fun _ s6 ⟨σ6,H6,J7,d8,q6⟩ =>?_) fun _ _ z=>False.elim z;refine IJ (ht _ _ _ _ _ _ s6 σ6 H6 _ J7 q6) (fun ok d9 ⟨e0,c7,b4⟩ =>?_) fun _ _ z=>False.elim z;cases ok with
   | false =>
    rw[if_neg (by decide)];rw[if_neg (by decide)]at b4;obtain⟨m',c8,w7⟩:=b4;have pk:∀ b∈fp,∀ o,s5.heap.get? b=some o→d9.heap.get? b=some o∧e0 b=none:=fun b B o e =>
     let z:=c7.pin (b,o) (Ia _ (Ia _ (iZ B e)))
     ⟨z.1,z.2.1⟩
    refine⟨m',c8,i + 1,ys,σ6,_,d8,c7.unpinned,T.keep _ _ _ b2 fun b B o e=>(pk b B o e).1,fun b B =>?_,w7⟩;obtain⟨o,e,_⟩:=T.obj _ _ b2 b B;exact (pk b B o e).2
   | true =>
    rw[if_pos rfl];rw[if_pos rfl]at b4;refine IJ (he _ _ _ _ _ _ d9 σ6 e0 _ c7 b4) (fun yv s7 ⟨y,H7,J8,r7,q7⟩ =>?_) fun _ _ z=>False.elim z;obtain⟨g0,m',c8,w7⟩:=q7;refine IJ (sd (X:=bg X N' scope xs Y.objs.size O H2 fp pins) _ s7 σ6 H7 (.ref O.heap.objs.size) [y] (.ref O.heap.objs.size) [yv] (fun v H8=>H8=upd H7 O.heap.objs.size (.lst (ys++[y]))) J8 rfl (.cons r7 .nil) ⟨_,ys,y,rfl,rfl,g0,f8,rfl⟩) (fun _ s8 ⟨v8,H8,J9,r8,e8⟩ =>?_) fun _ _ z=>False.elim z;subst e8;have pk:∀ b∈fp,∀ o,s5.heap.get? b=some o→s8.heap.get? b=some o∧upd H7 O.heap.objs.size (.lst (ys++[y])) b=none:=fun b B o e =>
     let z:=J9.pin (b,o) (Ia _ (Ia _ (iZ B e)))
     ⟨z.1,z.2.1⟩
    refine⟨m',c8,i + 1,ys++[y],σ6,_,d8,J9.unpinned,T.keep _ _ _ b2 fun b B o e=>(pk b B o e).1,fun b B =>?_,w7⟩;obtain⟨o,e,_⟩:=T.obj _ _ b2 b B;exact (pk b B o e).2
 exact codeAny_compStart_list b7 (T.self X.A 0 { O with heap:=h₁,toks:=O.toks + ([]:List (Str × Value)).length } _ _ (T.keep _ _ _ c3 fun b B o e=>a7 b o e) b7)
theorem vB (xs B:List Str)(is:List Nat)(k:Nat)(ok:l9 X N' scope xs B is k)(hi:PI X tg iter wi)(G:∀ C s0 H0 fp pins,PG (bg X N' scope xs C s0 H0 fp pins) tg g)(O:∀ C s0 H0 fp pins,PTs (bg X N' scope xs C s0 H0 fp pins) ifs tt)(U:∀ C s0 H0 fp pins,PE (bg X N' scope xs C s0 H0 fp pins) elt te)
  (Y:∀ x,foldedSetIterable iter X.env x=pure x:=by intro _;rfl):PE X (.ListComp elt [⟨tg,iter,ifs,0⟩] scope pos) (iJ is k wi g tt te):=by
 intro pins s σ H Q I h;rw[eval_ListComp];exact sA (use:=none) (Qf:=EP X pins σ Q) xs B is k ok hi G O U Y I h fun d C H' s' J m hm f nL s0 nC nP q=>⟨m,hm,fun h' sb=>⟨.ref d,H',J.turned (t':=s'.toks) (fun b o hb e=>(sb.2 b hb).trans e) f nL (.inr s0) nC nP,rfl,q⟩⟩
theorem qu (xs B:List Str)(is:List Nat)(k:Nat)(ok:l9 X N' scope xs B is k)(hi:PI X tg iter wi)(G:∀ C s0 H0 fp pins,PG (bg X N' scope xs C s0 H0 fp pins) tg g)(J:∀ C s0 H0 fp pins,PE (bg X N' scope xs C s0 H0 fp pins) elt te)
  (O:∀ x,foldedSetIterable iter X.env x=pure x:=by intro _;rfl):PE X (.ListComp elt [⟨tg,iter,[],0⟩] scope pos) (sS is k wi g te):=by
 rw[sC];exact vB xs B is k ok hi G (fun _ _ _ _ _=>yi) J O
theorem rY (xs B:List Str)(is:List Nat)(k:Nat)(ok:l9 X N' scope xs B is k)(hi:PI X tg iter wi)(G:∀ C s0 H0 fp pins,PG (bg X N' scope xs C s0 H0 fp pins) tg g)(J:∀ C s0 H0 fp pins,PT (bg X N' scope xs C s0 H0 fp pins) cnd tt)(O:∀ C s0 H0 fp pins,PE (bg X N' scope xs C s0 H0 fp pins) elt te)
  (U:∀ x,foldedSetIterable iter X.env x=pure x:=by intro _;rfl):PE X (.ListComp elt [⟨tg,iter,[cnd],0⟩] scope pos) (iJ is k wi g tt te) :=
 vB xs B is k ok hi G (fun C s0 H0 fp pins=>yh (J C s0 H0 fp pins)) O U
end
section
end
mutual
inductive Dat (H:Hp):V→PyData→Prop
 | non:Dat H .non .none
 | bl (b:Bool):Dat H (.bl b) (.bool b)
 | int (i:Int):Dat H (.int i) (.int i)
 | str (x:Str):Dat H (.str x) (.str x)
 | lst {a:Addr} {xs:List V} {ds:List PyData}:H a=some (.lst xs)→Dats H xs ds→Dat H (.ref a) (.list ds)
 | tup {a:Addr} {xs:List V} {ds:List PyData}:H a=some (.tup xs)→Dats H xs ds→Dat H (.ref a) (.tuple ds)
inductive Dats (H:Hp):List V→List PyData→Prop
 | nil:Dats H [] []
 | cons {x:V} {xs:List V} {d:PyData} {ds:List PyData}:Dat H x d→Dats H xs ds→Dats H (x::xs) (d::ds)
end
section
variable {P:Program}{w:World}{H:Hp}{h:Heap}
mutual
theorem Dat.reads (ok:HOk P w H h):∀ {x:V} {d:PyData} {u:Value},Dat H x d→bw x u→∃ as,Reads h u d as
 | _,_,u,.non,r=>by cases (show u=Value.none from r);exact⟨_,.none⟩
 | _,_,u,.bl b,r=>by cases (show u=Value.bool b from r);exact⟨_,.bool b⟩
 | _,_,u,.int i,r=>by obtain⟨t,rfl⟩:=r;exact⟨_,.int i t⟩
 | _,_,u,.str x,r=>by obtain⟨t,rfl⟩:=r;exact⟨_,.str x t⟩
 | _,_,u,.lst (a:=a) e q,r=>by
  cases (show u=Value.ref a from r);obtain⟨_,its,n,B,g⟩:=ok a _ e;obtain⟨as,G⟩:=Dats.reads ok q B;exact⟨_,.list g rfl rfl G⟩
 | _,_,u,.tup (a:=a) e q,r=>by
  cases (show u=Value.ref a from r);obtain⟨_,its,B,o,g,c,n,dd⟩:=ok a _ e;obtain⟨as,G⟩:=Dats.reads ok q B;exact⟨_,.tuple g c dd G⟩
theorem Dats.reads (ok:HOk P w H h):∀ {xs:List V} {ds:List PyData} {us:List Value},Dats H xs ds→ba xs us→∃ as,ReadsAll h us ds as
 | _,_,_,.nil,.nil=>⟨_,.nil⟩
 | _,_,_,.cons p q,.cons r s=>by
  obtain⟨as,x⟩:=Dat.reads ok p r;obtain⟨bs,y⟩:=Dats.reads ok q s;exact⟨_,.cons x y⟩
end
end
def F9 (neg:Bool):R2:=fun x y H Q=>∃ d1 d2,Dat H x d1∧Dat H y d2∧SeqAt.shaped d1=true∧SeqAt.shaped d2=true∧Q (.bl (if neg then !PyData.eqv d1 d2 else PyData.eqv d1 d2)) H
section
variable {X:Cx}
theorem tO (B:cY k X.A):OpR X (compareOp .Eq) (F9 false):=by
 intro pins s σ H x y v u Q I G J h;obtain⟨d1,d2,p,q,O,U,h⟩:=h;obtain⟨as,Y⟩:=p.reads I.hok G;obtain⟨bs,r2⟩:=q.reads I.hok J;exact eq_dataH Y r2 O U B.units ⟨.bl _,H,I,rfl,h⟩
theorem xk (B:cY k X.A):OpR X (compareOp .NotEq) (F9 true):=by
 intro pins s σ H x y v u Q I G J h;obtain⟨d1,d2,p,q,O,U,h⟩:=h;obtain⟨as,Y⟩:=p.reads I.hok G;obtain⟨bs,r2⟩:=q.reads I.hok J;exact ne_dataH Y r2 O U B.units ⟨.bl _,H,I,rfl,h⟩
end
end L2
namespace L2
open PySem PySem.Spec PyProof.Rows
variable {H:Hp}{X:Cx}{s:Shared}{pos:Pos}{prog:Program}{A:Around}{K:PySem.W.Frag}
section
end
section
theorem mJ (B:X.K=K:=by rfl):IxR X (F6 K):=B▸bj
theorem kq (B:X.K=K:=by rfl):IxR X (F5 K):=B▸aw
end
section
variable {σ0 cs:St}{k:Nat}{g:TG}{te:TE}{tt:TT}{H1:Hp}{Q:VK}
theorem wq (n:Nat)(gv:Nat→V→Prop)(Pv:Addr→Nat→List V→Hp→Prop)(hn:n≤sizeLine)
  (O:∀ D i ys H,i < n→Pv D i ys H→J.go i H) (U:∀ D ys H,Pv D n ys H→J.stop n H) (hy:∀ D i ys H x H',i < n→Pv D i ys H→J.yld i H x H'→H'=H∧gv i x)
  (hl:∀ D i ys H,Pv D i ys H→H D=some (.lst ys)∧ys.length≤i) (h0:∀ D,H1 D=none→Pv D 0 [] (upd H1 D (.lst [])))
  (hs:∀ D i x ys H,i < n→gv i x→H1 D=none→Pv D i ys H→g x σ0 H fun Y H3=>Y.drop k=cs∧te Y H3 fun y H4=>H4 D=some (.lst ys)∧Pv D (i + 1) (ys++[y]) (upd H4 D (.lst (ys++[y]))))
  (hd:∀ D ys H,H1 D=none→Pv D n ys H→Q (.ref D) H) (mono:∀ x σ H (R G:St→Hp→Prop),(∀ σ' H',R σ' H'→G σ' H')→g x σ H R→g x σ H G)
  (B:∀ σ H (R G:VK),(∀ v H',R v H'→G v H')→te σ H R→te σ H G):qT σ0 k cs g te Q J H1:=by
 intro D hD;refine⟨fun i m ys H=>m=n - i∧i≤n∧Pv D i ys H,⟨n,rfl,HE _,h0 D hD⟩,?_⟩;rintro i m ys H ⟨rfl,hi,p⟩;obtain⟨e1,e2⟩:=hl D i ys H p;refine⟨e1,?_⟩;by_cases hlt:i < n
 ·refine .inr ⟨O D i ys H hlt p,by lia,fun x H' y =>?_⟩;obtain⟨rfl,hx⟩:=hy D i ys H x H' hlt p y;refine mono _ _ _ _ _ (fun Y H3 ⟨z1,z2⟩=>⟨z1,B _ _ _ _ (fun v H4 ⟨z3,z4⟩=>⟨z3,n - (i + 1),by lia,rfl,hlt,z4⟩) z2⟩) (hs D i x ys H' hlt hx hD p)
 ·have e:i=n:=by lia
  subst e;exact .inl ⟨U D ys H p,hd D ys H hD p⟩
theorem sD (n:Nat)(gv:Nat→V→Prop)(Pv:Addr→Nat→List V→Hp→Prop)(hn:n≤sizeLine)
  (Y:∀ D i ys H,i < n→Pv D i ys H→J.go i H) (a0:∀ D ys H,Pv D n ys H→J.stop n H) (hy:∀ D i ys H x H',i < n→Pv D i ys H→J.yld i H x H'→H'=H∧gv i x)
  (hl:∀ D i ys H,Pv D i ys H→H D=some (.lst ys)∧ys.length≤i) (h0:∀ D,H1 D=none→Pv D 0 [] (upd H1 D (.lst [])))
  (hs:∀ D i x ys H,i < n→gv i x→H1 D=none→Pv D i ys H→g x σ0 H fun U H3=>U.drop k=cs∧tt U H3 fun b H4=>if b=true then te U H4 fun y H5=>H5 D=some (.lst ys)∧Pv D (i + 1) (ys++[y]) (upd H5 D (.lst (ys++[y]))) else Pv D (i + 1) ys H4)
  (hd:∀ D ys H,H1 D=none→Pv D n ys H→Q (.ref D) H) (mono:∀ x σ H (R B:St→Hp→Prop),(∀ σ' H',R σ' H'→B σ' H')→g x σ H R→g x σ H B)
  (G:∀ σ H (R B:VK),(∀ v H',R v H'→B v H')→te σ H R→te σ H B) (O:∀ σ H (R B:Bool→Hp→Prop),(∀ v H',R v H'→B v H')→tt σ H R→tt σ H B):mX σ0 k cs g tt te Q J H1:=by
 intro D hD;refine⟨fun i m ys H=>m=n - i∧i≤n∧Pv D i ys H,⟨n,rfl,HE _,h0 D hD⟩,?_⟩;rintro i m ys H ⟨rfl,hi,p⟩;obtain⟨e1,e2⟩:=hl D i ys H p;refine⟨e1,?_⟩;by_cases hlt:i < n
 ·refine .inr ⟨Y D i ys H hlt p,by lia,fun x H' y =>?_⟩;obtain⟨rfl,hx⟩:=hy D i ys H x H' hlt p y;refine mono _ _ _ _ _ (fun U H3 ⟨z1,z2⟩=>⟨z1,O _ _ _ _ (fun b H4 z =>?_) z2⟩) (hs D i x ys H' hlt hx hD p);cases b with
  | true =>
   rw[if_pos rfl]at z ⊢;exact G _ _ _ _ (fun v H5 ⟨z3,z4⟩=>⟨z3,n - (i + 1),by lia,rfl,hlt,z4⟩) z
  | false =>
   rw[if_neg (by decide)]at z ⊢;exact⟨n - (i + 1),by lia,rfl,hlt,z⟩
 ·have e:i=n:=by lia
  subst e;exact .inl ⟨a0 D ys H p,hd D ys H hD p⟩
theorem lV (xs:List V)(Pv:Addr→Nat→List V→Hp→Prop)(Y:xs.length≤sizeLine)(J:∀ D i ys H,Pv D i ys H→SqL K H a xs)
  (hl:∀ D i ys H,Pv D i ys H→H D=some (.lst ys)∧ys.length≤i) (h0:∀ D,H1 D=none→Pv D 0 [] (upd H1 D (.lst [])))
  (hs:∀ D i x ys H,xs[i]? = some x→H1 D=none→Pv D i ys H→g x σ0 H fun O H3=>O.drop k=cs∧te O H3 fun y U=>U D=some (.lst ys)∧Pv D (i + 1) (ys++[y]) (upd U D (.lst (ys++[y]))))
  (hd:∀ D ys H,H1 D=none→Pv D xs.length ys H→Q (.ref D) H) (mono:∀ x σ H (R G:St→Hp→Prop),(∀ σ' H',R σ' H'→G σ' H')→g x σ H R→g x σ H G)
  (B:∀ σ H (R G:VK),(∀ v H',R v H'→G v H')→te σ H R→te σ H G):qT σ0 k cs g te Q (Itl K a) H1 :=
 wq xs.length (fun i x=>xs[i]? = some x) Pv Y (fun D i ys H hi p=>⟨xs,xs[i],J D i ys H p,by simp[hi]⟩) (fun D ys H p=>⟨xs,J D _ ys H p,Ht _⟩)
  (fun D i ys H x H' hi p y=>⟨y.1,y.2 xs (J D i ys H p)⟩) hl h0 (fun D i x ys H hi hx hD p=>hs D i x ys H hx hD p) hd mono B
end
inductive Tr where
 | col (i:Int)
 | four (a b c d:Tr)
deriving DecidableEq
def Tr.data:Tr→PyData
 | .col i=>.int i
 | .four a b c d=>.tuple [a.data,b.data,c.data,d.data]
def Tr.deep:Tr→Nat
 | .col _=>0
 | .four a b c d=>max a.deep (max b.deep (max c.deep d.deep)) + 1
def Tr.isCol:Tr→Bool
 | .col _=>true
 | .four ..=>false
inductive bT (H:Hp):V→Tr→Prop
 | col (i:Int):bT H (.int i) (.col i)
 | four {p:Addr} {a b c d:V} {ta tb tc td:Tr}:H p=some (.tup [a,b,c,d])→bT H a ta→bT H b tb→bT H c tc→bT H d td→bT H (.ref p) (.four ta tb tc td)
def bS (H H':Hp):Prop:=∀ b xs,H b=some (.tup xs)→H' b=some (.tup xs)
theorem ak.tups (s:ak H H'):bS H H':=fun b xs e=>s b _ e
theorem bS.trans (s:bS H H')(t:bS H' H''):bS H H'':=fun b xs e=>t b xs (s b xs e)
theorem bS.lst (e:H l=some (.lst xs)):bS H (upd H l (.lst ys)):=fun b zs q=>by
 rw[aH (Eu q e (by intro z;cases z))];exact q
theorem bT.up (s:bS H H'):∀ {v:V} {t:Tr},bT H v t→bT H' v t
 | _,_,.col i=>.col i
 | _,_,.four e a b c d=>.four (s _ _ e) (bT.up s a) (bT.up s b) (bT.up s c) (bT.up s d)
theorem bT.dat:∀ {v:V} {t:Tr},bT H v t→Dat H v t.data
 | _,_,.col i=>.int i
 | _,_,.four e a b c d=>.tup e (.cons a.dat (.cons b.dat (.cons c.dat (.cons d.dat .nil))))
theorem Tr.eqv:∀ t u:Tr,PyData.eqv t.data u.data=decide (t=u)
 | .col i,.col j=>by
  show (i == j)=_;by_cases h:i=j<;>simp[h]
 | .col i,.four ..=>by
  show false=_;simp
 | .four ..,.col j=>by
  show false=_;simp
 | .four a b c d,.four a' b' c' d'=>by
  show (PyData.eqv a.data a'.data && (PyData.eqv b.data b'.data && (PyData.eqv c.data c'.data && (PyData.eqv d.data d'.data && true))))=_;rw[Tr.eqv a a',Tr.eqv b b',Tr.eqv c c',Tr.eqv d d'];by_cases h1:a=a'<;>by_cases h2:b=b'<;>by_cases h3:c=c'<;>by_cases h4:d=d'<;>simp[h1,h2,h3,h4]
theorem Tr.lay:∀ t:Tr,t.data.canLay0=true
 | .col i=>rfl
 | .four a b c d=>by
  show (a.data.canLay0 && (b.data.canLay0 && (c.data.canLay0 && (d.data.canLay0 && true))))=true;rw[Tr.lay a,Tr.lay b,Tr.lay c,Tr.lay d];rfl
theorem Tr.depth:∀ t:Tr,t.data.depth=t.deep
 | .col i=>rfl
 | .four a b c d=>by
  show max a.data.depth (max b.data.depth (max c.data.depth (max d.data.depth 0))) + 1=_;rw[Tr.depth a,Tr.depth b,Tr.depth c,Tr.depth d,Nat.max_zero];rfl
theorem Tr.shaped {t:Tr}(h:t.deep≤64):SeqAt.shaped t.data=true:=by
 unfold SeqAt.shaped;rw[Tr.lay,Tr.depth,Hr h];rfl
theorem bT.ty {K:PySem.W.Frag}(h:bT H v t):kG K H v (if t.isCol then .type "int" else .type "tuple"):=by
 cases h with
 | col i=>exact .int i
 | four e=>exact .tup e
section
variable {elt tg iter cnd:Expr}{ifs:List Expr}{scope:Scope}{N':List Str}{wi:TI}{g:TG}{te:TE}{tt:TT}
theorem yj (xs B:List Str)(is:List Nat)(k:Nat)(ok:l9 X N' scope xs B is k)(hi:PI X tg iter wi)(hg:∀ C s0 H0 fp pins,PG (bg X N' scope xs C s0 H0 fp pins) tg g)(ht:∀ C s0 H0 fp pins,PTs (bg X N' scope xs C s0 H0 fp pins) ifs tt)(he:∀ C s0 H0 fp pins,PE (bg X N' scope xs C s0 H0 fp pins) elt te)
  (G:X.N.Nodup) (O:X.N[i0]? = some y) (hy:Loc X.env.scope y) (U:swapsWith (.ListComp elt [⟨tg,iter,ifs,0⟩] scope pos) (some (.Name y py)) spos.line X.env=pure true) (hf:X.fn y=true∨X.env.scope.names.lookup y=some .local)
  (hs:∀ x,foldedSetIterable iter X.env x=pure x:=by intro _;rfl):PS X (.Assign [.Name y py] (.ListComp elt [⟨tg,iter,ifs,0⟩] scope pos) spos) (zi (iJ is k wi g tt te) (oj i0)):=by
 intro pins s σ H D0 I h;rw[exec_Assign_Name_used _ _ _ _ U];refine Ho (wpAny_standAt (Ho ?_));refine Ho (IJ (sA (use:=some (assign (.Name y py) X.env)) (Qf:=fun _ s'=>SP X pins D0 .next s') xs B is k ok hi hg ht he hs I h fun d C H' s' J m hm f nL s0 nC nP q =>?_) (fun _ s' hq=>HJ (HJ hq)) fun _ _ e=>e);refine wpAny_assign_Name (rW J G O hy (v:=.ref d) rfl (fun s5 J5 Y =>?_) hf);obtain⟨a,sb,ha⟩:=Y;have a0:C≠a:=by
  rcases ha with rfl|ha
  ·exact nL
  ·exact Ne.symm (nC _ _ ha)
 exact⟨m,hm.sameBut sb a0,fun h' a1=>⟨_,H',J5.turned (t':=s5.toks) (fun b o hb e=>(a1.2 b hb).trans e) f nL (.inr s0) nC nP,q⟩⟩
theorem Dd (xs B:List Str)(is:List Nat)(k:Nat)(ok:l9 X N' scope xs B is k)(hi:PI X tg iter wi)(U:∀ C s0 H0 fp pins,PG (bg X N' scope xs C s0 H0 fp pins) tg g)(Y:∀ C s0 H0 fp pins,PE (bg X N' scope xs C s0 H0 fp pins) elt te)
  (G:X.N.Nodup) (J:X.N[i0]? = some y) (hy:Loc X.env.scope y) (O:swapsWith (.ListComp elt [⟨tg,iter,[],0⟩] scope pos) (some (.Name y py)) spos.line X.env=pure true:=by rfl) (hf:X.fn y=true∨X.env.scope.names.lookup y=some .local:=by first | exact .inl rfl | exact .inr rfl | assumption)
  (hs:∀ x,foldedSetIterable iter X.env x=pure x:=by intro _;rfl):PS X (.Assign [.Name y py] (.ListComp elt [⟨tg,iter,[],0⟩] scope pos) spos) (zi (sS is k wi g te) (oj i0)):=by
 rw[sC];exact yj xs B is k ok hi U (fun _ _ _ _ _=>yi) Y G J hy O hf hs
theorem vq (xs B:List Str)(is:List Nat)(k:Nat)(ok:l9 X N' scope xs B is k)(hi:PI X tg iter wi)(U:∀ C s0 H0 fp pins,PG (bg X N' scope xs C s0 H0 fp pins) tg g)(Y:∀ C s0 H0 fp pins,PT (bg X N' scope xs C s0 H0 fp pins) cnd tt)(he:∀ C s0 H0 fp pins,PE (bg X N' scope xs C s0 H0 fp pins) elt te)
  (G:X.N.Nodup) (J:X.N[i0]? = some y) (hy:Loc X.env.scope y) (O:swapsWith (.ListComp elt [⟨tg,iter,[cnd],0⟩] scope pos) (some (.Name y py)) spos.line X.env=pure true:=by rfl) (hf:X.fn y=true∨X.env.scope.names.lookup y=some .local:=by first | exact .inl rfl | exact .inr rfl | assumption)
  (hs:∀ x,foldedSetIterable iter X.env x=pure x:=by intro _;rfl):PS X (.Assign [.Name y py] (.ListComp elt [⟨tg,iter,[cnd],0⟩] scope pos) spos) (zi (iJ is k wi g tt te) (oj i0)) :=
 yj xs B is k ok hi U (fun C s0 H0 fp pins=>yh (Y C s0 H0 fp pins)) he G J hy O hf hs
end
section
end
section
theorem tK {K:PySem.W.Frag}(G:X.calm=true)(h:PGs X es t)(J:X.K=K:=by rfl)
  (O:(assignEach es X.env).length=n:=by rfl) (B:(assignEach es X.env).findIdx? (·.1)=none:=by rfl):PG X (.Tuple es k pos) (Gy K n t):=by
 subst J;exact iV G h O B
end
def GV (t:TS):TS:=fun D σ H=>∃ Pv:St→Hp→Prop,t { D with nx:=Pv } σ H∧∀ σ' H',Pv σ' H'→D.nx σ' H'
section
variable {st:Stmt}{t:TS}
theorem Bk (h:PS X st t):PS X st (GV t):=by
 intro pins s σ H D I ⟨Pv,h1,h2⟩;refine thn (h pins s σ H { D with nx:=Pv } I h1) fun f J q =>?_;cases f with
 | next =>
  obtain⟨B,H',G,q⟩:=q;exact⟨B,H',G,h2 _ _ q⟩
 | ret v=>exact q
 | brk=>exact q
 | cont=>exact q
end
section
variable {w:World}{E:Value→Shared→Prop}
end
section
variable {tg:Expr}
end
section
variable {σ0 cs:St}{k:Nat}{g:TG}{te:TE}{tt:TT}{H1:Hp}{Q:VK}
theorem jV (xs:List V)(Pv:Addr→Nat→List V→Hp→Prop)(hn:xs.length≤sizeLine)(O:∀ D i ys H,Pv D i ys H→SqL K H a xs)
  (hl:∀ D i ys H,Pv D i ys H→H D=some (.lst ys)∧ys.length≤i) (h0:∀ D,H1 D=none→Pv D 0 [] (upd H1 D (.lst [])))
  (hs:∀ D i x ys H,xs[i]? = some x→H1 D=none→Pv D i ys H→g x σ0 H fun U H3=>U.drop k=cs∧tt U H3 fun b Y=>if b=true then te U Y fun y H5=>H5 D=some (.lst ys)∧Pv D (i + 1) (ys++[y]) (upd H5 D (.lst (ys++[y]))) else Pv D (i + 1) ys Y)
  (hd:∀ D ys H,H1 D=none→Pv D xs.length ys H→Q (.ref D) H) (mono:∀ x σ H (R B:St→Hp→Prop),(∀ σ' H',R σ' H'→B σ' H')→g x σ H R→g x σ H B)
  (G:∀ σ H (R B:VK),(∀ v H',R v H'→B v H')→te σ H R→te σ H B) (J:∀ σ H (R B:Bool→Hp→Prop),(∀ v H',R v H'→B v H')→tt σ H R→tt σ H B):mX σ0 k cs g tt te Q (Itl K a) H1 :=
 sD xs.length (fun i x=>xs[i]? = some x) Pv hn (fun D i ys H hi p=>⟨xs,xs[i],O D i ys H p,by simp[hi]⟩) (fun D ys H p=>⟨xs,O D _ ys H p,Ht _⟩)
  (fun D i ys H x H' hi p y=>⟨y.1,y.2 xs (O D i ys H p)⟩) hl h0 (fun D i x ys H hi hx hD p=>hs D i x ys H hx hD p) hd mono G J
end
section
variable {o e:Expr}{es:List Expr}{to:TE}{t:TA}{name:Str}{apos cpos:Pos}{T id:String}{r:V→List V→Hp→VK→Prop}
end
end L2
namespace L2
open PySem PySem.Spec PySem.Calls PyProof.Rows
variable {H:Hp}{X:Cx}{s:Shared}{pos:Pos}{prog:Program}{A:Around}{K:PySem.W.Frag}
section
end
section
variable {σ0 cs:St}{k:Nat}{g:TG}{te:TE}{tt:TT}{H1:Hp}{Q:VK}
theorem Al (Pv:Addr→Nat→List V→Hp→Prop)(U:n≤sizeLine)
  (Y:∀ D i ys H,Pv D i ys H→H D=some (.lst ys)∧ys.length≤i) (h0:∀ D,H1 D=none→Pv D 0 [] (upd H1 D (.lst [])))
  (hs:∀ D i ys H,i < n→H1 D=none→Pv D i ys H→g (g' i) σ0 H fun J H3=>J.drop k=cs∧te J H3 fun y O=>O D=some (.lst ys)∧Pv D (i + 1) (ys++[y]) (upd O D (.lst (ys++[y]))))
  (hd:∀ D ys H,H1 D=none→Pv D n ys H→Q (.ref D) H) (mono:∀ x σ H (R G:St→Hp→Prop),(∀ σ' H',R σ' H'→G σ' H')→g x σ H R→g x σ H G)
  (B:∀ σ H (R G:VK),(∀ v H',R v H'→G v H')→te σ H R→te σ H G):qT σ0 k cs g te Q (Itg n g') H1 :=
 wq n (fun i x=>x=g' i) Pv U (fun D i ys H hi p=>hi) (fun D ys H p=>Ht _)
  (fun D i ys H x H' hi p y=>y) Y h0 (fun D i x ys H hi hx hD p=>hx▸hs D i ys H hi hD p) hd mono B
end
section
end
section
variable {P:Program}{w:World}{mg:Str→Option Value}{base:Heap}
end
section
variable {CX:CXT}{j k:Nat}{ps:List Str}{sp:Sp}{x:Str}{p:Pos}{e:Expr}{es:List Expr}{t:TA}
def xB:V→Bool
 | .str _=>true
 | _=>false
theorem nr (G:A.units < cLine)(h:(∃ is,s.heap.IsList a is)∨(∃ is,s.heap.IsTuple a is)):∀ {xs:List V} {us:List Value},ba xs us→xs.all xB=true→∀ u∈us,SeqAt.EqAt A s u (.ref a) false
 | _,_,.nil,_=>fun u G=>by cases G
 | y::xs,u::us,.cons r t,f=>fun J B=>by
  rw[KB,IW]at f;rcases HZ.mp B with rfl | B
  ·cases y with
   | str z =>
    obtain⟨t,rfl⟩:=r;rcases h with⟨is,h⟩|⟨is,h⟩
    ·exact SeqAt.EqAt.str_list z t h G
    ·exact SeqAt.EqAt.str_tuple z t h G
   | _=>exact absurd f.1 (by simp[xB])
  ·exact nr G h t f.2 J B
theorem sL {us:List Value}:us.any (fun _=>false)=false:=by induction us with
 | nil=>rfl
 | cons a r ih=>rw[JZ,ih];rfl
def G4 (K:PySem.W.Frag)(neg:Bool):R2:=fun x y H Q=>∃ p xs,y=.ref p∧(SqL K H p xs∨SqT K H p xs)∧((jS x=true∧xs.all jS=true∧Q (.bl (if neg then !inV x xs else inV x xs)) H)∨(∃ a ys,x=.ref a∧(SqL K H a ys∨SqT K H a ys)∧xs.all xB=true∧Q (.bl neg) H))
theorem E6 (hr:cY k X.A):OpR X (compareOp .In) (G4 X.K false):=by
 intro pins s σ H x y v u Q I U Y h;obtain⟨p,xs,rfl,G,h⟩:=h;rcases h with⟨fx,fs,q⟩ | ⟨a,ys,rfl,J,fs,q⟩
 ·exact zN pins s σ H x _ v u Q I U Y ⟨p,xs,rfl,G,fx,fs,q⟩
 cases Y;cases U;have hu:X.A.in1.units < cLine:=by have:=hr.un;show X.A.units + 1 < cLine;lia
 have hs:(∃ is,s.heap.IsList a is)∨(∃ is,s.heap.IsTuple a is):=by
  rcases J with J|J
  ·obtain⟨its,_,B,_⟩:=I.list J;exact .inl ⟨_,B.isList⟩
  ·obtain⟨its,_,B,_⟩:=I.tuple J;exact .inr ⟨_,B⟩
 rcases G with G|G
 ·obtain⟨its,r,B,hz⟩:=I.list G;refine SeqAt.in_listAt (fun _=>false) B.isList (fun w O=>nr hu hs r fs w (by simpa using O)) ⟨.bl _,H,I,rfl,?_⟩;rw[show its.toArray.any (fun _=>false)=its.any (fun _=>false) by simp,sL];exact q
 ·obtain⟨its,r,B,hz⟩:=I.tuple G;refine SeqAt.in_tupleAt (fun _=>false) B (fun w O=>nr hu hs r fs w (by simpa using O)) ⟨.bl _,H,I,rfl,?_⟩;rw[show its.toArray.any (fun _=>false)=its.any (fun _=>false) by simp,sL];exact q
end
end L2
namespace Qs
open PySem L2
theorem de (z:Str):z.length=z.cps.toList.length:=by
 show z.cps.size=z.cps.toList.length;rw[Il]
def IsC (z:Str):Prop:=∀ c∈z.cps.toList,48≤c∧c≤51
def dig (z:Str):List Nat:=z.cps.toList.map (· - 48)
def cxs (ds:List Nat):Nat:=ds.foldl (fun a d=>a * 2 + d % 2) 0
def cys (ds:List Nat):Nat:=ds.foldl (fun a d=>a * 2 + d / 2) 0
theorem wk (ds:List Nat)(d:Nat):cxs (ds++[d])=cxs ds * 2 + d % 2:=by simp[cxs]
theorem wj (ds:List Nat)(d:Nat):cys (ds++[d])=cys ds * 2 + d / 2:=by simp[cys]
theorem cF (z:Str):(dig z).length=z.length:=by simp[dig,de]
theorem uE (h:i < z.length):(dig z)[i]? = some (z.cps.getD i 0 - 48):=by
 have h':i < z.cps.size:=h;simp[dig,IF,h']
theorem mV (h:i < z.length):(dig z).take (i + 1)=(dig z).take i++[z.cps.getD i 0 - 48]:=by
 rw[List.take_succ,uE h];rfl
theorem tf (B:IsC z)(h:i < z.length):48≤z.cps.getD i 0∧z.cps.getD i 0≤51:=by
 have h':i < z.cps.size:=h;refine B _ ?_;have e:z.cps.getD i 0=z.cps[i]:=by simp[IF,h']
 rw[e];exact Array.getElem_mem_toList h'
def one (d:Nat):Str:=⟨#[48 + d]⟩
theorem kh (B:IsC z)(h:i < z.length):∃ d,d < 4∧sgn z i=one d∧z.cps.getD i 0 - 48=d:=by
 obtain⟨h1,h2⟩:=tf B h;refine⟨z.cps.getD i 0 - 48,by lia,?_,rfl⟩;unfold sgn one;have e:48 + (z.cps.getD i 0 - 48)=z.cps.getD i 0:=by lia
 rw[e]
theorem four {P:Nat→Prop}(B:P 0)(h1:P 1)(h2:P 2)(G:P 3){d:Nat}(h:d < 4):P d:=by
 rcases d with _|_|_|_|d
 ·exact B
 ·exact h1
 ·exact h2
 ·exact G
 ·lia
theorem mL {d:Nat}(h:d < 4):PySem.intText? (one d)=some (d:Int) :=
 four (P:=fun d=>PySem.intText? (one d)=some (d:Int)) (by decide +kernel) (by decide +kernel) (by decide +kernel) (by decide +kernel) h
theorem IsC.nil:IsC ⟨#[]⟩:=fun c h=>by simp at h
theorem IsC.app (B:IsC a)(G:IsC b):IsC (a++b):=fun c h=>by
 have e:(a++b).cps.toList=a.cps.toList++b.cps.toList:=by
  show (a.cps++b.cps).toList=_;simp
 rw[e]at h;rcases HD.mp h with h | h
 ·exact B c h
 ·exact G c h
theorem IsC.one (h:d < 4):IsC (one d):=fun c B=>by
 have e:c=48 + d:=by simpa[Qs.one] using B
 lia
end Qs
namespace L2
open PySem PySem.Spec PyProof.Rows
variable {H:Hp}{X:Cx}{s:Shared}{pos:Pos}{prog:Program}{A:Around}{K:PySem.W.Frag}
section
theorem yq (h:∃ t,X.mg x=some (.int i t))(B:Gl X x:=by rfl)(G:(x == ("__debug__" : Str))=false:=by decide):PE X (.Name x pos) (tC (.int i)):=by
 obtain⟨t,h⟩:=h;exact km B h ⟨t,rfl⟩ G
theorem Do (h:∃ t,X.mg x=some (.str z t))(B:Gl X x:=by rfl)(G:(x == ("__debug__" : Str))=false:=by decide):PE X (.Name x pos) (tC (.str z)):=by
 obtain⟨t,h⟩:=h;exact km B h ⟨t,rfl⟩ G
theorem d9 (B:X.mg x=none)(G:bootBuiltins x=some (.type n))(J:Gl X x:=by rfl)(O:x ≠ "__name__" := by decide)(U:(x == ("__debug__" : Str))=false:=by decide):PE X (.Name x pos) (tC (.ty n)) :=
 Dr J B G rfl O U
end
theorem ak.new (h:H p=none)(o:HO):ak H (upd H p o):=fun b u q=>by rw[aH (bH q h)];exact q
theorem ak.set (h:ak H H')(B:H p=none)(o:HO):ak H (upd H' p o):=fun b u q=>by rw[aH (bH q B)];exact h b u q
theorem G6 (h:k≤63):-(2 ^ 64) < ((2 ^ k:Nat):Int)∧((2 ^ k:Nat):Int) < 2 ^ 64:=by
 have h1:=IU (show 0 < 2 by decide) h;generalize (2 ^ k:Nat)=m at h1
 lia
theorem small (h:n≤1000):n≤sizeLine:=Jk (cz h)
def t0:PySem.Expr→Bool
 | .Starred _ _=>false
 | _=>true
theorem CQ (h:t0 e=true):starEach (e::es) env=(false,eval e env)::starEach es env:=by
 cases e<;>first | rfl | (cases h)
theorem G8 (B:PE X e te)(G:PA X es t)(h:t0 e=true:=by rfl):PA X (e::es) (xU te t):=aa B G (CQ h)
theorem Bu (B:PE X k tk)(G:PE X v tv):PE X (.Dict [some k] [v] pos) (Eo [(tk,tv)]) :=
 Dp (Bo B G Di) rfl rfl (by simp) (by show 1≤15;decide)
structure PAx (X:Cx)(es:List PySem.Expr)(t:TA):Prop where
 h:PA X es t
section
variable {e:PySem.Expr}{es:List PySem.Expr}{te:TE}{t:TA}
theorem am:PAx X [] AJ:=⟨af⟩
theorem ap (B:PE X e te)(G:PAx X es t)(h:t0 e=true:=by rfl):PAx X (e::es) (xU te t):=⟨G8 B G.h h⟩
theorem aD {x1}(h:PAx X es t):PE X (.Tuple es x1 pos) (FR t):=EY h.h
theorem aK (h:PAx X es t):PE X (.List es pos) (FV t):=EZ h.h
end
end L2
namespace L2
open PySem PySem.Spec PySem.Calls PyProof.Rows
variable {H:Hp}{X:Cx}{s:Shared}{pos:Pos}{prog:Program}{A:Around}{K:PySem.W.Frag}
section
end
def Dy:PySem.Expr→Bool
 | .ListComp _ _ _ _=>false
 | .SetComp _ _ _ _=>false
 | .DictComp _ _ _ _ _=>false
 | _=>true
theorem ma (h:Dy e=true):swapsWith e t l env=pure false:=by
 cases e<;>first | rfl | (cases h)
section
variable {st:Stmt}{rest:List Stmt}{t u:TS}
end
section
variable {P:Program}{w:World}{mg:Str→Option Value}{base:Heap}
end
section
end
namespace HT
section
variable {w:World}{E:Value→Shared→Prop}
end
end HT
section
end
section
variable {σ0 cs:St}{k:Nat}{g:TG}{te:TE}{H1:Hp}{Q:VK}
end
section
end
section
variable {w:World}{E:Value→Shared→Prop}
end
section
variable {pins:List (Addr × Obj)}{σ:St}
end
end L2
namespace L2
open PySem PySem.Spec PySem.Calls PyProof.Rows PySem.W
variable {H:Hp}{X:Cx}{s:Shared}{pos:Pos}{prog:Program}{A:Around}{K:PySem.W.Frag}
section
variable {N:Nat}{f:Nat→Int}
end
section
variable {w:World}{E:Value→Shared→Prop}
end
theorem sF:bootBuiltins "sorted" = some (.builtin "sorted"):=by decide +kernel
section
variable {pins:List (Addr × Obj)}{σ:St}{H':Hp}{h':Heap}
theorem oC {h:Heap}{vs:List Value}{out:Array Value}{b:Addr}{o:Obj}(e:h.get? b=some o):(sortedHeap (h.push (seqObj "list" vs.toArray 0)) h.objs.size vs out).get? b=some o:=by
 rw[sortedHeap_old (Ik (HL e)) (by rw[size_push'];exact Ka (HL e))];exact Hq _ e
theorem rp {h:Heap}{vs:List Value}{out:Array Value}:∃ n,(sortedHeap (h.push (seqObj "list" vs.toArray 0)) h.objs.size vs out).get? h.objs.size=some (seqObj "list" out n) :=
 sortedHeap_at (n:=0) (HQ _ rfl)
end
end L2
namespace L2
open PySem PySem.Spec PySem.Calls PyProof.Rows
variable {H:Hp}{X:Cx}{s:Shared}{pos:Pos}{prog:Program}{A:Around}{K:PySem.W.Frag}
section
theorem cY.dic (r:cY k A):A.units + 1 < PySem.cLine:=by have:=r.un;lia
end
end L2
namespace L2
open PySem PySem.Spec PySem.Calls PyProof.Rows PySem.W
variable {H:Hp}{X:Cx}{s:Shared}{pos:Pos}{prog:Program}{A:Around}{K:PySem.W.Frag}
section
variable {pins:List (Addr × Obj)}{σ:St}{Z:List (Addr × Obj)}
end
section
variable {P:Program}{w:World}{mg:Str→Option Value}{base:Heap}{Z:List (Addr × Obj)}
end
section
variable {CX:CXT}{k j:Nat}{f:Addr}{fd:FuncData}{ps:List Str}{sp:Sp}{x:Str}{p:Pos}{e:Expr}{es:List Expr}{t:TA}{Z:List (Addr × Obj)}
end
structure wF (ps caps:List Str)(scope:Scope):Prop where
 kind:scope.kind=.function
 gen:scope.isGenerator=false
 co:scope.isCoroutine=false
 nd:ps.Nodup
 loc:∀ x∈ps,scope.names.lookup x=some .local
 nocell:∀ y∈scope.names,y.2≠.cell
 free:∀ y∈scope.names,y.2=.free→y.1∈caps
 caps:∀ x∈caps,scope.names.lookup x=some .free
def oq (c:Addr)(qual:Str):HO:=.ext fun h=>h.CodeRec (.ref c) qual
def isE (a:Addr)(o:Obj):HO:=.ext fun h=>h.get? a=some o
theorem B6 (e:h.get? a=some o):bF P w H h a (isE a o):=⟨e,⟨o,e⟩,fun _ _ B k=>k _ B⟩
theorem Cs (e:h.CodeRec (.ref c) qual):bF P w H h c (oq c qual):=by
 refine⟨e,?_,fun h1 h2 G k =>?_⟩
 ·obtain⟨_,o,vs,t,z,B,_⟩:=e;cases z;exact⟨o,B⟩
 ·obtain⟨_,o,vs,t,z,B,r⟩:=G;cases z;exact⟨c,o,vs,t,rfl,k _ B,r⟩
section
variable {CX:CXT}{k j:Nat}{f:Addr}{fd:FuncData}{ps:List Str}{sp:Sp}{x:Str}{p:Pos}{e:Expr}{es:List Expr}{t:TA}{Z:List (Addr × Obj)}
end
def GI (H:Hp)(P:Addr)(qual:Str):Prop:=∃ ps:Array Value,H P=some (.tbl ps)∧TriplesOk ps.toList∧∀ pos cv,codeAmong pos ps.toList=some cv→∃ c',cv=.ref c'∧H c'=some (oq c' qual)
def fz (T:List (Addr × Str))(H:Hp):Prop:=∀ q∈T,GI H q.1 q.2
def ck (T:List (Addr × Str))(H H':Hp):Prop:=∀ b o,H b=some o→b∉T.map (·.1)→H' b=some o
theorem ak.toT (s:ak H H'):ck T H H':=fun b o e _=>s b o e
theorem ck.refl (H:Hp):ck T H H:=fun _ _ h _=>h
theorem ck.trans (a:ck T H H1)(b:ck T H1 H2):ck T H H2:=fun c o h n=>b c o (a c o h n) n
theorem ak.tabs (s:ak H H')(t:fz T H):fz T H':=fun q B=>by
 obtain⟨ps,h1,h2,G⟩:=t q B;refine⟨ps,s _ _ h1,h2,fun pos J e =>?_⟩;obtain⟨O,U,Y⟩:=G pos J e;exact⟨O,U,s _ _ Y⟩
theorem fz.apart (t:fz T H)(e:H b=some o)(n:∀ ps,o≠.tbl ps):b∉T.map (·.1):=fun B=>by
 obtain⟨q,G,rfl⟩:=Hz.mp B;obtain⟨ps,h1,_⟩:=t q G;rw[e]at h1;cases h1;exact n ps rfl
theorem ck.keep (s:ck T H H')(t:fz T H)(e:H b=some o)(n:∀ ps,o≠.tbl ps):H' b=some o:=s b o e (t.apart e n)
theorem qU {pos pos':Pos}{c B:Value}(l:List Value)(h:TriplesOk l)(e:codeAmong pos (l++[rawInt pos'.line,rawInt pos'.col,c])=some B):codeAmong pos l=some B∨B=c:=by
 fun_induction TriplesOk l with
 | case1 =>
  simp only[IV,rawInt,codeAmong]at e
  split at e
  ·exact .inr (Option.some.inj e).symm
  ·cases e
 | case2 a t b u x rest ih =>
  simp only[List.cons_append,codeAmong]at e ⊢
  split at e
  ·rename_i hc
   rw[if_pos hc];exact .inl e
  ·rename_i hc
   rw[if_neg hc];exact ih h e
 | case3 l h1 h2=>exact h.elim
def ni (mg:Str→Option Value)(h:Heap):Prop:=∃ bm,(∃ ob,(mg "__builtins__" = some (.ref bm)∧bm≠builtinsNs∧h.get? bm=some ob∧ob.cls=.type "module" ∧ ob.dict=some builtinsNs∧ob.data=.plain))
def GS (T:List (Addr × Str))(qual:Str)(mk:Addr→Value→Obj):TE:=fun _ H Q=>fz T H∧∀ fa c' ctv H',H fa=none→H' fa=some (isE fa (mk c' ctv))→H' c'=some (oq c' qual)→fz T H'→ck T H H'→Q (.ref fa) H'
section
theorem E1 (xs:List Str)(hB:ni X.mg X.base)(hC:CodeHd X.base c P)(a0:X.env.code=.ref c)(hT:(P,qual)∈T)(c4:(T.map (·.1)).Nodup)(hq:X.env.qual ++ "<lambda>" = qual)
  (a1:closureFor scope X.env=pure (clo X.env xs)) (b8:defaultsOf params X.env=([],[]):=by rfl) :
  PE X (.Lambda params body scope pos) (GS T qual fun G O=>kla_obj "<lambda>" qual params body scope (clo X.env xs) ((X.mg "__name__").getD .none) G O):=by
 intro pins s σ H Q I h;obtain⟨a2,h⟩:=h;obtain⟨ps,Y,ht,a9⟩:=a2 (P,qual) hT;have a3:s.heap.get? P=some (tabObj ps):=I.hok P _ Y;have a6:s.heap.Ns mainGlobals X.mg:=I.ok.mod.glob.keeps I.bk;have c5:mainGlobals≠P:=fun q=>by
  obtain⟨o,es,ep,e,hd,_⟩:=a6;rw[q,a3]at e;cases e;cases hd
 obtain⟨bm,ob,b1,b2,b3,b4,b5,b6⟩:=hB;have b3':=I.bk _ _ b3;have c6:bm≠P:=fun q=>by
  rw[q,a3]at b3';cases b3';cases b4
 have c7:bm≠mainGlobals:=fun q=>by
  obtain⟨o,es,ep,e,hd,_⟩:=a6;rw[q,e]at b3';cases b3';rw[hd]at b6;cases b6
 have b9:s.heap.BuiltinsAt X.mg P:=⟨bm,ob,b1,b2,c7,c6,b3',b4,b5,b6⟩;refine kla_eval b8 ?_;rw[hq];cases hf:codeAmong pos ps.toList with
 | none =>
  refine kla_makeFunction a1 I.ok.glob a6 a0 (hC.keeps I.bk) a3 ht hf c5 b9 fun G O h' tk hx a7 c0 c1 c2 =>?_;generalize a4:kla_obj "<lambda>" qual params body scope (clo X.env xs) ((X.mg "__name__").getD .none) G O=B
  have c3:P < s.heap.objs.size:=HL a3;have c8:G≠P:=Jo (HS c3 a7);have b0:s.heap.objs.size≤h'.objs.size:=Jk (Jp a7 c0);have c9:h'.objs.size≠P:=Jo (HS c3 b0);have d0:h'.objs.size≠G:=Jo c0;have a5:H h'.objs.size=none:=I.hok.fresh b0;have nc:H G=none:=I.hok.fresh a7;have a8:∀ b o,b≠P→s.heap.get? b=some o→(h'.push B).get? b=some o:=fun b o hb e=>Hq _ (hx b o hb e)
  let H':Hp:=upd (upd (upd H P (.tbl (ps ++ #[rawInt pos.line,rawInt pos.col,.ref G]))) G (oq G qual)) h'.objs.size (isE h'.objs.size B)
  have e1:H' h'.objs.size=some (isE h'.objs.size B):=ah;have e2:H' G=some (oq G qual):=by show upd _ _ _ _=_;rw[aH (Ne.symm d0),ah]
  have e3:H' P=some (.tbl (ps ++ #[rawInt pos.line,rawInt pos.col,.ref G])):=by show upd _ _ _ _=_;rw[aH (Ne.symm c9),aH (Ne.symm c8),ah]
  have e4:∀ b,b≠P→b≠G→b≠h'.objs.size→H' b=H b:=fun b n1 n2 n3=>by show upd _ _ _ _=_;rw[aH n3,aH n2,aH n1]
  have e5:∀ b o,H b=some o→b≠P→H' b=some o:=fun b o e n=>by rw[e4 b n (bH e nc) (bH e a5)];exact e
  have hrec':(h'.push B).CodeRec (.ref G) qual:=by
   obtain⟨c₂,o₂,d1,t₂,z,g₂,r₂⟩:=c1;exact⟨c₂,o₂,d1,t₂,z,Hq _ g₂,r₂⟩
  have b7:B.isFreed=false:=by rw[← a4];rfl
  have J:Inv X pins σ H' { s with heap:=h'.push B,toks:=tk }:=by
   refine I.un ⟨fun b u q n _ _=>a8 b u (fun z=>by rw[z,Y]at n;cases n) q,fun b u q n _ _=>⟨u.slots,a8 b u (fun z=>by rw[z,Y]at n;cases n) q⟩,fun b u q n _ =>?_,fun b u q _ =>?_,fun b xs q=>e5 b _ q (fun z=>by rw[z,Y]at q;cases q),fun b u xs q=>e5 b _ q (fun z=>by rw[z,Y]at q;cases q),fun b qs q =>?_⟩ fun b u q =>?_
   ·have hb:=HL q;rw[e4 b (fun z=>by rw[z,Y]at n;cases n) (Ik (HS hb a7)) (Ik (HS hb b0))];exact n
   ·by_cases hb:b=P
    ·rw[hb];exact⟨_,Hq _ c2⟩
    ·exact⟨u,a8 b u hb q⟩
   ·by_cases hb:b=P
    ·rw[hb,Y]at q;cases q;exact⟨_,by rw[hb];exact e3⟩
    ·exact⟨#[],by rw[e5 b _ q hb];simp⟩
   ·by_cases h1:b=h'.objs.size
    ·subst h1;rw[e1]at q;cases q;exact B6 (HQ _ b7)
    ·by_cases h2:b=G
     ·subst h2;rw[e2]at q;cases q;exact Cs hrec'
     ·by_cases h3:b=P
      ·subst h3;rw[e3]at q;cases q;exact Hq _ c2
      ·rw[e4 b h3 h2 h1]at q;refine (I.hok b u q).stay (fun d v hd r=>a8 d v ?_ r) (fun d r=>e5 d _ r fun z=>by rw[z,Y]at r;cases r) fun d xs r=>e5 d _ r fun z=>by rw[z,Y]at r;cases r
       rcases hd with rfl|hd
       ·exact h3
       ·intro z;rw[z,Y]at hd;cases hd
  refine⟨.ref h'.objs.size,H',J,rfl,h _ G O H' a5 (by dsimp only;rw[a4];exact e1) e2 (fun q hq =>?_) fun b o e n=>e5 b o e fun z=>n (by rw[z];exact Hz.mpr ⟨_,hT,rfl⟩)⟩;by_cases hqP:q.1=P
  ·have d2:q=(P,qual):=by
    have:∀ (l:List (Addr × Str)),(l.map (·.1)).Nodup→q∈l→(P,qual)∈l→q.1=P→q=(P,qual):=by
     intro l
     induction l with
     | nil=>intro _ h;cases h
     | cons y r ih =>
      intro nd h1 h2 h3;rw[Ig,IZ]at nd;rcases HZ.mp h1 with z1 | z1
      ·rcases HZ.mp h2 with U|U
       ·exact z1.trans U.symm
       ·exact absurd (Hz.mpr ⟨_,U,by rw[← z1];exact h3.symm⟩) nd.1
      ·rcases HZ.mp h2 with U|U
       ·exact absurd (Hz.mpr ⟨_,z1,by rw[← U];exact h3⟩) nd.1
       ·exact ih nd.2 z1 U h3
    exact this T c4 hq hT hqP
   subst d2;refine⟨_,e3,?_,fun pos' cv e =>?_⟩
   ·rw[IE];exact TriplesOk_snoc _ _ _ _ ht
   ·rw[IE]at e;rcases qU _ ht e with e | e
    ·obtain⟨d,z1,U⟩:=a9 _ _ e;exact⟨d,z1,e5 d _ U fun z=>by rw[z,Y]at U;cases U⟩
    ·exact⟨G,e,e2⟩
  ·obtain⟨qs,g1,g2,g3⟩:=a2 q hq;refine⟨qs,e5 _ _ g1 hqP,g2,fun pos' cv e =>?_⟩;obtain⟨d,z1,U⟩:=g3 _ _ e;exact⟨d,z1,e5 d _ U fun z=>by rw[z,Y]at U;cases U⟩
 | some cv =>
  obtain⟨G,rfl,d3⟩:=a9 _ _ hf;refine kla_makeFunctionHit a1 I.ok.glob a6 a0 (hC.keeps I.bk) a3 ht hf b9 fun O h' tk hk hsz =>?_;show EP X pins σ Q (.ref h'.objs.size) { s with heap:=h'.push (kla_obj "<lambda>" qual params body scope (clo X.env xs) ((X.mg "__name__").getD .none) G O),toks:=tk }
  generalize a4:kla_obj "<lambda>" qual params body scope (clo X.env xs) ((X.mg "__name__").getD .none) G O=B
  have b7:B.isFreed=false:=by rw[← a4];rfl
  have a5:H h'.objs.size=none:=I.hok.fresh hsz;have sm:ak H (upd H h'.objs.size (isE h'.objs.size B)):=fun b o e=>by rw[aH (bH e a5)];exact e
  refine⟨.ref h'.objs.size,_,I.laid (a:=h'.objs.size) (o:=isE h'.objs.size B) (h':=h'.push B) (t':=tk) (fun b u e=>Hq _ (hk b u e)) hsz (B6 (HQ _ b7)),rfl,h _ G O _ a5 (by dsimp only;rw[a4];exact ah) (sm _ _ d3) (sm.tabs a2) sm.toT⟩
end
theorem zZ {P:Program}{w:World}{K:PySem.W.Frag}{mg mb:Str→Option Value}{CX:CXT}{k:Nat}{fa a:Addr}{fd:FuncData}{x:Str}{sp:Sp}{B:Shared}{vs:List Value}{ns:List Int}{Ps:List Addr}
  (KX:K.In B.heap) (a2:B.heap.Ns mainGlobals mg) (G:B.heap.Ns builtinsNs mb) (b0:∀ x:Str,x ≠ "__name__" → mb x=bootBuiltins x) (a3:B.heap.NoLimit) (hg:B.gens = #[])
  (ha:B.heap.get? a=some { cls:=.type "list",data:=.seq vs.toArray }) (hi:IntsAre vs ns) (hl:ns.length≤sizeLine) (hr:cY k callerA)
  (b7:ni mg B.heap) (O:∀ P∈Ps,B.heap.get? P=some (tabObj #[])∧K.lookup P=none∧∃ c,CodeHd B.heap c P)
  (F:∀ base:Heap,K.In base→base.Ns mainGlobals mg→ni mg base→bA P w K mg base CX k fa fd [x] sp) (a1:∀ (s:Shared) (u:Value),BindsTo s fd ⟨[u],[]⟩ [(x,u)])
  (b8:∀ H:Hp,(∀ P∈Ps,H P=some (.tbl #[]))→SqL K H a (ns.map V.int)→sp [.ref a] H (fun v _=>v=.bl true) fun _ _ _=>False)
  (b9:∀ H e s',CX [] H B (fun _ _ _=>False) e s'→False) :
  codeAny (model P w) callerA (.call (.ref fa) ⟨[.ref a],[]⟩) (fun r s'=>r=.ok (.ret (.bool true))∧OldK B.heap s'.heap∧s'.os=B.os∧AllBare s'.gens) B:=by
 have rv:=rP hi;have a4:=hi.length;have a5:a∉Ps:=fun z=>by
  have:=(O a z).1
  rw[ha]at this;cases this
 have Y:∀ H:Hp,(∀ b,H b=none∨(b∈Ps∧H b=some (.tbl #[]))∨∃ o xs,H b=some (.frz o (.lst xs)))→(∀ P∈Ps,H P=some (.tbl #[]))→SqL K H a (ns.map V.int)→HOk P w H B.heap→(∀ b,H b≠none→b∈Ps∨b=a)→(H a≠none→K.lookup a=none) →
   codeAny (model P w) callerA (.call (.ref fa) ⟨[.ref a],[]⟩) (fun r s'=>r=.ok (.ret (.bool true))∧OldK B.heap s'.heap∧s'.os=B.os∧AllBare s'.gens) B:=by
  intro H hO hT hS a6 hA hK;have J:∀ {b:Addr} {o:Obj},B.heap.get? b=some o→H b=none→(rL B.heap H).get? b=some o:=fun e n=>B7 e n;have a7:∀ {b:Addr} {o:Obj},B.heap.get? b=some o→(∀ qs,o.data≠.fields qs)→(∀ qs n,o.data≠.seq qs n)→H b=none:=fun {b o} e d1 d2=>by
   cases q:H b with
   | none=>rfl
   | some u =>
    rcases hA b (by rw[q];simp) with e'|e'
    ·rw[(O b e').1]at e;cases e;exact absurd rfl (d1 #[])
    ·subst e';rw[ha]at e;cases e;exact absurd rfl (d2 _ _)
  have U:∀ {b:Addr} {m:Str→Option Value},B.heap.Ns b m→(rL B.heap H).Ns b m:=fun {b m} ⟨o,es,ep,e,d,r⟩=>⟨o,es,ep,J e (a7 e (fun qs z=>by rw[d]at z;cases z) (fun qs n z=>by rw[d]at z;cases z)),d,r⟩;have a8:K.In (rL B.heap H):=fun b o e=>J (KX b o e) (by
   cases q:H b with
   | none=>rfl
   | some u =>
    rcases hA b (by rw[q];simp) with e'|e'
    ·rw[(O b e').2.1]at e;cases e
    ·subst e';rw[hK (by rw[q];simp)]at e;cases e)
  have hM:Mod K mg (rL B.heap H):=⟨a8,U a2,⟨mb,U G,b0⟩,let ⟨mc,h1,h2⟩:=a3;⟨mc,U h1,h2⟩⟩;have c0:ni mg (rL B.heap H):=by
   obtain⟨bm,ob,b1,b2,b3,b4,b5,b6⟩:=b7;exact⟨bm,ob,b1,b2,J b3 (a7 b3 (fun qs z=>by rw[b6]at z;cases z) (fun qs n z=>by rw[b6]at z;cases z)),b4,b5,b6⟩
  have e0:Em P w K mg (rL B.heap H) callerA [] B H:=⟨rfl,hM,fun b o e=>Dx e,Nat.le_of_eq (Af _ _),trivial,fun b G=>absurd (show b∈([]:List Addr) from G) (by simp),a6,.of_eq hg⟩;refine codeAny_mono ((F _ a8 (U a2) c0).run callerA [] B H ⟨[.ref a],[]⟩ [.ref a] [.ref a] _ _ hr e0 (a1 B (.ref a)) (.cons rfl .nil) (b8 H hT hS)) fun r s' h =>?_;cases r with
  | error e=>exact (b9 H e s' h).elim
  | ok fl =>
   cases fl with
   | next=>exact False.elim h
   | brk=>exact False.elim h
   | cont=>exact False.elim h
   | ret u =>
    obtain⟨v,H',os,bare,un,a0,r',q⟩:=h;have q':v=.bl true:=q;subst q';obtain rfl:u=Value.bool true:=r';have nofs:∀ b:Addr,b∉frs []:=fun b z=>absurd (show b∈([]:List Addr) from z) (by simp);refine⟨rfl,⟨fun b o e =>?_,fun b o e=>un.there b o e (by simp)⟩,os,bare⟩;rcases hO b with q|⟨c1,q⟩|⟨ob,xs,z⟩
    ·exact .inl (un.keep b o e q (nofs b) (by simp))
    ·obtain⟨h1,h2,c,h3⟩:=O b c1;rw[h1]at e;cases e;obtain⟨a9,hm⟩:=un.tbls b _ q;exact .inr (.inl ⟨(h3.tab h1).isCodeTable,rfl,#[],a9,rfl,a0 b _ hm⟩)
    ·have z2:=un.frzs b ob _ z;obtain⟨e1,_⟩:=a6 b _ z;obtain⟨e2,_⟩:=a0 b _ z2;rw[e]at e1;cases e1;exact .inl e2
 cases hk:K.lookup a with
 | some o =>
  have e:=KX a o hk;rw[ha]at e;cases e;refine Y (fun b=>if b∈Ps then some (.tbl #[]) else none) (fun b =>?_) (fun P hP=>if_pos hP) (.inr ⟨_,vs.toArray,_,hk,rfl,rfl,rfl,by rw[HV,a4];exact hl,by simpa using rv⟩) (fun b u z =>?_) (fun b z =>?_) fun z=>absurd (if_neg a5) z
  ·by_cases G:b∈Ps
   ·exact .inr (.inl ⟨G,if_pos G⟩)
   ·exact .inl (if_neg G)
  ·by_cases G:b∈Ps
   ·have z':=(if_pos G).symm.trans z;cases z';exact (O b G).1
   ·have z':=(if_neg G).symm.trans z;cases z'
  ·by_cases G:b∈Ps
   ·exact .inl G
   ·exact absurd (if_neg G) z
 | none =>
  refine Y (fun b=>if b∈Ps then some (.tbl #[]) else if b=a then some (.frz { cls:=.type "list",data:=.seq vs.toArray } (.lst (ns.map V.int))) else none) (fun b =>?_) (fun P hP=>if_pos hP) (.inl (.inr ⟨{ cls:=.type "list",data:=.seq vs.toArray },(if_neg a5).trans (if_pos rfl)⟩)) (fun b u z =>?_) (fun b z =>?_) fun _=>hk
  ·by_cases G:b∈Ps
   ·exact .inr (.inl ⟨G,if_pos G⟩)
   ·by_cases hb2:b=a
    ·exact .inr (.inr ⟨_,_,(if_neg G).trans (if_pos hb2)⟩)
    ·exact .inl ((if_neg G).trans (if_neg hb2))
  ·by_cases G:b∈Ps
   ·have z':=(if_pos G).symm.trans z;cases z';exact (O b G).1
   ·have z:=(if_neg G).symm.trans z;by_cases hb2:b=a
    ·have z':=(if_pos hb2).symm.trans z;cases z';subst hb2;exact⟨ha,by rw[Hw];exact hl,vs,_,rv,ha⟩
    ·have z':=(if_neg hb2).symm.trans z;cases z'
  ·by_cases G:b∈Ps
   ·exact .inl G
   ·by_cases hb2:b=a
    ·exact .inr hb2
    ·exact absurd ((if_neg G).trans (if_neg hb2)) z
def rV (K:PySem.W.Frag)(cd:Value):Option Addr:=match cd with
 | .ref c=>(match K.lookup c with
  | some ⟨_,_,.fields vs,_⟩=>(match (vs[11]? : Option Value) with
   | some (.ref P)=>if codeHdIn K c P=true then some P else none
   | _=>none)
  | _=>none)
 | _=>none
theorem vf {K:PySem.W.Frag}(X:K.In h)(e:rV K cd=some P):∃ c,cd=.ref c∧CodeHd h c P:=by
 unfold rV at e
 split at e
 ·rename_i c
  split at e
  ·split at e
   ·split at e
    ·rename_i hc
     cases e;exact⟨c,rfl,codeHd_of_K X hc⟩
    ·cases e
   ·cases e
  ·cases e
 ·cases e
theorem AH {K:PySem.W.Frag}(B:cd=.ref c)(l:K.lookup c=some ⟨cl,od,.fields vs,sl⟩)(e:vs[11]? = some (.ref P))(h:codeHdIn K c P=true):rV K cd=some P:=by
 subst B;unfold rV;simp only[l,e,h,if_true]
theorem Ax {l:PySem.W.OpenLaw}{n k:Nat}{q:Program}{J:List Str}{XP:(Str→Option Value)→Heap→Prop}{YP:World→Heap→Prop}{d:DefRec}{K:Params→PySem.W.Frag}{CX:World→CXT}{x:Str}{ts:List Addr}
  (hn:l.most=some n) (a0:n≤sizeLine) (a1:d.params.defaults=[]) (hr:cY k callerA)
  (hY:∀ (w:World) (h:Heap),YP w h→(K w.params).In h) (hT:∀ (w:World) (h:Heap),YP w h→∀ P∈ts,h.get? P=some (tabObj #[]))
  (F:∀ (w:World) (mg:Str→Option Value) (fa:Addr) (h:Heap),(K w.params).In h→h.Ns mainGlobals mg→mg d.name=some (.ref fa) →
   ∃ (fd:FuncData) (Ps:List Addr) (sp:Sp),(∀ (s:Shared) (u:Value),BindsTo s fd ⟨[u],[]⟩ [(x,u)])∧(∀ P∈Ps,P∈ts∧(K w.params).lookup P=none∧∃ c,CodeHd h c P) ∧
    (∀ base:Heap,(K w.params).In base→base.Ns mainGlobals mg→ni mg base→bA l.prog w (K w.params) mg base (CX w) k fa fd [x] sp) ∧
    ∀ (H:Hp) (a:Addr) (ns:List Int),ns.length≤n→(∀ P∈Ps,H P=some (.tbl #[]))→SqL (K w.params) H a (ns.map V.int)→sp [.ref a] H (fun v _=>v=.bl true) fun _ _ _=>False)
  (a2:∀ (w:World) (H:Hp) (s:Shared) (e:Value) (s':Shared),CX w [] H s (fun _ _ _=>False) e s'→False) :
  PySem.W.WalkO q J XP YP l.row.toRowW d [] (fun f vs=>PySem.call f vs):=by
 refine Att.wC hn a1 fun w s₀ s₁ mg mb fa o pm cd doc a vs ns G Y ho hd a5 a3 U O B hg =>?_;have KX:=hY w _ Y;obtain⟨fd,Ps,sp,hb,hP,hF,a4⟩:=F w mg fa _ KX G.T.g a3;exact zZ (Ps:=Ps) KX G.T.g G.T.b G.T.builtins G.T.nolimit hg U O (H_ B a0) hr G.T.bmain (fun P h=>⟨hT w _ Y P (hP P h).1,(hP P h).2.1,(hP P h).2.2⟩) hF hb (fun H hO hS=>a4 H a ns B hO hS) fun H e s'=>a2 w H s₁ e s'
section
variable {P:Program}{w:World}{mg:Str→Option Value}{base:Heap}{Z:List (Addr × Obj)}
structure El (K:PySem.W.Frag)(x qual:Str)(st:Stmt)(f:Addr)(fd:FuncData)(dV:Value)(P:Addr):Prop where
 ex:∃ (oc:Value) (od:Option Addr) (kV doc pm:Value) (an:Option Addr) (cdv ct:Value) (osl:Array (Option Value)),
  fd=PySem.W.fnOf x qual (b_ st) (bO st) (aq st) dV kV doc pm an cdv ct∧K.lookup f=some ⟨oc,od,.func fd,osl⟩∧PySem.W.codeIn K cdv qual=true∧rV K cdv=some P
theorem DT {x qual:Str}{st:Stmt}{f Pt:Addr}{Y:Value}{od J:Option Addr}{G:Array (Option Value)}{O kV doc U B ct:Value}(l:K.lookup f=some ⟨Y,od,.func (PySem.W.fnOf x qual (b_ st) (bO st) (aq st) O kV doc U J B ct),G⟩)
  (c:PySem.W.codeIn K B qual=true) (t:rV K B=some Pt):El K x qual st f (PySem.W.fnOf x qual (b_ st) (bO st) (aq st) O kV doc U J B ct) O Pt:=⟨⟨Y,od,kV,doc,U,J,B,ct,G,rfl,l,c,t⟩⟩
theorem El.ok {st:Stmt}(F:El K x qual st f fd dV Pt)(O:K.In base)(S:aE N ps (aq st))(len:∀ vs H Q E,sp vs H Q E→vs.length=ps.length)
  (B:∀ (c:Addr) (A:Around) (outer:List Env) (s:Shared) (H:Hp) (vs:List V) (Q:VK) (E:XK),CodeHd base c Pt→cY k (A.deeper (envOfC qual (aq st) s.heap.objs.size f (.ref c)))→sp vs H Q E →
   ∃ t,PSs (i5 CX P w K mg base N qual (aq st) f (.ref c) A outer s H E).nox (bO st) t∧t { nx:=fun _ H'=>Q .non H',rt:=Q } (start N vs) H):bA P w K mg base CX (k + 1) f fd ps sp:=by
 obtain⟨oc,od,kV,doc,pm,an,U,ct,Y,rfl,lk,G,ht⟩:=F.ex;obtain⟨c,rfl,hc⟩:=vf O ht;refine B9 lk G S len fun A outer s H vs Q E hr J =>?_;obtain⟨t,h,q⟩:=B c A outer s H vs Q E hc hr J;exact⟨t,h.nox,q⟩
end
theorem SqL.upT {K:PySem.W.Frag}(h:SqL K H a xs)(s:ck T H H')(t:fz T H):SqL K H' a xs:=by
 rcases h with (h|⟨o,h⟩)|h
 ·exact .inl (.inl (s.keep t h (by intro ps z;cases z)))
 ·exact .inl (.inr ⟨o,s.keep t h (by intro ps z;cases z)⟩)
 ·exact .inr h
theorem ck.tups (s:ck T H H')(t:fz T H):bS H H':=fun b xs e=>s.keep t e (by intro ps z;cases z)
theorem fz.start (h:∀ P∈T.map (·.1),H P=some (.tbl #[])):fz T H:=fun q B =>
 ⟨#[],h _ (Hz.mpr ⟨_,B,rfl⟩),trivial,fun pos G e=>by cases e⟩
section
end
section
variable {w:World}{E:Value→Shared→Prop}
end
section
end
structure Lin {α:Type}(lt:α→α→Bool):Prop where
 irr:∀ x,lt x x=false
 tr:∀ x y z,lt x y=true→lt y z=true→lt x z=true
 tot:∀ x y,lt x y=false→lt y x=false→x=y
theorem jT:∀ {l:List α},(∀ x∈l,p x=true→q x=true)→a∈l→p a=false→q a=true→l.countP p < l.countP q
 | [],_,h,_,_=>by simp at h
 | x::l,hm,B,hp,hq=>by
  have m:l.countP p≤l.countP q:=List.countP_mono_left fun y G=>hm y (by simp[G]);rw[List.countP_cons,List.countP_cons];rcases HZ.mp B with rfl | B
  ·rw[hp,hq];simp
   lia
  ·have:=jT (fun y G=>hm y (by simp[G])) B hp hq
   have J:=hm x (by simp);cases e:p x with
   | true=>rw[J e];simp;omega
   | false=>simp;split<;>omega
def rnk {α:Type}(lt:α→α→Bool)(ks:List α)(x:α):Int:=((ks.countP fun k=>lt k x:Nat):Int)
theorem tE (L:Lin lt)(B:x∈ks)(G:y∈ks):decide (rnk lt ks x < rnk lt ks y)=lt x y:=by
 unfold rnk;cases e:lt x y with
 | true =>
  have:=jT (l:=ks) (p:=fun k=>lt k x) (q:=fun k=>lt k y) (fun k _ h=>L.tr _ _ _ h e) B (L.irr x) e
  simp
  exact this
 | false =>
  cases e2:lt y x with
  | true =>
   have:=jT (l:=ks) (p:=fun k=>lt k y) (q:=fun k=>lt k x) (fun k _ h=>L.tr _ _ _ h e2) G (L.irr y) e2
   simp
   lia
  | false =>
   have:=L.tot _ _ e e2
   subst this;simp
section
variable {w:World}{E:Value→Shared→Prop}{α:Type}{lt:α→α→Bool}{kf:Value→α}
structure FK (prog:Program)(w:World)(vs:List Value){α:Type}(kf:Value→α)(lt:α→α→Bool)(κ:SortKind)(s:Shared):Prop where
 kind:∀ (A:Around),2≤vs.length→∀ Q:SortKind→Shared→Prop,Q κ s→wpAny (model prog w) A (keyKind' vs.toArray) Q (fun _ _=>False) s
 less:∀ (A:Around) (x y:Value) (C:Bool→Shared→Prop),x∈vs→y∈vs→C (lt (kf x) (kf y)) s→wpAny (model prog w) A (keyLt' κ x y) C (fun _ _=>False) s
theorem uV {vs:List Value}{p:Keyed}(h:p∈(vs.toArray.zip vs.toArray).toList):p.1=p.2∧p.2∈vs:=by
 rw[Array.toList_zip]at h;obtain⟨i,hi⟩:=List.mem_iff_getElem?.mp h;rw[List.getElem?_zip_eq_some]at hi;have e:=hi.1.symm.trans hi.2;exact⟨Option.some.inj e,List.mem_iff_getElem?.mpr ⟨i,hi.2⟩⟩
theorem xQ (vs:List Value):(vs.toArray.zip vs.toArray).toList.map (·.2)=vs:=by
 rw[Array.toList_zip];exact List.map_snd_zip (Ht _)
theorem rK {a:Addr}{vs:List Value}{n:Nat}{κ:SortKind}{P:PySem.Fin→Shared→Prop}(L:Lin lt)(ho:s.heap.get? a=some (seqObj "list" vs.toArray n))(sz:vs.length≤sizeLine)
  (hs:∀ h',(∀ b o,b≠a→s.heap.get? b=some o→h'.get? b=some o)→FK prog w vs kf lt κ { s with heap:=h' })
  (h:∀ out:List Value,out.Perm vs→out.Pairwise (fun x y=>lt (kf y) (kf x)=false)→P (.done (.ret .none)) { s with heap:=sortedHeap s.heap a vs out.toArray }) :
  wpAny (model prog w) A (Builtin.«list.sort» ⟨[.ref a],[]⟩) P E s:=by
 have ha:a < s.heap.objs.size:=HL ho;rw[list_sort_plain];refine Ho (listItems_at ho rfl ?_);refine Ho (listUpdate_at ho rfl ?_ (by rw[HV];exact sz) (HE _));obtain⟨e1,O⟩:∃ e1,(s.heap.update a (Obj.mapSeq fun _=>(#[]:Array Value))).get? a=some (seqObj "list" #[] e1):=⟨_,get?_update_seq ho fun _ => #[]⟩
 refine Ho (seqEpoch_at O rfl ?_);refine Ho (wpAny_newTuple ?_ (by show vs.length≤_;exact sz));refine Ho (wpAny_newList ?_ (HE _));refine wpAny_holding ?_;show wpAny (model prog w) A _ P E { s with heap:=((s.heap.update a (Obj.mapSeq fun _=>(#[]:Array Value))).push (seqObj "tuple" vs.toArray 0)).push (seqObj "list" #[] 0) }
 dsimp only;have J:(((s.heap.update a (Obj.mapSeq fun _=>(#[]:Array Value))).push (seqObj "tuple" vs.toArray 0)).push (seqObj "list" #[] 0)).get? a=some (seqObj "list" #[] e1):=Hq _ (Hq _ O)
 have kp:∀ b o,b≠a→s.heap.get? b=some o→(((s.heap.update a (Obj.mapSeq fun _=>(#[]:Array Value))).push (seqObj "tuple" vs.toArray 0)).push (seqObj "list" #[] 0)).get? b=some o:=fun b o hb e =>
  Hq _ (Hq _ ((HY _ _ (Ne.symm hb)).trans e))
 have S:=hs _ kp;by_cases h2:vs.toArray.size < 2
 ·rw[if_pos h2,if_pos h2];refine Ho (HJ ?_);rw[StateT.run_pure];refine Ho (HJ ?_);dsimp only;refine Ho (seqEpoch_at J rfl ?_);have ez:(vs.toArray.zip vs.toArray).map (·.2)=vs.toArray:=by
   apply JR.mp
   rw[KH,xQ]
  refine Ho (listUpdate_at J rfl ?_ (hsz2:=by rw[Array.size_map,Array.size_zip];simp;lia));simp only[bne_self_eq_false,Hu,if_false];refine HJ ?_
  have:=h vs (List.Perm.refl _) (by
   rw[HV]at h2
   match vs,h2 with
   | [],_=>exact List.Pairwise.nil
   | [x],_=>exact JB _ _
   | _::_::_,h2=>exact absurd h2 (by simp))
  show P _ { s with heap:=Heap.update _ a (Obj.mapSeq fun _=>(vs.toArray.zip vs.toArray).map (·.2)) };rw[ez];exact this
 ·rw[if_neg h2,if_neg h2];have h2':2≤vs.length:=by rw[HV]at h2;lia
  refine Ho (IJ (S.kind A h2' (fun U s'=>U=κ∧s'=_) ⟨rfl,rfl⟩) (fun U s' hk =>?_) fun _ _ x=>x.elim);obtain⟨rfl,rfl⟩:=hk;have LO:Tim.dF prog w A E { s with heap:=((s.heap.update a (Obj.mapSeq fun _=>(#[]:Array Value))).push (seqObj "tuple" vs.toArray 0)).push (seqObj "list" #[] 0) } (vs.toArray.zip vs.toArray) U (fun p=>rnk lt (vs.map kf) (kf p.2)):=fun x y C hx hy hC=>by
   obtain⟨x1,x2⟩:=uV hx;obtain⟨y1,y2⟩:=uV hy;rw[x1,y1];refine S.less A x.2 y.2 C x2 y2 ?_;rw[← tE L (Iz x2) (Iz y2)];exact hC
  refine Ho (IJ (Tim.yb LO (st:=SortSt.mk' U (vs.toArray.zip vs.toArray) #[] 7 none) (Q:=fun _ G=>Tim.SB (vs.toArray.zip vs.toArray) U G∧Tim.Seg (fun p=>rnk lt (vs.map kf) (kf p.2)) (arrOf G) 0 (vs.toArray.zip vs.toArray).size) ⟨Array.Perm.refl _,rfl,rfl⟩ rfl fun G B S'=>⟨B,S'⟩) ?_ fun _ _ e=>e);rintro⟨⟨⟩,G⟩ s' ⟨rfl,B,S'⟩;dsimp only at B S' ⊢;refine Ho (seqEpoch_at J rfl ?_);have hp:((arrOf G).toList.map (·.2)).Perm vs:=by
   have:=(I_.mp B.perm).map (·.2)
   rw[xQ]at this;exact this
  have Y:(arrOf G).map (·.2)=((arrOf G).toList.map (·.2)).toArray:=by
   apply JR.mp
   rw[KH]
  rw[Y];refine Ho (listUpdate_at J rfl ?_ (HE _) (by rw[HV,hp.length_eq];lia));rw[B.ok];simp only[bne_self_eq_false,Hu,if_false];refine HJ (h _ hp ?_);rw[IG,IQ];intro i j hi hj a0;rw[Il]at hi hj;have q:=S' i j (HE _) (Jk a0) (by rw[← B.size];exact hj);rw[Tim.ay (Hy hi),Tim.ay (Hy hj)]at q;have m1:(arrOf G)[i].2∈vs:=hp.mem_iff.mp (Iz (by simp));have m2:(arrOf G)[j].2∈vs:=hp.mem_iff.mp (Iz (by simp))
  have:=tE L (ks:=vs.map kf) (Iz m2) (Iz m1)
  show lt (kf (arrOf G)[j].2) (kf (arrOf G)[i].2)=false;rw[← this];exact Ih (by lia)
theorem wQ (L:Lin lt)(G:wpAny (model prog w) A.in1 (collect (.ref r)) (fun vs B=>vs.length≤sizeLine∧∃ (κ:SortKind),(∀ h',(∀ b o,B.heap.get? b=some o→h'.get? b=some o)→FK prog w vs kf lt κ { B with heap:=h' }) ∧
   ∀ out:List Value,out.Perm vs→out.Pairwise (fun x y=>lt (kf y) (kf x)=false)→Q (.ref B.heap.objs.size) { B with heap:=sortedHeap (B.heap.push (seqObj "list" vs.toArray 0)) B.heap.objs.size vs out.toArray }) E s) :
  wpAny (model prog w) A (call (.builtin "sorted") [.ref r]) Q E s:=by
 refine Calls.call_function_entry kind_sorted plain_sorted entry_sorted (args_sorted1 _) ?_;unfold Builtin.«sorted»;refine Ho (m:=checkCount "sorted" 1 1 _) (HJ ?_)
 refine Ho (IJ G (fun vs B ⟨sz,κ,O,U⟩ =>?_) fun _ _ e=>e);refine Ho (wpAny_newList ?_ sz);have J:(B.heap.push (seqObj "list" vs.toArray 0)).get? B.heap.objs.size=some (seqObj "list" vs.toArray 0):=HQ _ rfl
 show wpAny _ _ _ _ _ { B with heap:=B.heap.push (seqObj "list" vs.toArray 0) }
 refine Ho (wpAny_holding (wpAny_call_entry slot_list_sort ⟨_,J,rfl⟩ entry_list_sort (rK (kf:=kf) (κ:=κ) L J sz (fun h' kp=>O h' fun b o e =>?_) fun out o u=>⟨_,rfl,?_⟩) (args_list_sort _)))
 ·exact kp b o (Ik (HL e)) (Hq _ e)
 ·exact HJ ⟨_,rfl,U out o u⟩
end
theorem yx:Lin (fun (a b:List Nat)=>decide (a < b)):=by
 refine⟨fun a=>by simpa using JQ a,fun a b c h1 h2 =>?_,fun a b h1 h2 =>?_⟩
 ·simp only[decide_eq_true_eq]at *;exact List.lt_trans h1 h2
 ·simp only[decide_eq_false_iff_not]at *;exact List.le_antisymm (List.not_lt.mp h2) (List.not_lt.mp h1)
theorem uo:Lin (fun (a b:Int)=>decide (a < b)):=by
 refine⟨fun a=>by simp,fun a b c h1 h2 =>?_,fun a b h1 h2 =>?_⟩
 ·simp only[decide_eq_true_eq]at *
  lia
 ·simp only[decide_eq_false_iff_not]at *
  lia
def jQ {α β:Type}[DecidableEq α](l:α→α→Bool)(m:β→β→Bool)(x y:α × β):Bool:=if x.1=y.1 then m x.2 y.2 else l x.1 y.1
theorem ul {α β:Type}[DecidableEq α]{l:α→α→Bool}{m:β→β→Bool}(B:Lin l)(G:Lin m):Lin (jQ l m):=by
 refine⟨fun x=>by unfold jQ;rw[if_pos rfl];exact G.irr _,fun x y z h1 h2 =>?_,fun x y h1 h2 =>?_⟩
 ·unfold jQ at h1 h2 ⊢;by_cases e1:x.1=y.1
  ·rw[if_pos e1]at h1;by_cases e2:y.1=z.1
   ·rw[if_pos e2]at h2;rw[if_pos (e1.trans e2)];exact G.tr _ _ _ h1 h2
   ·rw[if_neg e2]at h2;rw[e1,if_neg e2];exact h2
  ·rw[if_neg e1]at h1;by_cases e2:y.1=z.1
   ·rw[← e2,if_neg e1];exact h1
   ·rw[if_neg e2]at h2;have J:=B.tr _ _ _ h1 h2;by_cases e3:x.1=z.1
    ·rw[e3,B.irr]at J;cases J
    ·rw[if_neg e3];exact J
 ·unfold jQ at h1 h2;by_cases e1:x.1=y.1
  ·rw[if_pos e1]at h1;rw[if_pos e1.symm]at h2;exact Prod.ext e1 (G.tot _ _ h1 h2)
  ·rw[if_neg e1]at h1;rw[if_neg (Ne.symm e1)]at h2;exact absurd (B.tot _ _ h1 h2) e1
def kX:Value→Addr
 | .ref a=>a
 | _=>0
section
variable {w:World}
end
section
theorem Inv.sortd {pins:List (Addr × Obj)}{σ:St}{H:Hp}{s:Shared}{a:Addr}{its out:List Value}{us:List V}(I:Inv X pins σ H s)(G:us.length≤sizeLine)(J:ba us out):
  ∃ S,H S=none∧Inv X pins σ (upd H S (.lst us)) { s with heap:=sortedHeap (((s.heap.push (seqObj "list" #[] 0)).update s.heap.objs.size (Obj.mapSeq (· ++ its.toArray))).push (seqObj "list" its.toArray 0)) ((s.heap.push (seqObj "list" #[] 0)).update s.heap.objs.size (Obj.mapSeq (· ++ its.toArray))).objs.size its out.toArray } ∧
   S=((s.heap.push (seqObj "list" #[] 0)).update s.heap.objs.size (Obj.mapSeq (· ++ its.toArray))).objs.size:=by
 have kp:∀ b o,s.heap.get? b=some o→((s.heap.push (seqObj "list" #[] 0)).update s.heap.objs.size (Obj.mapSeq (· ++ its.toArray))).get? b=some o:=fun b o e =>
  (HY _ _ (Ne.symm (Ik (HL e)))).trans (Hq _ e)
 have B:Inv X pins σ H { s with heap:=(s.heap.push (seqObj "list" #[] 0)).update s.heap.objs.size (Obj.mapSeq (· ++ its.toArray)) }:=I.kept (t':=s.toks) kp
 obtain⟨O,U⟩:=rp (h:=(s.heap.push (seqObj "list" #[] 0)).update s.heap.objs.size (Obj.mapSeq (· ++ its.toArray))) (vs:=its) (out:=out.toArray)
 refine⟨_,B.hok.fresh (Ht _),B.laid (t':=s.toks) (fun b o e=>oC e) (Ht _) ⟨G,out,O,J,U⟩,rfl⟩
end
abbrev Pky:Type:=List Nat × Int × List Nat
def pkV (x:Str):V→Pky
 | .int i=>(x.cps.toList,i,[])
 | .str y=>(x.cps.toList,0,y.cps.toList)
 | _=>(x.cps.toList,0,[])
def pkH (H:Hp)(a:Addr):Pky:=match H a with
 | some (.tup [.str x,v])=>pkV x v
 | _=>([],0,[])
def ltP:Pky→Pky→Bool:=jQ (fun a b=>decide (a < b)) (jQ (fun a b=>decide (a < b)) (fun a b=>decide (a < b)))
theorem yz:Lin ltP:=ul yx (ul uo yx)
def Snd (t:Bool)(v:V):Prop:=if t=true then ∃ y,v=.str y else ∃ i,v=.int i
section
variable {w:World}
theorem yV {x y:Str}(h:x.cps.toList=y.cps.toList):x=y:=by
 cases x;cases y;simp only[Str.mk.injEq];exact JR.mp h
theorem zY {x y:Addr}{a b:Str}{p q:V}{O U:List Value}{t:Bool}{C:Bool→Shared→Prop}(Y:Snd t p)(hq:Snd t q)(ix:IsTup s.heap x O.toArray)(iy:IsTup s.heap y U.toArray)(B:ba [.str a,p] O)(G:ba [.str b,q] U)
  (h:C (ltP (pkV a p) (pkV b q)) s):wpAny (model prog w) A (keyLt' (tuples' true) (.ref x) (.ref y)) C (fun _ _=>False) s:=by
 obtain⟨ox,hx,_,n,dx⟩:=ix;obtain⟨oy,hy,_,m,dy⟩:=iy;cases B with
 | cons r1 B =>
 cases B with
 | cons r2 B =>
 cases B;cases G with
 | cons r3 G =>
 cases G with
 | cons r4 G =>
 cases G;obtain⟨t1,rfl⟩:=r1;obtain⟨t3,rfl⟩:=r3;refine kat_lt hx dx hy dy (kat_cons (wpAny_eqBool_str (kat_go (fun e=>kat_yes ?_) fun e=>kat_no ?_)))
 ·have e':a=b:=by simpa using e
  subst e';cases t with
  | true =>
   obtain⟨c,rfl⟩:=Y;obtain⟨d,rfl⟩:=hq;obtain⟨t2,rfl⟩:=r2;obtain⟨t4,rfl⟩:=r4;have J:ltP (pkV a (.str c)) (pkV a (.str d))=decide (c.cps.toList < d.cps.toList):=by
    simp only[ltP,jQ,pkV,if_true];exact decide_eq_decide.mpr Iff.rfl
   rw[J]at h;refine kat_cons (wpAny_eqBool_str (kat_go (fun e=>kat_yes (kat_nil ?_)) fun e=>kat_no (kat_one _ _ (PySem.P.lt_str ?_))))
   ·have e':c=d:=by simpa using e
    subst e';rw[Ih (JQ _)]at h;simpa using h
   ·exact h
  | false =>
   obtain⟨c,rfl⟩:=Y;obtain⟨d,rfl⟩:=hq;obtain⟨t2,rfl⟩:=r2;obtain⟨t4,rfl⟩:=r4;have J:ltP (pkV a (.int c)) (pkV a (.int d))=decide (c < d):=by
    simp only[ltP,jQ,pkV,if_true];by_cases e:c=d
    ·subst e;simp
    ·exact (if_neg e).trans (decide_eq_decide.mpr Iff.rfl)
   rw[J]at h;refine kat_cons (wpAny_eqBool_int (kat_go (fun e=>kat_yes (kat_nil ?_)) fun e=>kat_no (kat_one _ _ (PySem.P.lt_int ?_))))
   ·have e':c=d:=by simpa using e
    subst e';simpa using h
   ·exact h
 ·have e':¬ a=b:=by simpa using e
  show wpAny _ _ (oneLt' true _ _) _ _ _;refine oneLt_str ?_;have J:ltP (pkV a p) (pkV b q)=decide (a.cps.toList < b.cps.toList):=by
   have f1:∀ (x:Str) (v:V),(pkV x v).1=x.cps.toList:=fun x v=>by cases v<;>rfl
   unfold ltP jQ;rw[f1,f1,if_neg fun e=>e' (yV e)]
  rw[← J];exact h
def Prs (H:Hp)(t:Bool)(as:List Addr):Prop:=∀ b∈as,∃ x v,H b=some (.tup [.str x,v])∧Snd t v
theorem CS (J:Prs H t as)(B:∀ b x v,H b=some (.tup [.str x,v])→∃ its:List Value,ba [.str x,v] its∧IsTup s.heap b its.toArray):
  FK prog w (as.map Value.ref) (fun v=>pkH H (kX v)) ltP (tuples' true) s:=by
 refine⟨fun A h2 Q q =>?_,fun A x y C hx hy q =>?_⟩
 ·have kt:∀ (as:List Addr),Prs H t as→∃ fs:List Value,KatTups s.heap (as.map Value.ref) fs∧fs.length=as.length∧∀ v∈fs,∃ (k:Str) (t:Tok),v=.str k t:=by
   intro as
   induction as with
   | nil=>intro _;exact⟨[],KatTups.nil,rfl,fun v G=>nomatch G⟩
   | cons a as ih =>
    intro J;obtain⟨x,v,e,_⟩:=J a (by simp);obtain⟨its,r,o,ho,hc,n,hd⟩:=B a x v e;obtain⟨fs,O,U,Y⟩:=ih fun b hb=>J b (by simp[hb]);cases r with
    | cons r1 r =>
     obtain⟨tk,rfl⟩:=r1;refine⟨.str x tk::fs,KatTups.cons ho hc hd (by simp) O,by simp[U],fun v G =>?_⟩;rcases HZ.mp G with rfl|G
     ·exact⟨x,tk,rfl⟩
     ·exact Y v G
  obtain⟨fs,O,U,Y⟩:=kt as J;refine kat_kind (T:=.type "str") O (by rw[U];rw[Hw]at h2;lia) (fun v G =>?_) (by decide) q
  obtain⟨k,t,rfl⟩:=Y v G;exact Looks.now
 ·obtain⟨a,ha,rfl⟩:=Hz.mp hx;obtain⟨b,hb,rfl⟩:=Hz.mp hy;obtain⟨x,v,e1,s1⟩:=J a ha;obtain⟨y,u,e2,s2⟩:=J b hb;obtain⟨ix,r1,i1⟩:=B a x v e1;obtain⟨iy,r2,i2⟩:=B b y u e2;refine zY s1 s2 i1 i2 r1 r2 ?_;have O:pkH H (kX (.ref a))=pkV x v:=by show pkH H a=_;unfold pkH;rw[e1]
  have U:pkH H (kX (.ref b))=pkV y u:=by show pkH H b=_;unfold pkH;rw[e2]
  rw[← O,← U];exact q
end
section
theorem nj:∀ {as:List Addr} {its:List Value},ba (as.map V.ref) its→its=as.map Value.ref
 | [],its,r=>by cases r;rfl
 | a::as,its,r=>by
  cases r with
  | cons h t =>
   rw[nj t,show _=Value.ref a from h];rfl
theorem rX:∀ (as:List Addr),ba (as.map V.ref) (as.map Value.ref)
 | []=>.nil
 | _::as=>.cons rfl (rX as)
theorem xK (hc:X.calm=true):gJ X (.builtin "sorted") (fun xs H Q=>∃ (a:Addr) (t:Bool) (as:List Addr),xs=[.ref a]∧SqL X.K H a (as.map V.ref)∧Prs H t as ∧
  ∀ (S:Addr) (as':List Addr),H S=none→as'.Perm as→as'.Pairwise (fun x y=>ltP (pkH H y) (pkH H x)=false)→Q (.ref S) (upd H S (.lst (as'.map V.ref)))):=by
 intro pins s σ H xs us Q I r h;obtain⟨a,t,as,rfl,U,Y,q⟩:=h;obtain⟨u,rfl,ru⟩:=ju r;cases ru;obtain⟨its,O,pl,sz⟩:=I.list U;have sz':its.length≤sizeLine:=by rw[← O.length];exact sz
 obtain rfl:=nj O;refine wQ (kf:=fun v=>pkH H (kX v)) yz (collect_list pl.isList ?_ sz');have G:∀ b o,s.heap.get? b=some o→((s.heap.push (seqObj "list" #[] 0)).update s.heap.objs.size (Obj.mapSeq (· ++ (as.map Value.ref).toArray))).get? b=some o:=fun b o e =>
  (HY _ _ (Ne.symm (Ik (HL e)))).trans (Hq _ e)
 refine⟨sz',tuples' true,fun h' kp=>CS (t:=t) Y fun b x v e =>?_,fun out J hw =>?_⟩
 ·obtain⟨_,its,r,it⟩:=I.hok b _ e;exact⟨its,r,it.keeps fun c o e=>kp c o (G c o e)⟩
 have ro:out=(out.map kX).map Value.ref:=by
  rw[IK];refine (KR out).symm.trans (IN fun v hv =>?_);obtain⟨b,_,rfl⟩:=Hz.mp (J.mem_iff.mp hv);rfl
 have pm:(out.map kX).Perm as:=by
  have:=J.map kX
  rw[IK]at this;have e:as.map (kX ∘ Value.ref)=as:=(IN fun b _=>rfl).trans (KR as);rw[e]at this;exact this
 have B:ba ((out.map kX).map V.ref) out:=by
  have:=rX (out.map kX)
  rw[← ro]at this;exact this
 obtain⟨S,h1,h2,h3⟩:=I.sortd (a:=a) (its:=as.map Value.ref) (by rw[B.length,J.length_eq];exact sz') B;subst h3;refine⟨.ref _,_,h2,rfl,q _ _ h1 pm ?_⟩;rw[IG];exact hw
end
section
variable {e lo st:Expr}{te:TE}{tl ts:TO}{p2:Pos}
end
theorem uh:typeLookup (.type "list") "keys" = pure none:=by rw[typeLookup_type,builtinLookup_eq_fast];kernel_rfl
theorem sy:entryFor table "dict.update.loop" = some Builtin.«dict.update.loop» := entryFor_of_tree (by kernel_rfl)
theorem ki:plainId "dict.update.loop" = true:=by decide +kernel
section
variable {w:World}{E:Value→Shared→Prop}{a:Addr}{o:Obj}{xs:Array Value}{k:Nat}
theorem Ar 
  (Y:s.heap.get? a=some o) (hc:o.cls=.type "list") (B:o.data=.seq xs k) (hd:o.dict=none) (G:typeLookup (.type "list") name=pure none) (J:(["__module__","__name__","__qualname__","__doc__","__annotations__"]:List Str).contains name=false) (hA:A.handled=none)
  (h:∀ h' tk e,Heap.NewExcOf s.heap h' e "AttributeError" → E (.ref e) { s with heap:=h',toks:=tk }) (hsz:name.length + 100≤sizeLine:=by size_fits) :
  wpAny (model prog w) A (getAttrBy (.ref a) (.str name u) false) Q E s:=by
 obtain⟨c,a0,dat,sl⟩:=o;simp only at hc B hd;subst hc B hd;obtain⟨hp,g,d,tk,os⟩:=s;have hT:∀ O,(⟨hp,g,d,O,os⟩:Shared).TypeIs (.ref a) "list" := fun _=>⟨_,Y,rfl⟩
 have f1:=sub_AttributeError;have f3:=PySem.F.slot_list_getattribute.lookup;have f4:=PySem.F.slot_list_getattribute.bind (.ref a);have f5:=am_list_getattr_none;unfold getAttrBy
 repeat (any_goals (first | assumption | exact hT _ | ((with_reducible show wpAny _ _ (call (Value.builtin "list.__getattribute__") _ _) _ _ _);refine call_meets PySem.F.slot_list_getattribute (hT _) am_entry_list_getattribute (PySem.F.args_list_getattribute_2 _ _) (meets_getattribute_miss_list a xs k sl name _ G J hsz) ⟨Y,hA,fun h' O e U =>?_⟩) | wp_step))
 all_goals (try (obtain⟨t',u',he⟩:=U.there))
 all_goals (try (show wpAny _ _ (getattributeRaised _ _ _ _ _ _ _) _ _ _;unfold getattributeRaised))
 repeat (any_goals (first | assumption | wp_step))
 exact h _ _ _ U.of
theorem Dz (G:s.heap.get? a=some o)(J:o.cls=.type "list")(B:o.data=.seq xs k)(O:o.dict=none)(U:A.handled=none)
  (h:∀ h' tk,(∀ b u,s.heap.get? b=some u→h'.get? b=some u)→Q none { s with heap:=h',toks:=tk }):wpAny (model prog w) A (getAttr? (.ref a) "keys") Q E s:=by
 unfold getAttr? getAttrBy?;refine Ho (wpAny_mkText (Ho (wpAny_attempt (Ar (s:={ s with toks:=s.toks + 1 }) G J B O uh (by decide +kernel) U (fun h' tk e x =>?_) (by rw[sizeLine_eq];decide +kernel)))));obtain⟨Y,vs,e1,e2,_⟩:=x.there;have hT:({ s with heap:=h',toks:=tk }:Shared).TypeIs (.ref e) "AttributeError" := ⟨Y,e1,e2⟩
 show wpAny _ _ (isInstance (.ref e) (.type "AttributeError") >>= _) _ _ _
 refine Ho (wpAny_isInstance hT sub_AttributeError ?_);simp only[if_true];exact HJ (h h' tk x.keeps)
def FL {K:Type}[DecidableEq K](knd:KeyKind prog w K)(h:Heap)(items:Array Value)(ps:List (K × Value)):Prop :=
 items.size=ps.length∧∀ (i:Nat) (v:Value),items[i]? = some v→∃ (a:Addr) (o:Obj) (n:Nat) (key x:Value) (k:K),v=.ref a∧h.get? a=some o∧o.cls=.type "tuple" ∧ o.data=.seq #[key,x] n∧knd.is k key=true∧ps[i]? = some (k,x)
theorem FA {K:Type}[DecidableEq K]{knd:KeyKind prog w K}{R:Result→Shared→Prop}{d it l:Addr}{items:Array Value}{ps:List (K × Value)}(hh:A.handled=none)(b1:d≠l)(O:d≠it)(a0:l≠it)(nd:(ps.map (·.1)).Nodup)(hsz:ps.length≤sizeLine):
  ∀ (m i:Nat) (s:Shared) (tk:Tok),items.size - i=m→i≤items.size→s.heap.IsListIter it l i→s.heap.IsList l items→FL knd s.heap items ps→s.heap.DictOf knd d (ps.take i) →
   (∀ (j:Nat) (b:Addr),items[j]? = some (.ref b)→b≠d∧b≠it) →
   (∀ h' B,h'.DictOf knd d ps→(∀ b u,b≠d→b≠it→s.heap.get? b=some u→h'.get? b=some u)→R (.ok (.ret .none)) { s with heap:=h',toks:=B }) →
   codeAny (model prog w) A (.builtin "dict.update.loop" ⟨[.ref d,.ref it,.int (i:Int) tk,.none],[]⟩) R s:=by
 intro m
 induction m with
 | zero =>
  intro i s tk hm hi U hl hP hd G hR;have e:i=items.size:=by lia
  subst e;refine codeAny_builtin sy ?_;rw[Around.under_plainId ki _];show wpAny _ A.in1 (pyNext (.ref it) >>= _) _ _ s;refine Ho ((Walks.list (A:=A.in1) hh it l a0 items).done s _ _ ⟨U,hl⟩ fun h' B Y =>?_);show wpAny _ _ (Builtin.Dict.addKeywords d [] >>= fun _=>ret Value.none) _ _ _;refine Ho (HJ (HJ (hR h' B ?_ fun b u _ hb e=>Y b u (by simpa using hb) e)));have e1:ps.take items.size=ps:=by rw[hP.1];exact Jh
  rw[e1]at hd;obtain⟨o,es,ep,ho,r⟩:=hd;exact⟨o,es,ep,Y d o (by simpa using O) ho,r⟩
 | succ m ih =>
  intro i s tk hm hi U hl hP hd G hR;have a1:i < items.size:=by lia
  refine codeAny_builtin sy ?_;rw[Around.under_plainId ki _];show wpAny _ A.in1 (pyNext (.ref it) >>= _) _ _ s;refine Ho ((Walks.list (A:=A.in1) hh it l a0 items).item i s _ _ a1 ⟨U,hl⟩ fun v h' B hv a2 Y =>?_);obtain⟨b,o,n,key,x,k,rfl,hb,hc,a3,hk,a4⟩:=hP.2 i v hv;have b2:=G i b hv;have hb':h'.get? b=some o:=Y b o (by simpa using b2.2) hb;have hd':h'.DictOf knd d (ps.take i):=by
   obtain⟨o,es,ep,ho,r⟩:=hd;exact⟨o,es,ep,Y d o (by simpa using O) ho,r⟩
  dsimp only;refine Ho (wpAny_holding (Ho (wpAny_tryCatch ?_)));unfold Builtin.Dict.pairItems;refine Ho (wpAny_typeOf (T := "tuple") ⟨o,hb',hc⟩ ?_)
  rw[if_pos (by decide)];unfold seqItems?;refine Ho (Ho (wpAny_load hb' ?_));rw[a3];refine HJ (HJ ?_);show wpAny _ _ (holding [key,x] (dictSet d key x)) _ _ _;have b4:i < ps.length:=(Hx.mp a4).1;have et:ps.take (i + 1)=ps.take i++[(k,x)]:=by rw[Ic,a4];rfl
  refine wpAny_holding (wpAny_dictSet_pairs (s:={ s with heap:=h',toks:=B }) hk hd' (fun h2 a5 sb =>?_) (by rw[IC];lia));have ea:stored (ps.take i) k x=ps.take (i + 1):=by
   unfold stored;rw[if_neg,et];intro h;rw[List.any_eq_true]at h;obtain⟨q,hq,e⟩:=h;have e':q.1=k:=by simpa using e
   have a6:((ps.take (i + 1)).map (·.1)).Nodup:=by
    have:=nd.sublist ((Ky (i + 1) ps).map (·.1))
    exact this
   rw[et,Im,JL]at a6;exact a6.2.2 q.1 (Iz hq) k (by simp) e'
  rw[ea]at a5;have J:∀ b u,b≠d→h'.get? b=some u→h2.get? b=some u:=fun b u hb e=>(sb.2 b hb).trans e;refine HJ ⟨plainId_quiet ki _,?_⟩;have ei:rawInt ((i:Int) + 1)=Value.int ((i + 1:Nat):Int) 0:=rfl;rw[ei];refine ih (i + 1) { s with heap:=h2,toks:=B + 1 } 0 (by lia) a1 ?_ ?_ ?_ a5 G fun h3 b3 q1 q2=>hR h3 b3 q1 fun b u a7 a8 e=>q2 b u a7 a8 (J b u a7 (Y b u (by simpa using a8) e))
  ·exact a2.1.at fun o e=>J it o (Ne.symm O) e
  ·exact a2.2.at fun o e=>J l o (Ne.symm b1) e
  ·refine⟨hP.1,fun j v a9 =>?_⟩;obtain⟨b',o',n',b0,x',k',e1,e2,e3,e4,e5,e6⟩:=hP.2 j v a9;subst e1;have hbn':=G j b' a9;exact⟨b',o',n',b0,x',k',rfl,J b' o' hbn'.1 (Y b' o' (by simpa using hbn'.2) e2),e3,e4,e5,e6⟩
end
section
variable {w:World}{E:Value→Shared→Prop}
theorem oK {K:Type}[DecidableEq K]{knd:KeyKind prog w K}{l:Addr}{items:Array Value}{ps:List (K × Value)}{Q:Value→Shared→Prop}(hh:A.handled=none)(hl:PlainL s.heap l items)(hP:FL knd s.heap items ps)(nd:(ps.map (·.1)).Nodup)(hsz:ps.length≤sizeLine)
  (h:∀ h' tk,h'.DictOf knd s.heap.objs.size ps→(∀ b u,s.heap.get? b=some u→h'.get? b=some u)→Q (.ref s.heap.objs.size) { s with heap:=h',toks:=tk }) :
  wpAny (model prog w) A (call (.type "dict") [.ref l]) Q E s:=by
 refine callType_codes (Q₁:=fun a0 s₁=>a0=.ref s.heap.objs.size∧s₁={ s with heap:=s.heap.push { cls:=.type "dict",data:=.dict #[] } }) PySem.F.kt_called_dict (PySem.F.kt_typeCall_dict_1 _) PySem.F.entry_dict_init (kt_code_dict_new _ ⟨rfl,rfl⟩) ?_
 rintro a0 s₁ ⟨rfl,rfl⟩;have B:(s.heap.push { cls:=.type "dict",data:=.dict #[] }).DictOf knd s.heap.objs.size []:=Heap.DictOf.new s.heap
 obtain⟨o,n,Y,hc,a4,J⟩:=hl;have a1:l < s.heap.objs.size:=HL Y;have ho':(s.heap.push { cls:=.type "dict",data:=.dict #[] }).get? l=some o:=Hq _ Y
 refine⟨B.typeIs,PySem.F.args_dict_init_2 _ _,?_⟩;unfold Builtin.«dict.__init__»;refine Ho ?_;unfold Builtin.Dict.selfAndRest;refine Ho (wpAny_notOrdered_dict B.typeIs ?_);show wpAny _ _ (pure (s.heap.objs.size,[Value.ref l])) _ _ _;refine HJ ?_;show wpAny _ _ (Builtin.Dict.updateFrom "dict.__init__" s.heap.objs.size (.ref l) [] .none) _ _ _
 unfold Builtin.Dict.updateFrom;refine Ho (wpAny_typeOf (T := "list") ⟨o,ho',hc⟩ ?_)
 rw[if_pos (by decide)];refine Ho (Dz ho' hc J a4 hh fun h1 a5 k1 =>?_);dsimp only at k1 ⊢;rw[if_pos (show (none:Option Value).isNone=true from rfl)];refine Ho (wpAny_rule ?_);have a2:h1.IsList l items:=⟨o,k1 l o ho',hc,n,J⟩;refine Ho (wpAny_pyIter_list a2 ?_);dsimp only;have a3:h1.DictOf knd s.heap.objs.size []:=by
  obtain⟨o,es,ep,Y,r⟩:=B;exact⟨o,es,ep,k1 _ o Y,r⟩
 have G:s.heap.objs.size < h1.objs.size:=by
  obtain⟨o,es,ep,Y,r⟩:=a3;exact HL Y
 refine HJ ⟨plainId_quiet ki _,?_⟩;have e0:rawInt 0=Value.int ((0:Nat):Int) 0:=rfl;rw[e0];have kp:∀ b u,s.heap.get? b=some u→h1.get? b=some u:=fun b u e=>k1 b u (Hq _ e);have a6:(h1.push { cls:=.type "list_iterator",data:=.fields #[.ref l,.int 0 0] }).IsListIter h1.objs.size l 0:=⟨_,HQ _ rfl,rfl,rfl⟩
 refine FA (A:=A.in1) (knd:=knd) (l:=l) (items:=items) (ps:=ps) (show A.in1.handled=none from hh) (Jo a1) (Ik G) (Ik (Kf a1 G)) nd hsz items.size 0 { s with heap:=h1.push { cls:=.type "list_iterator",data:=.fields #[.ref l,.int 0 0] },toks:=a5 } 0 (by rfl) (HE _) a6 ?_ ?_ ?_ ?_ fun h2 a7 q1 q2 =>?_
 ·obtain⟨o',U,r⟩:=a2;exact⟨o',Hq _ U,r⟩
 ·refine⟨hP.1,fun j v hv =>?_⟩;obtain⟨b',o',n',O,x',k',e1,e2,e3,e4,e5,e6⟩:=hP.2 j v hv;exact⟨b',o',n',O,x',k',e1,Hq _ (kp _ _ e2),e3,e4,e5,e6⟩
 ·obtain⟨o',es,ep,U,r⟩:=a3;exact⟨o',es,ep,Hq _ U,r⟩
 ·intro j b hv;obtain⟨b',o',n',O,x',k',e1,e2,_⟩:=hP.2 j _ hv;cases e1
  have:=HL e2
  exact⟨Ik this,Ik (Kf this G)⟩
 ·exact⟨rfl,h h2 a7 q1 fun b u e=>q2 b u (Ik (HL e)) (Ik (Kf (HL e) G)) (Hq _ (kp b u e))⟩
end
abbrev mZ (H:Hp):List Addr→List (Key × V)→Prop:=Paired fun a kv=>H a=some (.tup [kV kv.1,kv.2])
section
theorem qW (hc:X.calm=true):gJ X (.type "dict") (fun xs H Q=>∃ (a:Addr) (as:List Addr) (kvs:List (Key × V)),xs=[.ref a]∧SqL X.K H a (as.map V.ref)∧mZ H as kvs∧(kvs.map (·.1)).Nodup∧Nw H (.dK kvs) fun p H=>Q (.ref p) H):=by
 intro pins s σ H xs us Q I r h;obtain⟨a,as,kvs,rfl,hS,hA,nd,q⟩:=h;obtain⟨u,rfl,ru⟩:=ju r;cases ru;obtain⟨its,rv,pl,sz⟩:=I.list hS;obtain rfl:=nj rv;have key:∀ (as:List Addr) (kvs:List (Key × V)),mZ H as kvs→∃ ps:List (Key × Value),KV kvs ps∧FL (aT X.prog X.w) s.heap (as.map Value.ref).toArray ps:=by
  intro as
  induction as with
  | nil =>
   intro kvs h;cases h;exact⟨[],.nil,rfl,fun i v O=>by simp at O⟩
  | cons b as ih =>
   intro kvs h;cases h with
   | @cons _ kv _ kvs hb t =>
    obtain⟨ps,k1,k2,k3⟩:=ih kvs t;obtain⟨_,its,G,o,ho,Y,n,J⟩:=I.hok b _ hb;cases G with
    | cons r1 G=>cases G with
     | cons r2 G =>
      cases G
      rename_i B U
      refine⟨(kv.1,U)::ps,.cons ⟨rfl,r2⟩ k1,?_,fun i v O =>?_⟩
      ·rw[HV,Hw]at k2 ⊢;rw[HX,HX,k2]
      ·cases i with
       | zero =>
        have e:Value.ref b=v:=by simpa using O
        exact⟨b,o,n,B,U,kv.1,e.symm,ho,Y,by rw[J],gH r1,rfl⟩
       | succ i =>
        obtain⟨b',o',n',B,U,k',e1,e2,e3,e4,e5,e6⟩:=k3 i v (by simpa using O);exact⟨b',o',n',B,U,k',e1,e2,e3,e4,e5,by simpa using e6⟩
 obtain⟨ps,k1,k2⟩:=key as kvs hA;have lk:kvs.length=ps.length:=KV.length k1;have a0:ps.length≤sizeLine:=by
  have:=k2.1
  rw[HV,Hw]at this;rw[Hw]at sz
  lia
 have ek:ps.map (·.1)=kvs.map (·.1):=by
  have:∀ {kvs:List (Key × V)} {ps:List (Key × Value)},KV kvs ps→ps.map (·.1)=kvs.map (·.1):=fun {kvs}=>by
   induction kvs with
   | nil=>intro ps h;cases h;rfl
   | cons a kvs ih =>
    intro ps h;cases h with
    | cons r t=>rw[Ig,Ig,ih t,r.1]
  exact this k1
 refine oK (knd:=aT X.prog X.w) (ps:=ps) (I.ok.hd hc) pl k2 (by rw[ek];exact nd) a0 fun h' tk hd kp =>?_;refine⟨.ref s.heap.objs.size,upd H s.heap.objs.size (.dK kvs),I.laid (t':=tk) kp (Ht _) ⟨by lia,?_,ps,k1,hd⟩,rfl,q _ (I.hok.fresh (Ht _))⟩
 have:=I.big
 cases e:(s.heap.objs.size == sysModules) with
 | false=>rfl
 | true =>
  have e':s.heap.objs.size=sysModules:=by simpa using e
  rw[e']at this;exact absurd this (Jq _)
theorem zM (B:X.A.units + 1 < cLine):OpR X (compareOp .NotIn) (fun x y H Q=>∃ (a:Addr) (o:Option V),y=.ref a∧n8 H a x o∧Q (.bl (!o.isSome)) H):=by
 intro pins s σ H x y v u Q I G J h;obtain⟨a,o,rfl,g,q⟩:=h;cases J;exact D4 B I g G fun s' O=>⟨.bl _,H,O,rfl,q⟩
end
section
variable {P:Program}{w:World}{mg:Str→Option Value}{base:Heap}{N:List Str}{qual:Str}{scope:Scope}{f:Addr}{cd:Value}{cl:List (Str × Addr)}{outer:List Env}{s0:Shared}{H0:Hp}{E:XK}
end
section
end
end L2
namespace L2
open PySem PySem.Spec PySem.Calls PyProof.Rows
variable {H:Hp}{X:Cx}{s:Shared}{pos:Pos}{prog:Program}{A:Around}{K:PySem.W.Frag}
section
variable {st:Stmt}{rest:List Stmt}{t u:TS}{e a b:PySem.Expr}{te ta tb:TE}
end
section
variable {P:Program}{w:World}{mg:Str→Option Value}{base:Heap}
end
def Itk (d:Addr)(ob:Obj)(kvs:List (Key × V)):It :=
 ⟨fun i H=>H d=some (.frz ob (.dK kvs))∧i < kvs.length,fun i H x H'=>H'=H∧∃ k v,kvs[i]? = some (k,v)∧x=kV k,fun i H=>H d=some (.frz ob (.dK kvs))∧kvs.length≤i⟩
theorem GZ (h:mI k v=true):bw (kV k) v:=by
 rcases bL h with⟨i,t,rfl,rfl⟩|⟨x,t,rfl,rfl⟩
 ·exact⟨t,rfl⟩
 ·exact⟨t,rfl⟩
theorem Gm {κ:Type}{kvs:List (κ × V)}{vs:List (κ × Value)}(h:KV kvs vs):∀ {i:Nat} {k:κ} {x:Value},vs[i]? = some (k,x)→∃ v,kvs[i]? = some (k,v)∧bw v x:=by
 have h':Paired _ kvs vs:=h
 clear h
 induction h' with
 | nil=>intro i k x e;cases e
 | @cons a b as bs h _ ih =>
  intro i k x e;cases i with
  | zero=>cases e;exact⟨a.2,Ij some (Prod.ext h.1 rfl),h.2⟩
  | succ i=>exact ih e
theorem Fh {κ:Type}{kvs:List (κ × V)}{vs:List (κ × Value)}(h:KV kvs vs){i:Nat}{k:κ}{x:Value}(e:vs[i]? = some (k,x)):∃ v,kvs[i]? = some (k,v) :=
 (Gm h e).imp fun _ h=>h.1
theorem zf {P:Program}{w:World}{K:PySem.W.Frag}{tg:Expr}{h0:Heap}{d it:Addr}{ob:Obj}{kvs:List (Key × V)}{vs:List (Key × Value)}{ep:Nat}(Y:KV kvs vs)(hD:h0.DictAt (aT P w) d vs ep)(G:h0.get? d=some ob)(a0:d≠it):
  As P w K tg (Itk d ob kvs) [it] it (fun i h=>h.IsKeyIter it d i vs.length ep) where
 mem:=by simp
 obj:=fun i h st b B=>by
  have e:b=it:=by simpa using B
  subst e;obtain⟨o,e,c,dd⟩:=st;exact⟨o,e,fun v z=>by rw[dd]at z;cases z⟩
 keep:=fun i h h' st k=>st.at fun o e=>k it (by simp) o e
 item:=by
  intro X hP hw hK hc i pins s σ H E I U st hg;subst hP hw hK;obtain⟨f0,f1,f2,f3,f4,f5⟩:=U it (by simp);obtain⟨hd,hi⟩:=hg;have hl:kvs.length=vs.length:=Paired.length Y;have hD':s.heap.DictAt (aT X.prog X.w) d vs ep:=hD.at' fun o e=>by
   rw[G]at e;cases e;exact (I.hok d _ hd).1
  obtain⟨⟨k,x⟩,hx⟩:∃ p,vs[i]? = some p:=⟨vs[i],by simp[← hl,hi]⟩;refine wpAny_pyNext_dict_item st hD' hx fun key h' J O sb =>?_;have I1:Inv X pins σ H { s with heap:=h' }:=I.turned (t':=s.toks) (fun b o B e=>(sb.2 b B).trans e) f0 f1 f3 f4 f5;obtain⟨o,e,c,dd⟩:=id O;obtain⟨v,hv⟩:=Fh Y hx;exact⟨key,rfl,vW (s:={ s with heap:=h' }) e c dd (by decide) ⟨kV k,H,I1,GZ J,⟨rfl,k,v,hv,rfl⟩,O,fun b B=>(U b B).1⟩⟩
 done:=by
  intro X hP hw hK hc i pins s σ H E I U st hg;subst hP hw hK;obtain⟨f0,f1,f2,f3,f4,f5⟩:=U it (by simp);obtain⟨hd,hi⟩:=hg;have hl:kvs.length=vs.length:=Paired.length Y;have hD':s.heap.DictAt (aT X.prog X.w) d vs ep:=hD.at' fun o e=>by
   rw[G]at e;cases e;exact (I.hok d _ hd).1
  exact wpAny_pyNext_dict_end (I.ok.hd hc) st hD' (by rw[Jt];lia) fun h' eb=>⟨rfl,I.turned (t':=s.toks) (fun b o B e=>eb b o B e) f0 f1 f3 f4 f5⟩
 self:=fun _ _ _ _ _ st h=>wpAny_pyIter_keyiter st h
section
variable {tg:Expr}
abbrev Gw (tl:TE):TI:=fun σ H R=>tl σ H fun x H1=>∃ d kvs,x=.ref d∧H1 d=some (.dK kvs)∧∀ ob,R (Itk d ob kvs) (upd H1 d (.frz ob (.dK kvs)))
theorem Inv.frozen (I:Inv X pins σ H s)(e:H d=some (.dK kvs))(G:s.heap.get? d=some ob):Inv X pins σ (upd H d (.frz ob (.dK kvs))) s:=by
 have B:∀ b o,H b=some o→b≠d→upd H d (.frz ob (.dK kvs)) b=some o:=fun b o q n=>by rw[aH n];exact q
 refine I.un (t':=s.toks) ⟨fun b o q _ _ _=>q,fun b o q _ _ _=>⟨o.slots,q⟩,fun b o q n _ =>?_,fun b o q _=>⟨o,q⟩,fun b xs q=>B b _ q fun z =>?_,fun b o u q=>B b _ q fun z =>?_,fun b ps q=>⟨#[],?_⟩⟩ fun b u q =>?_
 ·rw[aH fun z=>by rw[z,e]at n;cases n];exact n
 ·rw[z,e]at q;cases q
 ·rw[z,e]at q;cases q
 ·rw[B b _ q fun z=>by rw[z,e]at q;cases q];simp
 ·by_cases hb:b=d
  ·subst hb;rw[ah]at q;cases q;refine⟨G,?_⟩;exact (I.hok b _ e).stay (fun _ _ _ r=>r) (fun c r=>B c _ r fun z=>by rw[z,e]at r;cases r) fun c xs r=>B c _ r fun z=>by rw[z,e]at r;cases r
  ·rw[aH hb]at q;exact (I.hok b u q).stay (fun _ _ _ r=>r) (fun c r=>B c _ r fun z=>by rw[z,e]at r;cases r) fun c xs r=>B c _ r fun z=>by rw[z,e]at r;cases r
theorem Dj (hl:PE X l tl):PI X tg l (Gw tl):=by
 intro pins s σ H R I h;refine thn (hl pins s σ H _ I h) fun v B ⟨x,H1,Y,r1,q1⟩ =>?_;obtain⟨d,kvs,e,hd,q⟩:=q1;subst e;cases r1;obtain⟨_,hs,vs,kv,J⟩:=Y.hok d _ hd;obtain⟨o,es,ep,G,r⟩:=id J;have hD:B.heap.DictAt (aT X.prog X.w) d vs ep:=⟨o,es,G,r⟩;refine wpAny_pyIter_dict hs hD ?_;have O:=Y.frozen hd G;have U:d < B.heap.objs.size:=HL G;refine⟨B.heap.objs.size,[B.heap.objs.size],_,_,_,rfl,O.kept (t':=B.toks) fun b o e=>Hq _ e,zf kv hD G (Ik U),⟨_,HQ _ rfl,rfl,rfl⟩,fun b hb =>?_,q o⟩;have e:b=B.heap.objs.size:=by simpa using hb
 subst e;exact O.fpOk (Ht _) (O.hok.fresh (Ht _))
end
theorem B8 {d:Addr}{B:Obj}{kvs:List (Key × V)}{g:TG}{tb:TS}{D:uR}{σ:St}{H:Hp}(Pv:Nat→St→Hp→Prop)(O:Pv 0 σ H)(U:∀ i σ H,i≤kvs.length→Pv i σ H→H d=some (.frz B (.dK kvs)))
  (Y:∀ i k v σ H,kvs[i]? = some (k,v)→Pv i σ H→g (kV k) σ H fun G H2=>tb { D with nx:=Pv (i + 1),ct:=Pv (i + 1),bk:=D.nx } G H2) (hd:∀ σ H,Pv kvs.length σ H→D.nx σ H) :
  ∃ W:Nat→Nat→St→Hp→Prop,(∃ m,W 0 m σ H)∧∀ i m σ H,W i m σ H →
   ((Itk d B kvs).stop i H∧D.nx σ H)∨((Itk d B kvs).go i H∧∃ N:St→Hp→Prop,(∀ J H',N J H'→∃ m',m' < m∧W (i + 1) m' J H')∧∀ x H',(Itk d B kvs).yld i H x H'→g x σ H' fun G H2=>tb { D with nx:=N,ct:=N,bk:=D.nx } G H2):=by
 refine⟨fun i m σ H=>m=kvs.length - i∧i≤kvs.length∧Pv i σ H,⟨kvs.length,by simp,HE _,O⟩,?_⟩;rintro i m σ H ⟨rfl,hi,p⟩;have q:=U i σ H hi p;by_cases hlt:i < kvs.length
 ·refine .inr ⟨⟨q,hlt⟩,Pv (i + 1),fun J H' p'=>⟨kvs.length - (i + 1),by omega,rfl,hlt,p'⟩,fun x H' y =>?_⟩;obtain⟨e,k,v,hk,rfl⟩:=y;subst e;exact Y i k v σ _ hk p
 ·have e:i=kvs.length:=by lia
  subst e;exact .inl ⟨⟨q,Ht _⟩,hd σ H p⟩
section
theorem FQ (r:ba [x,y,z] us):∃ u v B,us=[u,v,B]∧bw x u∧bw y v∧bw z B:=by
 cases r with
 | cons r1 r2 =>
  obtain⟨v,B,rfl,h,h'⟩:=kH r2;exact⟨_,v,B,rfl,r1,h,h'⟩
theorem Ao (B:X.calm=true):gJ X (.builtin "max") (fun xs H Q=>∃ i j k:Int,xs=[.int i,.int j,.int k]∧Q (.int (if j > i then (if k > j then k else j) else (if k > i then k else i))) H):=by
 intro pins s σ H xs us Q I r h;obtain⟨i,j,k,rfl,q⟩:=h;obtain⟨u,v,O,rfl,⟨t,rfl⟩,⟨t',rfl⟩,⟨G,rfl⟩⟩:=FQ r;refine PySem.max_three_ints (I.ok.hd B) fun h' tk J=>⟨_,H,I.kept J,?_,q⟩;by_cases h1:j > i
 ·rw[if_pos h1,if_pos h1];by_cases h2:k > j
  ·rw[if_pos h2,if_pos h2];exact⟨_,rfl⟩
  ·rw[if_neg h2,if_neg h2];exact⟨_,rfl⟩
 ·rw[if_neg h1,if_neg h1];by_cases h2:k > i
  ·rw[if_pos h2,if_pos h2];exact⟨_,rfl⟩
  ·rw[if_neg h2,if_neg h2];exact⟨_,rfl⟩
end
end L2
namespace L2
open PySem PySem.Spec PySem.Calls PyProof.Rows PySem.W
variable {H:Hp}{X:Cx}{s:Shared}{pos:Pos}{prog:Program}{A:Around}{K:PySem.W.Frag}
section
variable {w:World}{E:Value→Shared→Prop}
theorem wB {α:Type}{lt:α→α→Bool}(B:Lin lt)(f:Nat→α):∀ k,argBest (fun i j=>lt (f i) (f j)) k≤k∧∀ j,j≤k→lt (f j) (f (argBest (fun i j=>lt (f i) (f j)) k))=false
 | 0=>⟨Ht _,fun j hj=>by rw[Nat.le_zero.mp hj];exact B.irr _⟩
 | k + 1=>by
  obtain⟨h1,h2⟩:=wB B f k;have e:argBest (fun i j=>lt (f i) (f j)) (k + 1)=if lt (f (k + 1)) (f (argBest (fun i j=>lt (f i) (f j)) k))=true then k + 1 else argBest (fun i j=>lt (f i) (f j)) k:=rfl
  rw[e];generalize argBest (fun i j=>lt (f i) (f j)) k=b at *;cases hb:lt (f (k + 1)) (f b) with
  | true =>
   rw[if_pos rfl];refine⟨Ht _,fun j hj =>?_⟩;by_cases q:j=k + 1
   ·rw[q];exact B.irr _
   ·have G:=h2 j (by lia);cases hx:lt (f j) (f (k + 1)) with
    | false=>rfl
    | true =>
     rw[B.tr _ _ _ hx hb]at G;exact G
  | false =>
   rw[if_neg HN];refine⟨by lia,fun j hj =>?_⟩;by_cases q:j=k + 1
   ·rw[q];exact hb
   ·exact h2 j (by lia)
end
section
end
section
variable {w:World}{E:Value→Shared→Prop}
end
section
end
section
end
section
variable {prog:Program}{w:World}{K:Type}[DecidableEq K]{knd:HeapKind prog w K}{A:Around}{E:Value→Shared→Prop}{s:Shared}{d b:Addr}{k:K}{ps:List (K × Addr × Value)}
end
section
variable {o e f:Expr}{apos cpos:Pos}{td ty tx:TE}
end
section
open PySem.SeqAt
open PySem.AutoSeq1 (wpAny_loadPart')
open PySem.MeetsSeq PySem.MeetsSeq2 PySem.MeetsSeq3
end
section
end
section
variable {tg:Expr}
end
section
variable {σ0 cs:St}{k:Nat}{g:TG}{te:TE}{tt:TT}{H1:Hp}{Q:VK}
end
section
variable {w:World}{E:Value→Shared→Prop}{α:Type}{lt:α→α→Bool}
end
section
end
section
end
section
variable {w:World}{E:Value→Shared→Prop}
end
section
end
section
variable {w:World}{E:Value→Shared→Prop}
end
section
end
section
variable {prog:Program}{w:World}{κ:Type}[DecidableEq κ]{knd:HeapKind prog w κ}{A:Around}{E:Value→Shared→Prop}{s:Shared}
end
section
end
end L2
namespace L2
open PySem PySem.Spec PySem.Calls PyProof.Rows
variable {H:Hp}{X:Cx}{s:Shared}{pos:Pos}{prog:Program}{A:Around}{K:PySem.W.Frag}
section
variable {w:World}{E:Value→Shared→Prop}
end
section
variable {tg:Expr}
end
section
variable {elt tg iter cnd:Expr}{scope:Scope}{N':List Str}{wi:TI}{g:TG}{te:TE}{tt:TT}
end
section
end
end L2
namespace L2
open PySem PySem.Spec PySem.Calls PyProof.Rows PySem.W
variable {H:Hp}{X:Cx}{s:Shared}{pos:Pos}{prog:Program}{A:Around}{K:PySem.W.Frag}
abbrev NK:Type:=(Int × Int) × Int
def inn (p:Int × Int):List Key:=[.inl p.1,.inl p.2]
theorem yB (h:inn p=inn q):p=q:=by
 simp only[inn,List.cons.injEq,Sum.inl.injEq,and_true]at h;exact Prod.ext h.1 h.2
def n5 (P:Program)(w:World)(h:Heap)(k:NK)(a:Addr):Prop:=∃ (b:Addr) (t:Tok),IsTup h a #[.ref b,.int k.2 t]∧(tupleKind (aT P w)).is h (inn k.1) b
section
variable {P:Program}{w:World}{h h':Heap}{a d:Addr}{k x y:NK}
theorem CL (i:IsTup h a u)(j:IsTup h a v):u=v:=by
 obtain⟨o,e,_,n,q⟩:=i;obtain⟨o',G,_,J,B⟩:=j;cases e.symm.trans G;rw[q]at B;injection B
theorem n5.inj (B:n5 P w h x a)(G:n5 P w h y a):x=y:=by
 obtain⟨b,t,i,j⟩:=B;obtain⟨U,t',J,O⟩:=G;have e:=Ij Array.toList (CL i J);injection e with e1 e2;injection e1 with e1;injection e2 with e2;injection e2 with e2 _;subst e1;exact Prod.ext (yB (IsTupleKey.inj j O)) e2
theorem n5.keeps {es ep}(i:n5 P w h k a)(G:h.get? d=some o)(J:o.data=.dict es ep)(O:Heap.SameBut d h h'):n5 P w h' k a:=by
 obtain⟨b,t,⟨o',U,Y,n',B⟩,j⟩:=i;refine⟨b,t,⟨o',(O.2 a fun z =>?_).trans U,Y,n',B⟩,IsTupleKey.keeps j G J O⟩;subst z;cases G.symm.trans U;rw[J]at B;exact nomatch B
end
def t_ (P:Program)(w:World)(k:NK):Int:=reduceHash (Builtin.Tuple.tupleHashOf [tupleKeyHash (aT P w) (inn k.1),hashInt k.2])
section
variable {P:Program}{w:World}{E:Value→Shared→Prop}{k x y:NK}{a b:Addr}
theorem DA (J:A.units + 1 < cLine)(i:n5 P w s.heap k a)(h:Q (t_ P w k) { s with toks:=s.toks + 5 }):wpAny (model P w) A (PySem.pyHash (.ref a)) Q E s:=by
 obtain⟨b,t,⟨o,O,U,n,Y⟩,j⟩:=i;have B:s.TypeIs (.ref a) "tuple" := ⟨o,O,U⟩
 have G:A.units < cLine:=Kx J;unfold pyHash pyHashByItsType;refine Ho (wpAny_cRoomFor_or (.inr G) (Ho (wpAny_specialOf B F.slot_tuple_hash.lookup ?_)));show wpAny _ _ (if (some (Value.builtin "tuple.__hash__") == some Value.none)=true then _ else _) Q E s
 rw[if_neg (by rw[beq_builtin_none];exact HN)];refine Ho (wpAny_specialOf B F.slot_tuple_hash.lookup (?_:wpAny _ _ (callSpecialIfBoundUnlessNone? (.ref a) "__hash__" _ >>= _) Q E s))
 refine Ho (wpAny_callSpecialIfBoundUnlessNone?_slot B F.slot_tuple_hash (wpAny_call_entry F.slot_tuple_hash B F.entry_tuple_hash (?_:wpAny _ _ (Builtin.Tuple.tupleItemsOf (.ref a) >>= _) _ _ s) (F.args_tuple_hash_1 _)));refine Ho (wpAny_tupleItemsOf O Y (Ho ?_));rw[← Ku];show wpAny _ _ (forIn [Value.ref b,Value.int k.2 t] _ _) _ _ s;rw[JJ];refine Ho (Ho (wpAny_pyHash_tuple (ks:=inn k.1) J j ?_));refine HJ ?_;show wpAny _ _ (forIn [Value.int k.2 t] _ _) _ _ _;rw[JJ];refine Ho (Ho (wpAny_pyHash_int (HJ ?_)));show wpAny _ _ (forIn ([]:List Value) _ _) _ _ _;rw[KP];refine HJ (?_:wpAny _ _ (retInt (Builtin.Tuple.tupleHashOf [tupleKeyHash (aT P w) (inn k.1),hashInt k.2])) _ _ _);refine wpAny_ret_mkInt ?_;generalize hz:Builtin.Tuple.tupleHashOf [tupleKeyHash (aT P w) (inn k.1),hashInt k.2]=z;have hk:t_ P w k=reduceHash z:=by unfold t_;rw[hz]
 rw[hk]at h;unfold reduceHash at h;show wpAny _ _ (if (decide (-(2:Int) ^ 63≤z) && decide (z < 2 ^ 63))=true then _ else _) Q E _;by_cases hr:(decide (-(2:Int) ^ 63≤z) && decide (z < 2 ^ 63))=true
 ·rw[if_pos hr]at h ⊢;exact HJ h
 ·rw[if_neg hr]at h ⊢;exact Ho (wpAny_rule (HJ h))
theorem uv (i:(tupleKind (aT P w)).is h (inn p) b):∃ t u,IsTup h b #[.int p.1 t,.int p.2 u]:=by
 obtain⟨o,items,n,e,c,q,r⟩:=i;have r':ItemsAre (aT P w) [.inl p.1,.inl p.2] items.toList:=r;generalize J:items.toList=l at r';cases r' with
 | cons h1 r' =>
 cases r' with
 | cons h2 r' =>
 cases r';have h1':mI (.inl p.1) _=true:=h1;have h2':mI (.inl p.2) _=true:=h2;rcases bL h1' with⟨i1,O,B,U⟩ | ⟨_,_,B,_⟩
 ·rcases bL h2' with⟨i2,Y,G,e4⟩|⟨_,_,G,_⟩
  ·injection B with B;injection G with G;subst B G U e4;refine⟨O,Y,o,e,c,n,?_⟩;rw[q,← Array.toArray_toList (xs:=items),J]
  ·cases G
 ·cases B
theorem eq_int (A:Around)(s:Shared)(i j:Int)(t u:Tok):SeqAt.EqAt A s (.int i t) (.int j u) (decide (i=j)):=fun _ _ _ _ h=>wpAny_eqBool_int h
theorem rR (i:IsTup h a xs):h.IsTuple a xs:=i
theorem yL {a b:Addr}{x y u v:Value}{p q:Bool}(B:A.units < cLine)(G:IsTup s.heap a #[x,y])(J:IsTup s.heap b #[u,v])(O:SeqAt.EqAt A.in1 s x u p)(U:SeqAt.EqAt A.in1 s y v q)(Y:a=b→p=true∧q=true):SeqAt.EqAt A s (.ref a) (.ref b) (p && q):=by
 by_cases hab:a=b
 ·obtain⟨rfl,rfl⟩:=Y hab;subst hab;exact SeqAt.EqAt.same _
 ·refine SeqAt.EqAt.of_refs hab ?_
  have:=SeqAt.RcAt.tuples (A:=A) (s:=s) (e:=fun j=>if j=0 then p else q) (rR G) (rR J) B (fun j h1 h2 =>?_)
  ·have e3:(List.range (min (#[x,y]:Array Value).size (#[u,v]:Array Value).size)).all (fun j=>if j=0 then p else q)=(p && q):=by
    show ([0,1].all fun j=>if j=0 then p else q)=_;simp
   rw[e3]at this;simpa using this
  ·rcases j with _|_|j
   ·exact O
   ·exact U
   ·exact absurd h1 (by simp)
theorem Fy {p q:Int × Int}{b c:Addr}(B:A.units < cLine)(i:(tupleKind (aT P w)).is s.heap (inn p) b)(j:(tupleKind (aT P w)).is s.heap (inn q) c):SeqAt.EqAt A s (.ref b) (.ref c) (decide (p=q)):=by
 obtain⟨O,U,G⟩:=uv i;obtain⟨Y,u2,J⟩:=uv j
 have:=yL B G J (eq_int _ _ _ _ _ _) (eq_int _ _ _ _ _ _) fun e=>by
  subst e
  have:=yB (IsTupleKey.inj i j)
  subst this;exact⟨Hr rfl,Hr rfl⟩
 have e:(decide (p.1=q.1) && decide (p.2=q.2))=decide (p=q):=by
  rw[ID,IW,Io,Io,Io];exact⟨fun h=>Prod.ext h.1 h.2,fun h=>by rw[h];exact⟨rfl,rfl⟩⟩
 rw[e]at this;exact this
theorem eq_nk {x y:NK}{a b:Addr}(G:A.units + 1 < cLine)(J:n5 P w s.heap x a)(O:n5 P w s.heap y b):SeqAt.EqAt A s (.ref a) (.ref b) (decide (x=y)):=by
 have B:=fun (e:a=b)=>J.inj (by rw[e];exact O);obtain⟨b1,t1,U,Y⟩:=J;obtain⟨b2,t2,i2,j2⟩:=O
 have:=yL (Kx G) U i2 (Fy (A:=A.in1) G Y j2) (eq_int _ _ _ _ _ _) fun e=>by
  have:=B e
  subst this;exact⟨Hr rfl,Hr rfl⟩
 have e:(decide (x.1=y.1) && decide (x.2=y.2))=decide (x=y):=by
  rw[ID,IW,Io,Io,Io];exact⟨fun h=>Prod.ext h.1 h.2,fun h=>by rw[h];exact⟨rfl,rfl⟩⟩
 rw[e]at this;exact this
theorem Ge (B:A.units + 1 < cLine)(G:n5 P w s.heap x a)(J:n5 P w s.heap y b)(h:Q (decide (x=y)) s):wpAny (model P w) A (PySem.eqBool (.ref a) (.ref b)) Q E s:=by
 exact eq_nk B G J P w E Q h
theorem Ae (i:(tupleKind (aT P w)).is s.heap (inn p) b)(h:Q true s):wpAny (model P w) A (eqIsQuiet 7 (.ref b)) Q E s:=by
 obtain⟨t,u,⟨o,B,J,n,O⟩⟩:=uv i;have G:s.TypeIs (.ref b) "tuple" := ⟨o,B,J⟩
 unfold eqIsQuiet;refine Ho (wpAny_specialOf G F.slot_tuple_eq.lookup (?_:wpAny _ _ (isInstance (.ref b) (.type "tuple") >>= _) _ _ s))
 refine Ho (wpAny_isInstance G isSubtype_tuple_tuple ?_);simp only[Bool.not_true,Hu,if_false];refine Ho (wpAny_seqItems B O (Ho (?_:wpAny _ _ (forIn #[Value.int p.1 t,Value.int p.2 u] _ _) _ _ s)));rw[← Ku];show wpAny _ _ (forIn [Value.int p.1 t,Value.int p.2 u] _ _) _ _ s;rw[JJ];refine Ho ?_;rw[eqIsQuiet_byValue _ (show carriedByValue (.int p.1 t)=true from rfl)];refine Ho (HJ (?_:wpAny _ _ (pure (ForInStep.yield (none,()))) _ _ _));refine HJ (?_:wpAny _ _ (forIn [Value.int p.2 u] _ _) _ _ _);rw[JJ];refine Ho ?_;rw[eqIsQuiet_byValue _ (show carriedByValue (.int p.2 u)=true from rfl)];refine Ho (HJ (?_:wpAny _ _ (pure (ForInStep.yield (none,()))) _ _ _));refine HJ (?_:wpAny _ _ (forIn ([]:List Value) _ _) _ _ _);rw[KP];exact HJ (HJ h)
theorem BK (i:n5 P w s.heap k a)(h:Q true s):wpAny (model P w) A (eqIsQuiet 8 (.ref a)) Q E s:=by
 obtain⟨b,t,⟨o,B,J,n,O⟩,j⟩:=i;have G:s.TypeIs (.ref a) "tuple" := ⟨o,B,J⟩
 unfold eqIsQuiet;refine Ho (wpAny_specialOf G F.slot_tuple_eq.lookup (?_:wpAny _ _ (isInstance (.ref a) (.type "tuple") >>= _) _ _ s))
 refine Ho (wpAny_isInstance G isSubtype_tuple_tuple ?_);simp only[Bool.not_true,Hu,if_false];refine Ho (wpAny_seqItems B O (Ho ?_));show wpAny _ _ (forIn #[Value.ref b,Value.int k.2 t] _ _) _ _ s;rw[← Ku];show wpAny _ _ (forIn [Value.ref b,Value.int k.2 t] _ _) _ _ s;rw[JJ];refine Ho ?_;refine Ho (Ae j (?_:wpAny _ _ (pure (ForInStep.yield (none,()))) _ _ _));refine HJ (?_:wpAny _ _ (forIn [Value.int k.2 t] _ _) _ _ _);rw[JJ];refine Ho ?_;rw[eqIsQuiet_byValue _ (show carriedByValue (.int k.2 t)=true from rfl)];refine Ho (HJ (?_:wpAny _ _ (pure (ForInStep.yield (none,()))) _ _ _));refine HJ (?_:wpAny _ _ (forIn ([]:List Value) _ _) _ _ _);rw[KP];exact HJ (HJ h)
end
def fm (P:Program)(w:World):HeapKind P w NK where
 is:=n5 P w
 hash:=t_ P w
 draws:=fun _=>5
 room:=fun A=>A.units + 1 < cLine
 inj:=fun hx hy=>hx.inj hy
 keeps:=fun x ho hd hs=>x.keeps ho hd hs
 pyHash:=fun hu i h=>DA hu i h
 eqBool:=fun hu hx hy h=>Ge hu hx hy h
 quiet:=fun i h=>BK i h
def ij (H:Hp)(k:NK)(a:Addr):Prop:=∃ b,H a=some (.tup [.ref b,.int k.2])∧H b=some (.tup [.int k.1.1,.int k.1.2])
theorem ij.up (h:ij H k a)(B:∀ b xs,H b=some (.tup xs)→H' b=some (.tup xs)):ij H' k a:=by
 obtain⟨b,h1,h2⟩:=h;exact⟨b,B _ _ h1,B _ _ h2⟩
def vv:V→Value
 | .ref a=>.ref a
 | .bl b=>.bool b
 | _=>.none
def Pln (v:V):Prop:=bw v (vv v)
abbrev NE:Type:=NK × Addr × V
def raw (e:NE):NK × Addr × Value:=(e.1,e.2.1,vv e.2.2)
def dN (P:Program)(w:World)(a:Addr)(xs:List NE):HO:=.ext fun h=>xs.length≤sizeLine∧(a == sysModules)=false ∧
 ∃ o es ep,h.get? a=some o∧o.ExactDict∧o.data=.dict es ep∧es.toList=(xs.map raw).map (entryOfKey (fm P w))∧((xs.map raw).map (·.1)).Nodup
structure DN (P:Program)(w:World)(H:Hp)(a:Addr)(xs:List NE):Prop where
 at_:H a=some (dN P w a xs)
 keys:∀ e∈xs,ij H e.1 e.2.1∧Pln e.2.2
def nkV (xs:List NE)(k:NK):Option V:=(xs.find? fun e=>decide (e.1=k)).map (·.2.2)
def cX (xs:List NE)(k:NK)(a:Addr)(v:V):List NE:=if (nkV xs k).isSome then xs.map (fun e=>if e.1=k then (e.1,e.2.1,v) else e) else xs++[(k,a,v)]
section
variable {P:Program}{w:World}{H':Hp}{h:Heap}{a b d:Addr}{xs:List NE}{k:NK}{v:V}
theorem vN (ok:HOk P w H h)(i:ij H k a):(fm P w).is h k a:=by
 obtain⟨b,h1,h2⟩:=i;obtain⟨_,its,r,p⟩:=(show bF P w H h a (.tup _) from ok a _ h1);obtain⟨J,O,rfl,B,G⟩:=kH r;cases B;obtain⟨t,rfl⟩:=G;exact⟨b,t,p,qI (ks:=inn k.1) ok h2⟩
theorem Cz (xs:List NE)(k:NK):(atKey (xs.map raw) k).map (·.2)=(nkV xs k).map vv:=by
 induction xs with
 | nil=>rfl
 | cons e xs ih =>
  by_cases q:e.1=k
  ·simp[atKey,nkV,Jc,raw,q]
  ·simpa[atKey,nkV,Jc,raw,q] using ih
theorem uL (xs:List NE)(k:NK):(atKey (xs.map raw) k).isSome=(nkV xs k).isSome:=by
 have:=Ij Option.isSome (Cz xs k)
 simpa using this
theorem Dc (xs:List NE)(k:NK)(a:Addr)(v:V):storedH (xs.map raw) k a (vv v)=(cX xs k a v).map raw:=by
 unfold storedH cX;rw[uL]
 split
 ·rw[IK,IK];refine IN fun e _ =>?_;by_cases q:e.1=k<;>simp[putAt,raw,q]
 ·simp[raw]
theorem yf (xs:List NE)(k:NK)(a:Addr)(v:V):(cX xs k a v).length≤xs.length + 1:=by
 unfold cX
 split<;>simp
theorem DN.up (D:DN P w H a xs)(B:ak H H'):DN P w H' a xs:=⟨B _ _ D.at_,fun e G=>⟨(D.keys e G).1.up fun b ys q=>B _ _ q,(D.keys e G).2⟩⟩
theorem DN.keep (D:DN P w H a xs)(h1:H' a=H a)(G:∀ b ys,H b=some (.tup ys)→H' b=some (.tup ys)):DN P w H' a xs:=⟨h1.trans D.at_,fun e B=>⟨(D.keys e B).1.up G,(D.keys e B).2⟩⟩
theorem DN.rd (ok:HOk P w H h)(D:DN P w H a xs):xs.length≤sizeLine∧(a == sysModules)=false∧h.DictOfH (fm P w) a (xs.map raw):=by
 obtain⟨⟨z,y,o,es,ep,h1,h2,B,G,J⟩,_⟩:=(show bF P w H h a (dN P w a xs) from ok a _ D.at_);refine⟨z,y,o,es,ep,h1,h2,B,G,fun x O =>?_,J⟩;obtain⟨e,U,rfl⟩:=Hz.mp O;exact vN ok (D.keys e U).1
theorem Cq (z:xs.length≤sizeLine)(y:(a == sysModules)=false)(dd:h.DictOfH (fm P w) a (xs.map raw)):bF P w H h a (dN P w a xs):=by
 obtain⟨o,es,ep,h1,h2,J,O,_,U⟩:=dd;refine⟨⟨z,y,o,es,ep,h1,h2,J,O,U⟩,⟨o,h1⟩,fun g1 g2 q st =>?_⟩;obtain⟨Y,y',o',B,G,k1,k2,k3,k4,k5⟩:=q;exact⟨Y,y',o',B,G,st _ k1,k2,k3,k4,k5⟩
theorem Bh (J:∀ e∈xs,ij H e.1 e.2.1∧Pln e.2.2)(i:ij H k b)(pv:Pln v):∀ e∈cX xs k b v,ij H e.1 e.2.1∧Pln e.2.2:=by
 intro e B;unfold cX at B
 split at B
 ·obtain⟨O,G,rfl⟩:=Hz.mp B
  split
  ·exact⟨(J O G).1,pv⟩
  ·exact J O G
 ·rcases HD.mp B with B|B
  ·exact J e B
  ·rw[Hv.mp B];exact⟨i,pv⟩
end
section
def EL (P:Program)(w:World):TE:=fun _ H Q=>∀ p,H p=none→Q (.ref p) (upd H p (dN P w p []))
theorem vA:PE X (.Dict [] [] pos) (EL X.prog X.w):=fun pins s σ H Q I h =>
 wpAny_Dict_empty ⟨.ref s.heap.objs.size,_,I.laid (a:=s.heap.objs.size) (o:=dN X.prog X.w s.heap.objs.size []) (t':=s.toks) (fun _ _ q=>Hq _ q) (Ht _)
  (Cq (HE _) (beq_eq_false_iff_ne.mpr (Ne.symm (Ik I.big))) ⟨_,#[],0,HQ _ rfl,⟨rfl,rfl,rfl⟩,rfl,rfl,fun x (B:x∈([]:List _))=>absurd B (by simp),List.nodup_nil⟩),rfl,h _ (I.hok.fresh (Ht _))⟩
theorem E7 (B:X.A.units + 2 < cLine):OpR X (compareOp .In) (fun x y H Q=>∃ (a b:Addr) (k:NK) (xs:List NE),x=.ref b∧y=.ref a∧DN X.prog X.w H a xs∧ij H k b∧Q (.bl (nkV xs k).isSome) H):=by
 intro pins s σ H x y v u Q I G J h;obtain⟨a,b,k,xs,rfl,rfl,D,i,q⟩:=h;cases G;cases J;obtain⟨_,y,dd⟩:=D.rd I.hok;refine wpAny_in_heap (knd:=fm X.prog X.w) B (vN I.hok i) y dd ?_;rw[uL];exact⟨.bl _,H,I.tok _,rfl,q⟩
theorem zL (B:X.A.units + 2 < cLine):OpR X (compareOp .NotIn) (fun x y H Q=>∃ (a b:Addr) (k:NK) (xs:List NE),x=.ref b∧y=.ref a∧DN X.prog X.w H a xs∧ij H k b∧Q (.bl (!(nkV xs k).isSome)) H):=by
 intro pins s σ H x y v u Q I G J h;obtain⟨a,b,k,xs,rfl,rfl,D,i,q⟩:=h;cases G;cases J;obtain⟨_,y,dd⟩:=D.rd I.hok;refine wpAny_notIn_heap (knd:=fm X.prog X.w) B (vN I.hok i) y dd ?_;rw[uL];exact⟨.bl _,H,I.tok _,rfl,q⟩
abbrev EN (P:Program)(w:World)(td ty:TE):TE:=fun σ H Q=>td σ H fun x H1=>ty σ H1 fun y H2=>∃ (a b:Addr) (k:NK) (xs:List NE) (v:V),x=.ref a∧y=.ref b∧DN P w H2 a xs∧ij H2 k b∧nkV xs k=some v∧Q v H2
theorem mG (h:nkV xs k=some v):∃ a,(k,a,v)∈xs:=by
 obtain⟨e,h1,rfl⟩:=Iw.mp h;have h2:=KN h1;have B:e.1=k:=by simpa using h2
 exact⟨e.2.1,by rw[← B];exact JP h1⟩
theorem Bv (O:X.A.units + 2 < cLine)(U:PE X o td)(hi:PE X i ty)(Y:Ei i):PE X (.Subscript o i pos) (EN X.prog X.w td ty):=by
 intro pins s σ H Q I h;refine sX PySem.F.slot_dict_getitem.lookup Y (thn (U pins s σ H _ I h) fun u s1 ⟨x,H1,I1,rx,q1⟩=>thn (hi pins s1 σ H1 _ I1 q1) fun iv s2 ⟨y,H2,B,ry,a,b,k,xs,v,ex,ey,D,j,g,q2⟩ =>?_);subst ex ey;cases rx;cases ry;obtain⟨_,_,dd⟩:=D.rd B.hok;have J:=Cz xs k;rw[g]at J;obtain⟨p,hp,G⟩:=Iw.mp J;obtain⟨c,hc⟩:=mG g;refine⟨dd.typeIs,wpAny_getItem_heap (knd:=fm X.prog X.w) O (vN B.hok j) dd hp ?_⟩;rw[G];exact⟨v,H2,B.tok _,(D.keys _ hc).2,q2⟩
abbrev ER (P:Program)(w:World)(td ty tv:TE):TS:=fun D σ H=>tv σ H fun v H1=>td σ H1 fun x H2=>ty σ H2 fun y H3=>∃ (a b:Addr) (k:NK) (xs:List NE),x=.ref a∧y=.ref b∧DN P w H3 a xs∧ij H3 k b∧Pln v∧xs.length < sizeLine ∧
 (DN P w (upd H3 a (dN P w a (cX xs k b v))) a (cX xs k b v)→D.nx σ (upd H3 a (dN P w a (cX xs k b v))))
theorem vw (hu:X.A.units + 2 < cLine)(ho:PE X o td)(hi:PE X i ty)(hv:PE X value tv)(G:swapsWith value (some (.Subscript o i pos')) pos.line X.env=pure false):
  PS X (.Assign [.Subscript o i pos'] value pos) (ER X.prog X.w td ty tv):=by
 intro pins s σ H D I h;refine wpAny_Assign_Subscript (thn (hv pins s σ H _ I h) fun r s1 ⟨v,H1,I1,J,q1⟩=>thn (ho pins s1 σ H1 _ I1 q1) fun u s2 ⟨x,H2,I2,rx,q2⟩=>thn (hi pins s2 σ H2 _ I2 q2) fun iv s3 ⟨y,H3,O,ry,a,b,k,xs,ex,ey,Dn,j,pv,hl,q3⟩ =>?_) G;subst ex ey;cases rx;cases ry;have er:r=vv v:=by
  unfold Pln at pv;cases v with
  | ref a=>rw[show r=_ from J];rfl
  | bl b=>rw[show r=_ from J];rfl
  | non=>rw[show r=_ from J];rfl
  | int i=>exact nomatch pv
  | str x=>exact nomatch pv
  | byt b=>exact nomatch pv
  | flt b=>exact nomatch pv
  | ty n=>cases pv
 subst er;obtain⟨z,y,dd⟩:=Dn.rd O.hok;have hz:(xs.map raw).length≤sizeLine:=by rw[Hw];exact z
 refine wpAny_setItem_heap (knd:=fm X.prog X.w) (hsz:=hz) hu (vN O.hok j) dd fun h' B G =>?_;rw[Dc]at B;have U:(cX xs k b v).length≤sizeLine:=H_ (yf xs k b v) hl;have nt:∀ c ys,H3 c=some (.tup ys)→upd H3 a (dN X.prog X.w a (cX xs k b v)) c=some (.tup ys):=fun c ys Y=>by
  rw[aH fun q=>by rw[q,Dn.at_]at Y;exact nomatch Y];exact Y
 refine⟨σ,_,pM O (by rw[Dn.at_];exact True.intro) G (let ⟨q,_,_,hq,_⟩:=B;⟨q,hq⟩) (Cq U y B),q3 ⟨ah,fun e he =>?_⟩⟩;obtain⟨k1,k2⟩:=Bh Dn.keys j pv e he;exact⟨k1.up nt,k2⟩
theorem cY.nest (r:cY k A):A.units + 2 < PySem.cLine:=by have:=r.units;lia
end
def q8 (h:Heap)(d:Addr)(es:Array DictEntry)(ep:Nat):Prop:=∃ o,h.get? d=some o∧o.ExactDict∧o.data=.dict es ep
theorem q8.type {s:Shared}{d:Addr}{es:Array DictEntry}{ep:Nat}(r:q8 s.heap d es ep):s.TypeIs (.ref d) "dict" := let ⟨o,h,c,_⟩:=r;⟨o,h,c.1⟩
theorem q8.keep (r:q8 h d es ep)(k:∀ o,h.get? d=some o→h'.get? d=some o):q8 h' d es ep:=let ⟨o,e,x⟩:=r;⟨o,k o e,x⟩
section
variable {w:World}{E:Value→Shared→Prop}{d I:Addr}{es:Array DictEntry}{ep i:Nat}
theorem zE {Q:Value→Shared→Prop}(O:(d == sysModules)=false)(r:q8 s.heap d es ep)
  (U:Q (.ref s.heap.objs.size) { s with heap:=s.heap.push { cls:=.type "dict_keyiterator",data:=.fields #[.ref d,.int 0 0,.int es.size 0,.int ep 0] } }):wpAny (model prog w) A (pyIter (.ref d)) Q E s:=by
 have G:=r.type;obtain⟨o,J,Y,B⟩:=r;refine wpAny_pyIter_slot G F.slot_dict_iter (wpAny_call_entry F.slot_dict_iter G F.entry_dict_iter ?_ (F.args_dict_iter_1 _));unfold Builtin.«dict.__iter__» Builtin.Dict.dictSlotNone;refine Ho (Ho (wpAny_notOrdered_dict G (HJ (?_:wpAny _ _ (Builtin.Dict.showsAll d >>= _) _ _ s))));unfold Builtin.Dict.showsAll;rw[if_neg (by rw[O];exact HN)];refine Ho (HJ (Ho (wpAny_dictEntries J B (Ho (wpAny_dictEpoch J B (Ho (wpAny_newObj_type (HJ ⟨_,rfl,"dict_keyiterator",_,⟨_,HQ _ rfl,rfl⟩,F.slot_dict_keyiterator_next.lookup,?_⟩))))))))
 simpa[rawInt] using U
theorem zF (it:s.heap.IsKeyIter I d i es.size ep)(r:q8 s.heap d es ep)(hi:i < es.size)
  (Y:∀ h',h'.IsKeyIter I d (i + 1) es.size ep→Heap.SameBut I s.heap h'→Q (some es[i].key) { s with heap:=h' }):wpAny (model prog w) A (pyNext (.ref I)) Q E s:=by
 have B:=it.typeIs;obtain⟨o,U,hc,O⟩:=it;obtain⟨od,G,a0,J⟩:=r;unfold pyNext;refine Ho (wpAny_attempt (wpAny_callSpecial?_slot (name:=Str.ofString "__next__") B F.slot_dict_keyiterator_next (wpAny_call_entry F.slot_dict_keyiterator_next B F.entry_dict_keyiterator_next (Ho (HJ (Ho (Ho ?_)))) (F.args_dict_keyiterator_next_1 _))))
 refine Ho (wpAny_typeNameOfWhole_keyiter B (HJ (Ho (wpAny_fieldsOf U O ?_))));simp only[show Builtin.Dict_items.ownsTuple "dict_keyiterator" = false by decide,Hu,if_false]
 show wpAny _ _ (if (Value.ref d == Value.none)=true then _ else _) _ _ s;rw[if_neg (show ¬ ((Value.ref d == Value.none)=true) from HN)];refine Ho (HJ (Ho (wpAny_dictEntries G J ?_)));rw[if_neg (by simp)];refine Ho (HJ (Ho (wpAny_dictEpoch G J ?_)));rw[if_neg (by simp)];refine HJ ?_;simp only[show ¬ ((i:Int) < 0) from by simp,if_false,Iy,Hy hi];refine Ho (Ho (wpAny_typeNameOfWhole_keyiter B (HJ (Ho (wpAny_isOneOf_keyiter B (?_:wpAny _ _ (setField (.ref I) 1 (rawInt ((i:Int) + 1)) >>= _) _ _ s))))));refine Ho (wpAny_setField U O (by simp) ?_);have it':(s.heap.update I (Obj.mapFields (·.setIfInBounds 1 (rawInt ((i:Int) + 1))))).IsKeyIter I d (i + 1) es.size ep :=
  ⟨_,Kh _ U (Obj.isFreed_of_fields (Obj.data_mapFields O _)),(Obj.cls_mapFields ..).trans hc,by rw[Obj.data_mapFields O];simp[rawInt]⟩
 refine Ho (wpAny_holding (Ho (wpAny_isOneOf_keyiter (s:={ s with heap:=s.heap.update I (Obj.mapFields (·.setIfInBounds 1 (rawInt ((i:Int) + 1)))) }) it'.typeIs (?_:wpAny _ _ (pure es[i].key) _ _ _))));exact HJ (HJ ⟨_,rfl,HJ (Y _ it' (Heap.SameBut.update ..))⟩)
theorem AX (Y:A.handled=none)(it:s.heap.IsKeyIter I d es.size es.size ep)(r:q8 s.heap d es ep)(hQ:∀ h',Heap.ExtBut I s.heap h'→Q none { s with heap:=h' }):wpAny (model prog w) A (pyNext (.ref I)) Q E s:=by
 have B:=it.typeIs;obtain⟨o,O,hc,U⟩:=it;obtain⟨od,G,a0,J⟩:=r;unfold pyNext;refine Ho (wpAny_attempt (wpAny_callSpecial?_slot (name:=Str.ofString "__next__") B F.slot_dict_keyiterator_next (wpAny_call_entry F.slot_dict_keyiterator_next B F.entry_dict_keyiterator_next (Ho (HJ (Ho (Ho ?_)))) (F.args_dict_keyiterator_next_1 _))))
 refine Ho (wpAny_typeNameOfWhole_keyiter B (HJ (Ho (wpAny_fieldsOf O U ?_))));simp only[show Builtin.Dict_items.ownsTuple "dict_keyiterator" = false by decide,Hu,if_false]
 show wpAny _ _ (if (Value.ref d == Value.none)=true then _ else _) _ _ s;rw[if_neg (show ¬ ((Value.ref d == Value.none)=true) from HN)];refine Ho (HJ (Ho (wpAny_dictEntries G J ?_)));rw[if_neg (by simp)];refine Ho (HJ (Ho (wpAny_dictEpoch G J ?_)));rw[if_neg (by simp)];refine HJ ?_;simp only[show ¬ ((es.size:Int) < 0) from by simp,if_false,Iy,J_ (Ht es.size)];refine Ho (Ho (wpAny_typeNameOfWhole_keyiter B (HJ (?_:wpAny _ _ (setField (.ref I) 0 .none >>= _) _ _ s))));refine Ho (wpAny_setField O U (by simp) (?_:wpAny _ _ (newExc (.type "StopIteration") [] >>= _) _ _ _))
 refine Ho ?_;simp only[newExc,newTuple];refine Ho (wpAny_newObj_type (Ho (m:=firstArgMember _ _) (wpAny_of_eq (a:=Value.none) (by first | rfl | (simp only[firstArgMember];rfl)) (wpAny_newObj_type ?_ (by size_fits)))) (by size_fits));simp only[raiseNew];refine Ho (wpAny_handled ?_);rw[show A.in1.handled=none from Y];refine Ho (HJ (wpAny_throw ?_));exact Ho (wpAny_isInstance (T := "StopIteration") (b:=true) ⟨_,HQ _ rfl,rfl⟩ isSubtype_stop (HJ (hQ _ (((Heap.SameBut.update ..).extBut.push _).push _))))
theorem wX (hh:A.handled=none)(O:d≠I):Walks prog w A I [I,d] [I] es.size (fun i v=>∃ e,es[i]? = some e∧v=e.key) (fun i h=>h.IsKeyIter I d i es.size ep∧q8 h d es ep) where
 sub:=fun b B=>by simp at B;simp[B]
 frame:=fun _ _ _ st hk=>⟨st.1.at fun o e=>hk I (by simp) o e,st.2.keep fun o e=>hk d (by simp) o e⟩
 item:=fun i s Q E hi st G=>zF st.1 st.2 hi fun h' U J=>G _ h' s.toks ⟨es[i],by simp[hi],rfl⟩ ⟨U,st.2.keep fun o e=>J.extBut d o O e⟩ fun b o B e=>J.extBut b o (fun h=>B (by simp[h])) e
 done:=fun s Q E st G=>AX hh st.1 st.2 fun h' Y=>G h' s.toks fun b o B e=>Y b o (fun h=>B (by simp[h])) e
 self:=fun _ _ _ _ st G=>wpAny_pyIter_keyiter st.1 G
theorem AW (lo:(d == sysModules)=false):KdlSrc prog w "dict" d d es.size (fun i v=>∃ e,es[i]? = some e∧v=e.key) (fun h=>q8 h d es ep) where
 type:=fun _ B=>B.type
 there:=fun _ B=>let ⟨o,ho,_⟩:=B;⟨HL ho,HL ho⟩
 keep:=fun _ _ B J=>B.keep fun o e=>J d (.inl rfl) o e
 notList:=by decide
 notTuple:=by decide
 hint:=fun _ _ _ _ B G=>kdl_hint_dict B.type G
 iter:=fun _ s O B=>⟨_,_,(fun _ _ G=>zE lo B G),wX O (let ⟨o,ho,_⟩:=B;Ik (HL ho)),⟨⟨_,HQ _ rfl,rfl,rfl⟩,B.keep fun o e=>Hq _ e⟩⟩
end
def oO (h:Heap)(k:Int × Int)(u:Value):Prop:=∃ (a:Addr) (t t':Tok),u=.ref a∧IsTup h a #[.int k.1 t,.int k.2 t']
def ltI:Int × Int→Int × Int→Bool:=jQ (fun a b=>decide (a < b)) (fun a b=>decide (a < b))
theorem vS:Lin ltI:=ul uo uo
theorem BX (i:oO h k u)(B:∀ b o,o.cls=.type "tuple" → h.get? b=some o→h'.get? b=some o):oO h' k u:=by
 obtain⟨a,t,t',e,o,g,c,r⟩:=i;exact⟨a,t,t',e,o,B a o c g,c,r⟩
section
variable {w:World}{E:Value→Shared→Prop}
theorem DL (i:oO s.heap k u)(j:oO s.heap l v)(h:C (ltI k l) s):wpAny (model prog w) A (keyLt' (tuples' true) u v) C E s:=by
 obtain⟨a,t,t',rfl,oa,J,_,na,O⟩:=i;obtain⟨b,q,q',rfl,ob,U,_,nb,Y⟩:=j;refine kat_lt J O U Y (kat_cons (wpAny_eqBool_int (kat_go (fun e=>kat_yes (kat_cons (wpAny_eqBool_int (kat_go (fun G=>kat_yes (kat_nil ?_)) fun G=>kat_no (kat_one _ _ (PySem.P.lt_int ?_)))))) fun e=>kat_no ?_)))
 ·have B:k.1=l.1:=by simpa using e
  have e3:k.2=l.2:=by simpa using G
  have:ltI k l=false:=by rw[Prod.ext B e3];exact vS.irr l
  rw[this]at h;exact h
 ·have B:k.1=l.1:=by simpa using e
  have:ltI k l=decide (k.2 < l.2):=by unfold ltI jQ;rw[if_pos B]
  rw[this]at h;exact h
 ·have B:¬ k.1=l.1:=by simpa using e
  have:ltI k l=decide (k.1 < l.1):=by unfold ltI jQ;rw[if_neg B]
  rw[this]at h;exact oneLt_int h
theorem DM (U:Paired (fun k u=>oO s.heap k u) ks us)(h2:0 < us.length)(q:Q (tuples' true) s):wpAny (model prog w) A (keyKind' us.toArray) Q E s:=by
 have Y:∃ fs:List Value,KatTups s.heap us fs∧fs.length=us.length∧∀ v∈fs,∃ (k:Int) (t:Tok),v=.int k t:=by
  induction U with
  | nil=>exact⟨[],KatTups.nil,rfl,fun v B=>nomatch B⟩
  | @cons k u ks us h t ih =>
   obtain⟨a,t1,t2,rfl,o,ho,hc,n,hd⟩:=h;obtain⟨fs,G,O,J⟩:∃ fs:List Value,KatTups s.heap us fs∧fs.length=us.length∧∀ v∈fs,∃ (k:Int) (t:Tok),v=.int k t:=by
    cases us with
    | nil=>exact⟨[],KatTups.nil,rfl,fun v B=>nomatch B⟩
    | cons u us=>exact ih (Kq _)
   refine⟨.int k.1 t1::fs,KatTups.cons ho hc hd (by simp) G,by simp[O],fun v B =>?_⟩;rcases HZ.mp B with rfl | B
   ·exact⟨_,_,rfl⟩
   ·exact J v B
 obtain⟨fs,G,O,J⟩:=Y;refine kat_kind (T:=.type "int") G (by lia) (fun v B =>?_) (by decide) q
 obtain⟨k,t,rfl⟩:=J v B;exact Looks.now
theorem xS {h:Heap}{S:Addr}{f:Array Value→Array Value}{vs:Array Value}{n:Nat}(B:h.get? S=some (seqObj "list" vs n)):∀ b o,o.cls=.type "tuple" → h.get? b=some o→(h.update S (Obj.mapSeq f)).get? b=some o:=fun b o c e=>by
 refine (HY _ _ fun z =>?_).trans e;subst z;cases B.symm.trans e;exact absurd (show Value.type "list" = Value.type "tuple" from c) (by decide)
theorem qw:∀ {l:List α} {m:List β},Paired R l m→∀ p∈m.zip l,R p.2 p.1
 | _,_,.nil,p,h=>by simp at h
 | _,_,.cons r t,p,h=>by
  rcases HZ.mp h with rfl|h
  ·exact r
  ·exact qw t p h
theorem rJ {a q:Addr}{vs:List Value}{n:Nat}{kf:Value→Int × Int}{P:PySem.Fin→Shared→Prop}(ho:s.heap.get? a=some (seqObj "list" vs.toArray n))(sz:vs.length≤sizeLine)
  (turn:∀ (v:Value) (h:Heap) (tk:Nat),v∈vs→(∀ b o,b≠a→s.heap.get? b=some o→h.get? b=some o)→wpAny (model prog w) A (call (.ref q) [v]) (fun u s'=>∃ h' tk',s'={ s with heap:=h',toks:=tk' }∧(∀ b o,h.get? b=some o→h'.get? b=some o)∧oO h' (kf v) u) (fun _ _=>False) { s with heap:=h,toks:=tk })
  (fin:∀ (h':Heap) (tk:Nat) (out:List Value) (c:Nat),(∀ b o,b≠a→s.heap.get? b=some o→h'.get? b=some o)→h'.get? a=some (seqObj "list" out.toArray c)→out.Perm vs→out.Pairwise (fun x y=>ltI (kf y) (kf x)=false)→P (.done (.ret .none)) { s with heap:=h',toks:=tk }) :
  wpAny (model prog w) A (Builtin.«list.sort» ⟨[.ref a],[(Str.ofString "key",.ref q)]⟩) P E s:=by
 have ha:a < s.heap.objs.size:=HL ho;rw[ksk_t1];unfold ksk_tree;obtain⟨e1,a3⟩:∃ e1,(s.heap.update a (Obj.mapSeq fun _=>(#[]:Array Value))).get? a=some (seqObj "list" #[] e1):=⟨_,get?_update_seq ho fun _ => #[]⟩
 refine Ho (listItems_at ho rfl (Ho (listUpdate_at ho rfl (Ho (seqEpoch_at a3 rfl (Ho (wpAny_newTuple (Ho (wpAny_newList (wpAny_holding ?_) (HE _))) (by show vs.length≤_;exact sz))))) (by rw[HV];exact sz) (HE _))));obtain⟨h0,O⟩:∃ h0,h0=((s.heap.update a (Obj.mapSeq fun _=>(#[]:Array Value))).push (seqObj "tuple" vs.toArray 0)).push (seqObj "list" #[] 0):=⟨_,rfl⟩
 obtain⟨U,Y⟩:∃ U,U=((s.heap.update a (Obj.mapSeq fun _=>(#[]:Array Value))).push (seqObj "tuple" vs.toArray 0)).objs.size:=⟨_,rfl⟩
 show wpAny (model prog w) A (ksk_rest a (.ref q) false vs.toArray _ (.ref ((s.heap.update a (Obj.mapSeq fun _=>(#[]:Array Value))).push (seqObj "tuple" vs.toArray 0)).objs.size)) P E { s with heap:=((s.heap.update a (Obj.mapSeq fun _=>(#[]:Array Value))).push (seqObj "tuple" vs.toArray 0)).push (seqObj "list" #[] 0) }
 rw[← O,← Y];have a4:s.heap.objs.size < U:=by rw[Y,size_push',Heap.size_update];simp
 have ka:U≠a:=Jo (Kf ha a4);have g0:h0.get? a=some (seqObj "list" #[] e1):=by rw[O];exact Hq _ (Hq _ a3)
 have gk:h0.get? U=some (seqObj "list" #[] 0):=by rw[O,Y];exact HQ _ rfl
 have a6:∀ b o,b≠a→s.heap.get? b=some o→h0.get? b=some o:=fun b o hb e=>by
  rw[O];exact Hq _ (Hq _ ((HY _ _ (Ne.symm hb)).trans e))
 have nk:∀ b o,s.heap.get? b=some o→b≠U:=fun b o e=>Ik (Kf (HL e) a4)
 clear O Y
 unfold ksk_rest;refine Ho (wpAny_rule ?_);rw[List.forIn_toArray];refine Ho (ksk_fold (fun i s'=>∃ h tk G e,s'={ s with heap:=h,toks:=tk }∧(∀ b o,b≠a→s.heap.get? b=some o→h.get? b=some o)∧h.get? a=some (seqObj "list" #[] e1)∧h.get? U=some (seqObj "list" G e)∧Paired (fun k u=>oO h k u) ((vs.take i).map kf) G.toList) vs 0 _
  ⟨h0,s.toks,#[],0,rfl,a6,g0,gk,.nil⟩ ?step ?done)
 case step =>
  rintro j x s' hx ⟨h,tk,G,e,rfl,kp,ga,gk,hP⟩;simp only[Jb]at hP ⊢;have hj:j < vs.length:=(Hx.mp hx).1;have hz:G.size≤vs.length:=by
   have h1:=Paired.length hP;have h2:G.toList.length=G.size:=Il;rw[Hw,IC]at h1
   lia
  refine Ho (wpAny_attempt (IJ (turn x h tk (HH hx) kp) (fun u s2 he =>?_) fun _ _ hF=>hF.elim));obtain⟨h2,a9,rfl,a0,ky⟩:=he;have a1:=a0 _ _ gk;obtain⟨c2,a7⟩:∃ c2,(h2.update U (Obj.mapSeq (·.push u))).get? U=some (seqObj "list" (G.push u) c2):=⟨_,get?_update_seq a1 (·.push u)⟩
  have ut:=xS (f:=(·.push u)) a1;refine Ho (listUpdate_at a1 rfl ?_ (by lia) (H_ (Nat.le_of_eq (Array.size_push ..)) (by lia)));refine HJ ⟨rfl,_,_,G.push u,c2,rfl,fun b o hb e=>(HY _ _ (Ne.symm (nk b o e))).trans (a0 _ _ (kp b o hb e)),(HY _ _ ka).trans (a0 _ _ ga),a7,?_⟩;rw[Array.toList_push,Ic,hx,Im];exact Paired.snoc (Paired.mapP hP fun _ _ i=>BX (BX i fun b o _ e=>a0 b o e) ut) (BX ky ut)
 case done =>
  rintro s' ⟨h,tk,G,e,rfl,kp,ga,gk,hP⟩;rw[Jb,Jh]at hP;have hl:=Paired.length hP;have b0:G.toList.length=G.size:=Il;rw[Hw]at hl;have zl:(G.zip vs.toArray).toList=G.toList.zip vs:=ksk_zip G vs;have zs:(G.zip vs.toArray).toList.map (·.2)=vs:=by rw[zl];exact List.map_snd_zip (by lia)
  refine Ho (listItems_at gk rfl ?_);unfold ksk_end;simp only[Hu,if_false];have tail:∀ (st:SortSt),(arrOf st).Perm (G.zip vs.toArray)→failedOf st=none→((arrOf st).toList.map (·.2)).Pairwise (fun x y=>ltI (kf y) (kf x)=false)→wpAny (model prog w) A (ksk_tail a false e1 (.ref U) st) P E { s with heap:=h,toks:=tk }:=fun st hp hf hw=>by
   have hp':((arrOf st).toList.map (·.2)).Perm vs:=by
    have:=(I_.mp hp).map (·.2)
    rw[zs]at this;exact this
   have a5:(arrOf st).map (·.2)=((arrOf st).toList.map (·.2)).toArray:=by
    apply JR.mp
    rw[KH]
   unfold ksk_tail;dsimp only;have a2:(h.update U (Obj.mapSeq fun _=>(#[]:Array Value))).get? a=some (seqObj "list" #[] e1):=(HY _ _ ka).trans ga
   refine Ho (listUpdate_at gk rfl (Ho (wpAny_letGo (Ho (seqEpoch_at a2 rfl ?_)))) (by lia) (HE _));rw[a5,hf];simp only[Hu,if_false];refine Ho (listUpdate_at a2 rfl ?_ (HE _) (by rw[HV,hp'.length_eq];lia));simp only[bne_self_eq_false,Hu,if_false];refine HJ (fin _ tk _ _ (fun b o hb e=>(HY _ _ (Ne.symm hb)).trans ((HY _ _ (Ne.symm (nk b o e))).trans (kp b o hb e))) (get?_update_seq a2 fun _=>((arrOf st).toList.map (·.2)).toArray) hp' hw)
  by_cases h2:vs.toArray.size < 2
  ·rw[if_pos h2,if_pos h2];refine Ho (HJ ?_);rw[StateT.run_pure];refine Ho (HJ (tail _ (Array.Perm.refl _) rfl ?_));show ((G.zip vs.toArray).toList.map (·.2)).Pairwise _;rw[zs];rw[HV]at h2
   match vs,h2 with
   | [],_=>exact List.Pairwise.nil
   | [x],_=>exact JB _ _
   | _::_::_,h2=>exact absurd h2 (by simp)
  ·rw[if_neg h2,if_neg h2];rw[HV]at h2;have ek:G=G.toList.toArray:=by rw[Array.toArray_toList]
   refine Ho (?_:wpAny (model prog w) A (keyKind' G) _ E _);rw[ek];refine DM (s:={ s with heap:=h,toks:=tk }) hP (by lia) ?_;rw[← ek];have LO:Tim.dF prog w A E { s with heap:=h,toks:=tk } (G.zip vs.toArray) (tuples' true) (fun p=>rnk ltI (vs.map kf) (kf p.2)):=fun x y C hx hy hC=>by
    rw[zl]at hx hy;have pz:=qw (R:=fun v u=>oO h (kf v) u) (l:=vs) (m:=G.toList) (by
     have:∀ {l:List Value} {m:List Value},Paired (fun k u=>oO h k u) (l.map kf) m→Paired (fun v u=>oO h (kf v) u) l m:=fun {l}=>by
      induction l with
      | nil=>intro m r;cases r;exact .nil
      | cons v l ih=>intro m r;cases r with | cons r1 r2=>exact .cons r1 (ih r2)
     exact this hP)
    refine DL (pz x hx) (pz y hy) ?_;rw[← tE vS (Iz (JW (a:=x.1) (b:=x.2) hx).2) (Iz (JW (a:=y.1) (b:=y.2) hy).2)];exact hC
   refine Ho (IJ (Tim.yb LO (st:=SortSt.mk' (tuples' true) (G.zip vs.toArray) #[] 7 none) (Q:=fun _ J=>Tim.SB (G.zip vs.toArray) (tuples' true) J∧Tim.Seg (fun p=>rnk ltI (vs.map kf) (kf p.2)) (arrOf J) 0 (G.zip vs.toArray).size) ⟨Array.Perm.refl _,rfl,rfl⟩ rfl fun J B S'=>⟨B,S'⟩) ?_ fun _ _ e=>e);rintro⟨⟨⟩,J⟩ s' ⟨rfl,B,S'⟩;dsimp only at B S' ⊢;refine tail J B.perm B.ok ?_;have hp:((arrOf J).toList.map (·.2)).Perm vs:=by
    have:=(I_.mp B.perm).map (·.2)
    rw[zs]at this;exact this
   rw[IG,IQ];intro i j hi hj a8;rw[Il]at hi hj;have q:=S' i j (HE _) (Jk a8) (by rw[← B.size];exact hj);rw[Tim.ay (Hy hi),Tim.ay (Hy hj)]at q;have m1:(arrOf J)[i].2∈vs:=hp.mem_iff.mp (Iz (by simp));have m2:(arrOf J)[j].2∈vs:=hp.mem_iff.mp (Iz (by simp))
   have:=tE vS (ks:=vs.map kf) (Iz m2) (Iz m1)
   show ltI (kf (arrOf J)[j].2) (kf (arrOf J)[i].2)=false;rw[← this];exact Ih (by lia)
end
theorem zI:∀ {l m:List β},l.Perm m→∀ {xs:List α},m=xs.map f→∃ ys:List α,ys.Perm xs∧l=ys.map f:=by
 intro l m h
 induction h with
 | nil=>intro xs e;exact⟨[],by rw[List.map_eq_nil_iff.mp e.symm],rfl⟩
 | cons x _ ih =>
  intro xs e;cases xs with
  | nil=>cases e
  | cons z xs =>
   rw[Ig]at e;injection e with e1 e2;obtain⟨ys,h1,h2⟩:=ih e2;exact⟨z::ys,h1.cons z,by rw[Ig,h2,e1]⟩
 | swap x y l =>
  intro xs e;cases xs with
  | nil=>cases e
  | cons z xs =>
   cases xs with
   | nil=>cases e
   | cons z' xs =>
    rw[Ig,Ig]at e;injection e with e1 e2;injection e2 with e2 e3;exact⟨z'::z::xs,List.Perm.swap _ _ _,by rw[Ig,Ig,e1,e2,e3]⟩
 | trans _ _ ih1 ih2 =>
  intro xs e;obtain⟨ys,h1,h2⟩:=ih2 e;obtain⟨zs,B,G⟩:=ih1 h2;exact⟨zs,B.trans h1,G⟩
section
variable {w:World}{E:Value→Shared→Prop}
theorem wO {d q:Addr}{es:Array DictEntry}{ep:Nat}{kf:Value→Int × Int}{Q:Value→Shared→Prop}(hh:A.handled=none)(lo:(d == sysModules)=false)(r:q8 s.heap d es ep)(sz:es.size≤sizeLine)
  (turn:∀ (v:Value) (h:Heap) (tk:Nat),(∃ e∈es.toList,v=e.key)→(∀ b o,s.heap.get? b=some o→h.get? b=some o)→wpAny (model prog w) A.in1.in1 (call (.ref q) [v]) (fun u s'=>∃ h' tk',s'={ s with heap:=h',toks:=tk' }∧(∀ b o,h.get? b=some o→h'.get? b=some o)∧oO h' (kf v) u) (fun _ _=>False) { s with heap:=h,toks:=tk })
  (fin:∀ (h1 h':Heap) (tk:Nat) (out:List Value) (c:Nat),(∀ b o,s.heap.get? b=some o→h1.get? b=some o)→(∀ b o,h1.get? b=some o→h'.get? b=some o)→h'.get? h1.objs.size=some (seqObj "list" out.toArray c)→out.Perm (es.toList.map (·.key))→out.Pairwise (fun x y=>ltI (kf y) (kf x)=false)→Q (.ref h1.objs.size) { s with heap:=h',toks:=tk }) :
  wpAny (model prog w) A (call (.builtin "sorted") [.ref d] [(Str.ofString "key",.ref q)]) Q E s:=by
 refine call_function_entry_kw kind_sorted plain_sorted entry_sorted (ksk_s1 _ _) ?_;unfold Builtin.«sorted»;refine Ho (m:=checkCount "sorted" 1 1 _) (HJ (Ho (kdu_collect (A:=A.in1) (AW (es:=es) (ep:=ep) lo) hh r sz fun h1 J B G hi =>?_)))
 have ea:B.toList=es.toList.map (·.key):=by
  refine Kz fun j =>?_;rw[Ir,IT,IT];by_cases hj:j < es.size
  ·have O:j < B.size:=by rw[hi.1];exact hj
   obtain⟨e,e1,e2⟩:=hi.2 j B[j] (Hy O);rw[e1,Hy O,e2];rfl
  ·rw[J_ (by rw[hi.1];lia),J_ (by lia)];rfl
 rw[ea];have U:(es.toList.map (·.key)).length≤sizeLine:=by simpa using sz
 refine Ho (wpAny_newList ?_ U);have Y:(h1.push (seqObj "list" (es.toList.map (·.key)).toArray 0)).get? h1.objs.size=some (seqObj "list" (es.toList.map (·.key)).toArray 0):=HQ _ rfl
 have a0:∀ b o,s.heap.get? b=some o→(h1.push (seqObj "list" (es.toList.map (·.key)).toArray 0)).get? b=some o:=fun b o e=>Hq _ (G b o e)
 have ne:∀ b o,s.heap.get? b=some o→b≠h1.objs.size:=fun b o e=>Ik (HL (G b o e));show wpAny _ _ _ _ _ { s with heap:=h1.push (seqObj "list" (es.toList.map (·.key)).toArray 0),toks:=J }
 refine Ho (wpAny_holding (wpAny_call_entry_kw slot_list_sort ⟨_,Y,rfl⟩ entry_list_sort (rJ (kf:=kf) (s:={ s with heap:=h1.push (seqObj "list" (es.toList.map (·.key)).toArray 0),toks:=J }) Y U (fun v h tk hv kp =>?_) fun h' tk out c kp gS hp hw=>⟨_,rfl,HJ ⟨_,rfl,fin h1 h' tk out c G (fun b o e=>kp b o (Ik (HL e)) (Hq _ e)) gS hp hw⟩⟩) (ksk_l1 _ _)))
 obtain⟨e,he,rfl⟩:=Hz.mp hv;exact turn e.key h tk ⟨e,he,rfl⟩ fun b o e=>kp b o (ne b o e) (a0 b o e)
end
abbrev qX (x:Str)(p1 p2 p3 p4 p5 p6 p7 p8 p9 p10 p11:Pos)(j1 j2 j3 j4 x1:Nat):Expr:=.Tuple [.Subscript (.Subscript (.Name x p1) (.Constant (.int 0) j1 p2) p3) (.Constant (.int 1) j2 p4) p5,.Subscript (.Subscript (.Name x p6) (.Constant (.int 0) j3 p7) p8) (.Constant (.int 0) j4 p9) p10] x1 p11
section
variable {w:World}{E:Value→Shared→Prop}
theorem pB (G:-(2 ^ 63)≤k∧k < 2 ^ 63∧seqIndex? k 2=some i)(O : #[u,v][i]? = some r)(h:wpAny (model prog w) A (eval e env) (fun o B=>o=.ref a∧IsTup B.heap a #[u,v]∧Q r { B with toks:=B.toks + 1 }) E s)
  (U:∀ o z,subscripted (.Constant (.int k) j p) false o z=operate [o,z] (getItem o z)):wpAny (model prog w) A (eval (.Subscript e (.Constant (.int k) j p) p') env) Q E s:=by
 refine Subscript_ (IJ h (fun o B ⟨Y,J,q⟩ =>?_) fun _ _ x=>x);subst Y;refine wpAny_Constant_int ?_;exact subscriptTail_builtinR (x:=r) (s:={ B with toks:=B.toks + 1 }) (show Shared.TypeIs { B with toks:=B.toks + 1 } (.ref a) "tuple" from J.typeIs (s:=B)) slot_tuple_getitem.lookup (getItem_tuple (x:=r) (Q:=fun r' s'=>r'=r∧_) J G.1 G.2.1 G.2.2 O ⟨rfl,q⟩) (U _ _)
theorem zD (S:wF [x] [] scope)(hd:A.depth < recursionLimit)
  (ho:s.heap.get? fa=some (kla_obj name qual params (qX x p1 p2 p3 p4 p5 p6 p7 p8 p9 p10 p11 j1 j2 j3 j4 x1) scope cl pm c' ctv)) (cr:s.heap.CodeRec (.ref c') qual) (O:s.heap.NoLimit)
  (hb:bindArgs (kla_fn name qual params (qX x p1 p2 p3 p4 p5 p6 p7 p8 p9 p10 p11 j1 j2 j3 j4 x1) scope cl pm (.ref c') ctv) ⟨[.ref a],[]⟩=pure [(x,.ref a)]) (ha:IsTup s.heap a #[.ref b,z]) (hi:IsTup s.heap b #[.int i t,.int k t']) (hx:(x == ("__debug__" : Str))=false)
  (B:∀ (j:Nat) (p:Pos) o i,subscripted (.Constant (.int 0) j p) false o i=operate [o,i] (getItem o i)) (U:∀ (j:Nat) (p:Pos) o i,subscripted (.Constant (.int 1) j p) false o i=operate [o,i] (getItem o i))
  (Y:∀ env,starEach [Expr.Subscript (.Subscript (.Name x p1) (.Constant (.int 0) j1 p2) p3) (.Constant (.int 1) j2 p4) p5,.Subscript (.Subscript (.Name x p6) (.Constant (.int 0) j3 p7) p8) (.Constant (.int 0) j4 p9) p10] env=(false,eval (Expr.Subscript (.Subscript (.Name x p1) (.Constant (.int 0) j1 p2) p3) (.Constant (.int 1) j2 p4) p5) env)::starEach [.Subscript (.Subscript (.Name x p6) (.Constant (.int 0) j3 p7) p8) (.Constant (.int 0) j4 p9) p10] env)
  (a0:∀ env,starEach [Expr.Subscript (.Subscript (.Name x p6) (.Constant (.int 0) j3 p7) p8) (.Constant (.int 0) j4 p9) p10] env=(false,eval (Expr.Subscript (.Subscript (.Name x p6) (.Constant (.int 0) j3 p7) p8) (.Constant (.int 0) j4 p9) p10) env)::starEach [] env) :
  wpAny (model prog w) A (call (.ref fa) [.ref a]) (fun u s'=>∃ h' tk',s'={ s with heap:=h',toks:=tk' }∧(∀ b o,s.heap.get? b=some o→h'.get? b=some o)∧oO h' (k,i) u) E s:=by
 refine wpAny_call (kla_callFunE hd ho rfl S.co S.gen rfl cr ((BindsTo.of_eq hb) _ _ _ _ ?_));refine wpAny_newFunctionEnv S.nocell (fun y hy =>?_) (fun h' G J=>⟨O.fresh _ J,?_⟩) S.kind
 ·have e:y.1=x:=by rw[Hv.mp hy]
  rw[e];exact S.loc x HP
 have hk:∀ b o,s.heap.get? b=some o→h'.get? b=some o:=fun b o e=>J.extBut b o (Ik (HL e)) (Hq _ e);have ha':IsTup h' a #[.ref b,z]:=let ⟨o,e,r⟩:=ha;⟨o,hk _ _ e,r⟩
 have hi':IsTup h' b #[.int i t,.int k t']:=let ⟨o,e,r⟩:=hi;⟨o,hk _ _ e,r⟩
 have lk:List.lookup x [(x,Value.ref a)]=some (.ref a):=by simp
 refine kla_codeExpr ?_;refine wpAny_Tuple (wpAny_items_cons ?_ (Y _));refine pB (a:=b) (r:=.int k t') (i:=1) ⟨by decide,by decide,rfl⟩ rfl (pB (a:=a) (r:=.ref b) (i:=0) ⟨by decide,by decide,rfl⟩ rfl (wpAny_Name (wpAny_loadName_local S.kind (S.loc x HP) G (v:=.ref a) lk ⟨rfl,ha',rfl,hi',?_⟩) hx) (B _ _)) (U _ _);refine wpAny_items_cons ?_ (a0 _);refine pB (a:=b) (r:=.int i t) (i:=0) ⟨by decide,by decide,rfl⟩ rfl (pB (a:=a) (r:=.ref b) (i:=0) ⟨by decide,by decide,rfl⟩ rfl (wpAny_Name (wpAny_loadName_local S.kind (S.loc x HP) G (v:=.ref a) lk ⟨rfl,ha',rfl,hi',?_⟩) hx) (B _ _)) (B _ _);refine wpAny_items_nil ⟨by show 2≤sizeLine;decide,_,_,rfl,fun b o e=>Hq _ (hk b o e),?_⟩;exact⟨_,t',t,rfl,_,HQ _ rfl,rfl,_,rfl⟩
end
def kfH (H:Hp):Value→Int × Int
 | .ref a=>match H a with
  | some (.tup [.ref b,_])=>match H b with
   | some (.tup [.int x,.int y])=>(y,x)
   | _=>(0,0)
  | _=>(0,0)
 | _=>(0,0)
theorem Ey (i:ij H k a):kfH H (.ref a)=(k.1.2,k.1.1):=by
 obtain⟨b,h1,h2⟩:=i;unfold kfH;simp only[h1,h2]
abbrev EI (P:Program)(w:World)(T:List (Addr × Str))(t:TA):TE:=fun σ H Q=>t σ H fun vs H1=>∃ (d:Addr) (xs:List NE),vs=[.ref d]∧DN P w H1 d xs∧fz T H1 ∧
 ∀ (S:Addr) (ys:List NE) (H':Hp),ck T H1 H'→fz T H'→H1 S=none→H' S=some (.lst (ys.map fun e=>V.ref e.2.1))→ys.Perm xs→ys.Pairwise (fun e f=>ltI (f.1.1.2,f.1.1.1) (e.1.1.2,e.1.1.1)=false)→Q (.ref S) H'
section
theorem Br (hr:cY (k + 3) X.A)(hM:X.mg "sorted" = none)(hB:ni X.mg X.base)(hC:CodeHd X.base c Pt)(Y:X.env.code=.ref c)(hT:(Pt,qual)∈T)(a4:(T.map (·.1)).Nodup)(hq:X.env.qual ++ "<lambda>" = qual)
  (S:wF [x] [] scope) (he:PA X [e] te) (hc:X.calm=true:=by rfl) (hx:(x == ("__debug__" : Str))=false:=by decide) (hg:Gl X "sorted" := by rfl) (a0:closureFor scope X.env=pure (clo X.env []):=by rfl) (a3:defaultsOf params X.env=([],[]):=by rfl)
  (hb:∀ (cl:List (Str × Addr)) (pm B:Value) (G a:Addr),bindArgs (kla_fn "<lambda>" qual params (qX x p1 p2 p3 p4 p5 p6 p7 p8 p9 p10 p11 j1 j2 j3 j4 x1) scope cl pm (.ref G) B) ⟨[.ref a],[]⟩=pure [(x,.ref a)]:=by intros;rfl)
  (a5:∀ (j:Nat) (p:Pos) o i,subscripted (.Constant (.int 0) j p) false o i=operate [o,i] (getItem o i):=by intros;rfl) (a6:∀ (j:Nat) (p:Pos) o i,subscripted (.Constant (.int 1) j p) false o i=operate [o,i] (getItem o i):=by intros;rfl)
  (a7:∀ env,starEach [Expr.Subscript (.Subscript (.Name x p1) (.Constant (.int 0) j1 p2) p3) (.Constant (.int 1) j2 p4) p5,.Subscript (.Subscript (.Name x p6) (.Constant (.int 0) j3 p7) p8) (.Constant (.int 0) j4 p9) p10] env=(false,eval (Expr.Subscript (.Subscript (.Name x p1) (.Constant (.int 0) j1 p2) p3) (.Constant (.int 1) j2 p4) p5) env)::starEach [.Subscript (.Subscript (.Name x p6) (.Constant (.int 0) j3 p7) p8) (.Constant (.int 0) j4 p9) p10] env:=by intros;rfl)
  (a8:∀ env,starEach [Expr.Subscript (.Subscript (.Name x p6) (.Constant (.int 0) j3 p7) p8) (.Constant (.int 0) j4 p9) p10] env=(false,eval (Expr.Subscript (.Subscript (.Name x p6) (.Constant (.int 0) j3 p7) p8) (.Constant (.int 0) j4 p9) p10) env)::starEach [] env:=by intros;rfl)
  (a9:backTo pos (starEach [e] X.env)=(false,eval e X.env)::backTo pos (starEach [] X.env):=by rfl) (b0:(backTo pos (starEach [e] X.env)).any (·.1)=false:=by rfl) :
  PE X (.Call (.Name "sorted" p) [e] [⟨some "key",.Lambda params (qX x p1 p2 p3 p4 p5 p6 p7 p8 p9 p10 p11 j1 j2 j3 j4 x1) scope lpos,kp⟩] pos) (EI X.prog X.w T te):=by
 intro pins s σ H Q I h;refine wpAny_Call_Name_kw (nU I hg hM sF ?_);refine callWith_kw (thn (he pos pins s σ H _ I h) fun us s1 ⟨vs,H1,I1,r,d,xs,e1,D,a1,q⟩ =>?_) a9 b0;subst e1;obtain⟨u,rfl,ru⟩:=ju r;cases ru;refine kws_cons (thn (E1 (pos:=lpos) [] hB hC Y hT a4 hq a0 a3 pins s1 σ H1 (fun v H2=>∃ J G B,v=.ref J∧H2 J=some (isE J (kla_obj "<lambda>" qual params (qX x p1 p2 p3 p4 p5 p6 p7 p8 p9 p10 p11 j1 j2 j3 j4 x1) scope (clo X.env []) ((X.mg "__name__").getD .none) G B))∧H2 G=some (oq G qual)∧fz T H2∧ck T H1 H2) I1 ⟨a1,fun J G B H' _ h1 h2 h3 h4=>⟨J,G,B,rfl,h1,h2,h3,h4⟩⟩) fun u2 s2 ⟨v2,H2,O,r2,J,G,B,e2,b1,b2,U,sT⟩=>kws_nil ?_)
 subst e2;cases r2;show wpAny _ _ (call (.builtin "sorted") [.ref d] [(Str.ofString "key",.ref J)]) _ _ _
 have tp:∀ b xs,H1 b=some (.tup xs)→H2 b=some (.tup xs):=fun b xs e=>sT.keep a1 e (by intro ps z;cases z);have D2:DN X.prog X.w H2 d xs:=D.keep (by rw[D.at_];exact sT.keep a1 D.at_ (by intro ps z;cases z)) tp;obtain⟨z,lo,o,es,ep,g1,g2,g3,g4,_,g5⟩:=D2.rd O.hok;have ek:es.toList.map (·.key)=xs.map fun e=>Value.ref e.2.1:=by
  rw[g4,IK,IK];rfl
 have a2:es.size≤sizeLine:=by
  have h1:=Ij List.length ek;rw[Hw,Hw,Il]at h1
  lia
 refine wO (kf:=kfH H2) (O.ok.hd hc) lo ⟨o,g1,g2,g3⟩ a2 (fun v h tk hv kp =>?_) fun h1 h' tk out cc b3 b4 gS hp hw =>?_
 ·obtain⟨en,b5,rfl⟩:=hv;obtain⟨ne,b6,e3⟩:∃ ne∈xs,en.key=Value.ref ne.2.1:=by
   have m1:en.key∈es.toList.map (·.key):=Hz.mpr ⟨en,b5,rfl⟩;rw[ek]at m1;obtain⟨ne,h1,h2⟩:=Hz.mp m1;exact⟨ne,h1,h2.symm⟩
  rw[e3];have nk:=(D2.keys ne b6).1;rw[Ey nk];obtain⟨b,k1,k2⟩:=nk;obtain⟨_,its,r1,i1⟩:=(show bF X.prog X.w H2 s2.heap _ (.tup _) from O.hok _ _ k1);obtain⟨_,b8,r2,i2⟩:=(show bF X.prog X.w H2 s2.heap _ (.tup _) from O.hok _ _ k2);obtain⟨u1,u2,rfl,q1,q2⟩:=kH r1;obtain⟨w1,w2,rfl,⟨t1,rfl⟩,⟨t2,rfl⟩⟩:=kH r2;cases q1;have I3:Inv X pins σ H2 { s2 with heap:=h,toks:=tk }:=O.kept (t':=tk) kp;have cr:h.CodeRec (.ref G) qual:=by
   obtain⟨c₂,o₂,b7,t₂,z₂,y₂,r₂⟩:=(O.hok G _ b2).1;cases z₂;exact⟨G,o₂,b7,t₂,rfl,kp _ _ y₂,r₂⟩
  have up:∀ {a:Addr} {xs:Array Value},IsTup s2.heap a xs→IsTup h a xs:=fun i=>let ⟨o,e,r⟩:=i;⟨o,kp _ _ e,r⟩
  exact zD (s:={ s2 with heap:=h,toks:=tk }) S (hr.in1.in1.depth) (kp _ _ (O.hok J _ b1).1) cr I3.nolimit (hb _ _ _ _ _) (up i1) (up i2) hx a5 a6 a7 a8
 ·rw[ek]at hp;obtain⟨ys,pm,rfl⟩:=zI hp rfl;have I3:Inv X pins σ H2 { s2 with heap:=h1,toks:=tk }:=O.kept (t':=tk) b3;have nS:H2 h1.objs.size=none:=I3.hok.fresh (Ht _);have hv:ba (ys.map fun e=>V.ref e.2.1) (ys.map fun e=>Value.ref e.2.1):=by
   clear pm hw hp gS
   induction ys with
   | nil=>exact .nil
   | cons e ys ih=>exact .cons rfl ih
  have lz:(ys.map fun e=>V.ref e.2.1).length≤sizeLine:=by rw[Hw,pm.length_eq];exact z
  have I4:Inv X pins σ (upd H2 h1.objs.size (.lst (ys.map fun e=>V.ref e.2.1))) { s2 with heap:=h',toks:=tk }:=I3.laid (t':=tk) b4 (Ht _) ⟨lz,_,cc,hv,gS⟩;have s4:=ak.new nS (.lst (ys.map fun e=>V.ref e.2.1));refine⟨.ref h1.objs.size,_,I4,rfl,q _ ys _ (sT.trans s4.toT) (s4.tabs U) ?_ ah pm ?_⟩
  ·cases e5:H1 h1.objs.size with
   | none=>rfl
   | some o5 =>
    by_cases hm:h1.objs.size∈T.map (·.1)
    ·obtain⟨p5,m5,e6⟩:=Hz.mp hm;obtain⟨ps,h5,_⟩:=U p5 m5;rw[e6,nS]at h5;cases h5
    ·have:=sT _ _ e5 hm
     rw[nS]at this;cases this
  ·rw[IG]at hw;have al:∀ e∈ys,kfH H2 (.ref e.2.1)=(e.1.1.2,e.1.1.1):=fun e he=>Ey (D2.keys e (pm.mem_iff.mp he)).1;refine hw.imp_of_mem fun {a b} ha hb h =>?_;rw[al a ha,al b hb]at h;exact h
end
section
variable {σ0 cs:St}{k:Nat}{g:TG}{te:TE}{tt:TT}{H1:Hp}{Q:VK}
theorem uH {lo:Int}(Pv:Addr→Nat→List V→Hp→Prop)(hn:n≤sizeLine)(hl:∀ D i ys H,Pv D i ys H→H D=some (.lst ys)∧ys.length≤i)(h0:∀ D,H1 D=none→Pv D 0 [] (upd H1 D (.lst [])))
  (hs:∀ D i ys H,i < n→H1 D=none→Pv D i ys H→g (.int (lo + i)) σ0 H fun O H3=>O.drop k=cs∧tt O H3 fun b U=>if b=true then te O U fun y Y=>Y D=some (.lst ys)∧Pv D (i + 1) (ys++[y]) (upd Y D (.lst (ys++[y]))) else Pv D (i + 1) ys U)
  (hd:∀ D ys H,H1 D=none→Pv D n ys H→Q (.ref D) H) (mono:∀ x σ H (R B:St→Hp→Prop),(∀ σ' H',R σ' H'→B σ' H')→g x σ H R→g x σ H B)
  (G:∀ σ H (R B:VK),(∀ v H',R v H'→B v H')→te σ H R→te σ H B) (J:∀ σ H (R B:Bool→Hp→Prop),(∀ v H',R v H'→B v H')→tt σ H R→tt σ H B):mX σ0 k cs g tt te Q (Itr lo n) H1 :=
 sD n (fun i x=>x=.int (lo + i)) Pv hn (fun D i ys H hi p=>hi) (fun D ys H p=>Ht _) (fun D i ys H x H' hi p y=>y) hl h0 (fun D i x ys H hi hx hD p=>hx▸hs D i ys H hi hD p) hd mono G J
end
def Ee (h h':Heap):Prop:=∀ b o,o.cls=.type "tuple" → h.get? b=some o→h'.get? b=some o
section
variable {w:World}{R:Result→Shared→Prop}{I:Addr}{fp wr:List Addr}{n:Nat}{P:Nat→Value→Prop}{St:Nat→Heap→Prop}{Kp:Heap→Prop}
theorem AA (B:h.get? S=some (seqObj "list" vs n)):Ee h (h.update S (Obj.mapSeq f)):=fun b o c e=>xS B b o c e
theorem zU (W:Walks prog w A.in1 I fp wr n P St)(hI:∀ i h h',St i h→(∀ b o,b∉wr→h.get? b=some o→h'.get? b=some o)→Ee h h')(hK:∀ h h',Kp h→Ee h h'→Kp h')(bt:Nat→Nat→Bool)
  (a5:∀ i j vi vj (s:Shared) (Q:Value→Shared→Prop) (E:Value→Shared→Prop),Kp s.heap→P i vi→P j vj→Q (.bool (bt i j)) s→wpAny (model prog w) A.in1 (richCompare .Lt vi vj) Q E s) (S:Addr) (a6:S∉fp) :
  ∀ (k j:Nat) (s:Shared) (Y:Value) (c:Nat),n - (j + 1)=k→j + 1≤n→Kp s.heap→St (j + 1) s.heap→P (argBest bt j) Y→s.heap.get? S=some (seqObj "list" #[Y,Y] c) →
  (∀ v h' tk,P (argBest bt (n - 1)) v→(∀ b o,b∉wr→b≠S→s.heap.get? b=some o→h'.get? b=some o)→R (.ok (.ret v)) { s with heap:=h',toks:=tk }) →
  codeAny (model prog w) A (.builtin "min.loop" ⟨[.ref I,.none,.ref S],[]⟩) R s:=by
 have a7:S∉wr:=fun h=>a6 (W.sub _ h);intro k
 induction k with
 | zero =>
  intro j s Y c hk hj hp a0 a1 hS hR;have a8:j + 1=n:=by lia
  refine codeAny_builtin PySem.F.entry_min_loop ?_;rw[Around.under_plainId PySem.F.plain_min_loop _];refine Ho (m:=seqItems? (.ref S)) (wpAny_seqItems hS rfl (?_:wpAny _ A.in1 (tryCatch (pyNext (.ref I)) _ >>= _) _ _ s));refine Ho (wpAny_tryCatch (W.done s _ _ (a8▸a0) fun h' tk B=>(?_:wpAny _ A.in1 (updateSeq S (fun _ => #[]) >>= _) _ _ _)));refine Ho (wpAny_updateSeq (B S _ a7 hS) rfl (Ho (wpAny_letGo (HJ ?_))));exact hR Y _ tk (by rw[← a8];exact a1) fun b o G J e=>(HY _ _ (Ne.symm J)).trans (B b o G e)
 | succ k ih =>
  intro j s Y c hk hj hp a0 a1 hS hR;have a3:j + 1 < n:=by lia
  refine codeAny_builtin PySem.F.entry_min_loop ?_;rw[Around.under_plainId PySem.F.plain_min_loop _];refine Ho (m:=seqItems? (.ref S)) (wpAny_seqItems hS rfl (?_:wpAny _ A.in1 (tryCatch (pyNext (.ref I)) _ >>= _) _ _ s));refine Ho (wpAny_tryCatch (W.item (j + 1) s _ _ a3 a0 fun v h' tk hP a2 B=>(?_:wpAny _ A.in1 (tryCatch (holding [v,v] (richCompare .Lt v Y >>= _)) _ >>= _) _ _ _)));have hS':=B S _ a7 hS;have hp':Kp h':=hK _ _ hp (hI _ _ _ a0 B);refine Ho (wpAny_tryCatch (wpAny_holding (Ho (a5 (j + 1) (argBest bt j) v Y _ _ _ hp' hP a1 (Ho (wpAny_holding (wpAny_truthy_bool (Ho (wpAny_letGo (HJ ?_))))))))));cases hb:bt (j + 1) (argBest bt j) with
  | true =>
   simp only[if_true];refine Ho (wpAny_updateSeq hS' rfl (Ho (wpAny_letGo ?_)));refine HJ ⟨plainId_quiet PySem.F.plain_min_loop _,ih (j + 1) _ v _ (by lia) a3 (hK _ _ hp' (AA hS')) (W.frame _ _ _ a2 fun b a9 o e =>?_) (by simp only[argBest,hb,if_true];exact hP) (get?_update_seq hS' fun _ => #[v,v]) fun v' h'' O a4 U =>?_⟩
   ·exact (HY _ _ (fun h:S=b=>a6 (by rw[h];exact a9))).trans e
   ·exact hR v' h'' O a4 fun b o G J e=>U b o G J ((HY _ _ (Ne.symm J)).trans (B b o G e))
  | false =>
   simp only[Hu,if_false];refine Ho (wpAny_letGo (HJ ⟨plainId_quiet PySem.F.plain_min_loop _,ih (j + 1) _ Y c (by lia) a3 hp' a2 (by simp only[argBest,hb,Hu,if_false];exact a1) hS' fun v' h'' O a4 U =>?_⟩));exact hR v' h'' O a4 fun b o G J e=>U b o G J (B b o G e)
end
def pvI (p:(Int × Tok) × (Int × Tok)):Value × Value:=(.int p.1.1 p.1.2,.int p.2.1 p.2.2)
def ltQ:List ((Int × Tok) × (Int × Tok))→Bool
 | []=>false
 | p::r=>if p.1.1=p.2.1 then ltQ r else decide (p.1.1 < p.2.1)
section
open PySem.SeqAt
open PySem.AutoSeq1 (wpAny_loadPart')
open PySem.MeetsSeq PySem.MeetsSeq2 PySem.MeetsSeq3
theorem rm (l b:Addr)(i1 i2:Array Value)(n n2:Nat)(dd a0:Option Addr)(sl a1:Array (Option Value))(ps:List ((Int × Tok) × (Int × Tok)))(e1:i1.toList.zip i2.toList=ps.map pvI)(e2:i1.size=i2.size):
  Meets (Builtin.«tuple.__lt__» ⟨[.ref l,.ref b],[]⟩)
   (fun _ R s=>s.heap.get? l=some { cls:=.type "tuple",dict:=dd,data:=.seq i1 n,slots:=sl }∧s.heap.get? b=some { cls:=.type "tuple",dict:=a0,data:=.seq i2 n2,slots:=a1 } ∧
    R (.ok (.ret (.bool (ltQ ps)))) s) :=
 .of_wp fun prog w A R s h=>by
  obtain⟨O,g,d,tk,os⟩:=s;obtain⟨hl,hb,h⟩:=h;have f2:=AutoSeq1.sub_tuple_tuple
  wp_walk using wpAny_loadPart' hl,wpAny_loadPart' hb,wpAny_forIn_list _ (fun rest b s'=>b.1=none∧s'=⟨O,g,d,tk,os⟩∧∃ B:List ((Int × Tok) × (Int × Tok)),rest=B.map pvI∧R (.ok (.ret (.bool (ltQ B)))) ⟨O,g,d,tk,os⟩) _
  case turn =>
   rintro⟨y,x⟩ rest b s' ⟨U,rfl,B,Y,hR⟩;cases B with
   | nil=>cases Y
   | cons p B =>
    obtain⟨⟨G,t1⟩,⟨J,t2⟩⟩:=p;rw[Ig]at Y;injection Y with hyx hrest;have hy:y=.int G t1:=Ij Prod.fst hyx;have hx:x=.int J t2:=Ij Prod.snd hyx;subst hy hx;refine Ho (eq_int A.in1 _ G J t1 t2 prog w _ _ ?_);have hR':R (.ok (.ret (.bool (if G=J then ltQ B else decide (G < J))))) ⟨O,g,d,tk,os⟩:=hR;by_cases e:G=J
    ·rw[if_pos e]at hR';rw[Hr e]
     wp_walk
     exact⟨rfl,rfl,B,hrest,hR'⟩
    ·rw[if_neg e]at hR';rw[Ih e];have a2:∀ (E:Value→Shared→Prop) (Q:Value→Shared→Prop),Q (.bool (decide (G < J))) ⟨O,g,d,tk,os⟩→wpAny (model prog w) A.in1 (richCompare .Lt (.int G t1) (.int J t2)) Q E ⟨O,g,d,tk,os⟩:=fun E Q hq=>(PySem.P.lt_int hq:wpAny (model prog w) A.in1 (compareOp .Lt (.int G t1) (.int J t2)) Q E ⟨O,g,d,tk,os⟩)
     wp_walk using a2
     exact⟨_,rfl,by simpa using hR'⟩
  case fin =>
   rintro⟨b1,b2⟩ s' ⟨U,rfl,B,Y,hR⟩;simp only at U;subst U;have e0:B=[]:=by
    cases B with
    | nil=>rfl
    | cons p B=>cases Y
   subst e0
   wp_walk
   refine⟨_,rfl,?_⟩;have hR':R (.ok (.ret (.bool false))) ⟨O,g,d,tk,os⟩:=hR;simpa[Builtin.Tuple.tupleCompareSizes,e2] using hR'
  case h=>exact⟨rfl,rfl,ps,e1,h⟩
theorem DF (hu:A.units < cLine)(t1:IsTup s.heap p1 #[.int a1 ta,.int a2 tb])(t2:IsTup s.heap p2 #[.int b1 tc,.int b2 td])
  (q:Q (.bool (if a1=b1 then (if a2=b2 then false else decide (a2 < b2)) else decide (a1 < b1))) s):wpAny (model prog w) A (richCompare .Lt (.ref p1) (.ref p2)) Q E s:=by
 obtain⟨⟨cls,dd,data,sl⟩,Y,hc,n,hd⟩:=id t1;obtain⟨⟨a0,O,data2,U⟩,B,G,n2,J⟩:=id t2;simp only at hc hd G J;subst hc hd G J;exact richCompare_meets_room (op:=.Lt) ⟨_,Y,rfl⟩ ⟨_,B,rfl⟩ PySem.F.slot_tuple_lt PySem.F.entry_tuple_lt (PySem.F.args_tuple_lt_2 _ _) (rm p1 p2 #[.int a1 ta,.int a2 tb] #[.int b1 tc,.int b2 td] n n2 dd O sl U [((a1,ta),(b1,tc)),((a2,tb),(b2,td))] rfl rfl)
  ⟨Y,B,(fun x=>nomatch x),q⟩ hu
end
def leQ:List ((Int × Tok) × (Int × Tok))→Bool
 | []=>true
 | p::r=>if p.1.1=p.2.1 then leQ r else decide (p.1.1≤p.2.1)
section
open PySem.SeqAt
open PySem.AutoSeq1 (wpAny_loadPart')
open PySem.MeetsSeq PySem.MeetsSeq2 PySem.MeetsSeq3
theorem rn (l b:Addr)(i1 i2:Array Value)(n n2:Nat)(dd a0:Option Addr)(sl a1:Array (Option Value))(ps:List ((Int × Tok) × (Int × Tok)))(e1:i1.toList.zip i2.toList=ps.map pvI)(e2:i1.size=i2.size):
  Meets (Builtin.«tuple.__le__» ⟨[.ref l,.ref b],[]⟩)
   (fun _ R s=>s.heap.get? l=some { cls:=.type "tuple",dict:=dd,data:=.seq i1 n,slots:=sl }∧s.heap.get? b=some { cls:=.type "tuple",dict:=a0,data:=.seq i2 n2,slots:=a1 } ∧
    R (.ok (.ret (.bool (leQ ps)))) s) :=
 .of_wp fun prog w A R s h=>by
  obtain⟨O,g,d,tk,os⟩:=s;obtain⟨hl,hb,h⟩:=h;have f2:=AutoSeq1.sub_tuple_tuple
  wp_walk using wpAny_loadPart' hl,wpAny_loadPart' hb,wpAny_forIn_list _ (fun rest b s'=>b.1=none∧s'=⟨O,g,d,tk,os⟩∧∃ B:List ((Int × Tok) × (Int × Tok)),rest=B.map pvI∧R (.ok (.ret (.bool (leQ B)))) ⟨O,g,d,tk,os⟩) _
  case turn =>
   rintro⟨y,x⟩ rest b s' ⟨U,rfl,B,Y,hR⟩;cases B with
   | nil=>cases Y
   | cons p B =>
    obtain⟨⟨G,t1⟩,⟨J,t2⟩⟩:=p;rw[Ig]at Y;injection Y with hyx hrest;have hy:y=.int G t1:=Ij Prod.fst hyx;have hx:x=.int J t2:=Ij Prod.snd hyx;subst hy hx;refine Ho (eq_int A.in1 _ G J t1 t2 prog w _ _ ?_);have hR':R (.ok (.ret (.bool (if G=J then leQ B else decide (G≤J))))) ⟨O,g,d,tk,os⟩:=hR;by_cases e:G=J
    ·rw[if_pos e]at hR';rw[Hr e]
     wp_walk
     exact⟨rfl,rfl,B,hrest,hR'⟩
    ·rw[if_neg e]at hR';rw[Ih e];have a2:∀ (E:Value→Shared→Prop) (Q:Value→Shared→Prop),Q (.bool (decide (G≤J))) ⟨O,g,d,tk,os⟩→wpAny (model prog w) A.in1 (richCompare .LtE (.int G t1) (.int J t2)) Q E ⟨O,g,d,tk,os⟩:=fun E Q hq=>(PySem.P.le_int hq:wpAny (model prog w) A.in1 (compareOp .LtE (.int G t1) (.int J t2)) Q E ⟨O,g,d,tk,os⟩)
     wp_walk using a2
     exact⟨_,rfl,by simpa using hR'⟩
  case fin =>
   rintro⟨b1,b2⟩ s' ⟨U,rfl,B,Y,hR⟩;simp only at U;subst U;have e0:B=[]:=by
    cases B with
    | nil=>rfl
    | cons p B=>cases Y
   subst e0
   wp_walk
   refine⟨_,rfl,?_⟩;have hR':R (.ok (.ret (.bool true))) ⟨O,g,d,tk,os⟩:=hR;simpa[Builtin.Tuple.tupleCompareSizes,e2] using hR'
  case h=>exact⟨rfl,rfl,ps,e1,h⟩
theorem DJ (hu:A.units < cLine)(t1:IsTup s.heap p1 #[.int a1 ta,.int a2 tb])(t2:IsTup s.heap p2 #[.int b1 tc,.int b2 td])
  (q:Q (.bool (if a1=b1 then (if a2=b2 then true else decide (a2≤b2)) else decide (a1≤b1))) s):wpAny (model prog w) A (richCompare .LtE (.ref p1) (.ref p2)) Q E s:=by
 obtain⟨⟨cls,dd,data,sl⟩,Y,hc,n,hd⟩:=id t1;obtain⟨⟨a0,O,data2,U⟩,B,G,n2,J⟩:=id t2;simp only at hc hd G J;subst hc hd G J;exact richCompare_meets_room (op:=.LtE) ⟨_,Y,rfl⟩ ⟨_,B,rfl⟩ PySem.F.slot_tuple_le PySem.F.entry_tuple_le (PySem.F.args_tuple_le_2 _ _) (rn p1 p2 #[.int a1 ta,.int a2 tb] #[.int b1 tc,.int b2 td] n n2 dd O sl U [((a1,ta),(b1,tc)),((a2,tb),(b2,td))] rfl rfl)
  ⟨Y,B,(fun x=>nomatch x),q⟩ hu
end
section
theorem E4 (Y:cY k X.A):OpR X (compareOp .LtE) (fun x y H Q=>∃ (U p2:Addr) (B G J O:Int),x=.ref U∧y=.ref p2∧H U=some (.tup [.int B,.int G])∧H p2=some (.tup [.int J,.int O])∧Q (.bl (!ltI (J,O) (B,G))) H):=by
 intro pins s σ H x y v u Q I rx ry h;obtain⟨U,p2,B,G,J,O,rfl,rfl,q1,q2,q⟩:=h;cases rx;cases ry;obtain⟨_,us,r1,t1⟩:=(show bF X.prog X.w H s.heap U (.tup _) from I.hok _ _ q1);obtain⟨_,vs,r2,t2⟩:=(show bF X.prog X.w H s.heap p2 (.tup _) from I.hok _ _ q2);obtain⟨u1,u2,rfl,⟨ta,rfl⟩,⟨tb,rfl⟩⟩:=kH r1;obtain⟨w1,w2,rfl,⟨tc,rfl⟩,⟨td,rfl⟩⟩:=kH r2;refine DJ Y.units0 t1 t2 ⟨.bl _,H,I,rfl,?_⟩;have e:(if B=J then (if G=O then true else decide (G≤O)) else decide (B≤J)) = !ltI (J,O) (B,G):=by
  unfold ltI jQ;dsimp only;by_cases c1:B=J
  ·rw[if_pos c1,if_pos c1.symm];by_cases c2:G=O
   ·rw[if_pos c2,c2];simp
   ·rw[if_neg c2,ID];simp
  ·rw[if_neg c1,if_neg (Ne.symm c1),ID];simp
 rw[e];exact q
theorem BA (B:cY k X.A):OpR X (compareOp .Eq) (fun x y H Q=>∃ (a b:Addr) (xs:List V),x=.ref a∧y=.ref b∧H a=some (.lst xs)∧H b=some (.lst [])∧xs≠[]∧Q (.bl false) H):=by
 intro pins s σ H x y v u Q I G J h;obtain⟨a,b,xs,rfl,rfl,O,U,Y,q⟩:=h;cases G;cases J;obtain⟨_,us,n1,r1,t1⟩:=(show bF X.prog X.w H s.heap a (.lst _) from I.hok _ _ O);obtain⟨_,vs,n2,r2,t2⟩:=(show bF X.prog X.w H s.heap b (.lst _) from I.hok _ _ U);cases r2;have l1:=r1.length;refine SeqAt.eq_list_lengthsAt (items:=us.toArray) (items2 := #[]) ⟨_,t1,rfl,_,rfl⟩ ⟨_,t2,rfl,_,rfl⟩ ?_ B.units0 ⟨.bl false,H,I,rfl,q⟩;simp
 intro e;exact Y (Ie (by rw[l1,e];rfl))
theorem An (hc:X.calm=true)(hu:X.A.units + 2 < cLine):gJ X (.builtin "min") (fun xs H Q=>∃ (a:Addr) (ps:List (Int × Int)) (us:List V),xs=[.ref a]∧H a=some (.lst us)∧Paired (fun u p=>∃ b,u=V.ref b∧H b=some (.tup [.int p.1,.int p.2])) us ps∧0 < us.length∧∀ b p,p∈ps→H b=some (.tup [.int p.1,.int p.2])→(∀ p'∈ps,ltI p' p=false)→Q (.ref b) H):=by
 intro pins s σ H xs us Q I r h;obtain⟨a,ps,vs,rfl,ha,hP,b7,q⟩:=h;obtain⟨u,rfl,ru⟩:=ju r;cases ru;obtain⟨_,its,n1,rv,t1⟩:=(show bF X.prog X.w H s.heap a (.lst _) from I.hok _ _ ha);have lp:=Paired.length hP;have ln:=rv.length;have hl:s.heap.IsList a its.toArray:=⟨_,t1,rfl,_,rfl⟩;have a1:a < s.heap.objs.size:=HL t1;obtain⟨f,ef⟩:∃ f:Nat→Int × Int,f=fun i:Nat=>(ps[i]?).getD (0,0):=⟨_,rfl⟩;have at':∀ (i:Nat) (v:Value),its.toArray[i]? = some v→∃ b,v=.ref b∧f i∈ps∧H b=some (.tup [.int (f i).1,.int (f i).2]):=fun i v hv=>by
  have hv':its[i]? = some v:=by simpa using hv
  have hi:=(Hx.mp hv').1;obtain⟨x,hx⟩:∃ x,vs[i]? = some x:=⟨vs[i]'(by lia),HU _⟩;obtain⟨w',hw,a5⟩:=rv.get hx;rw[hv']at hw;cases hw;have a6:∀ {l:List V} {m:List (Int × Int)} {i:Nat} {x:V},Paired (fun u p=>∃ b,u=V.ref b∧H b=some (.tup [.int p.1,.int p.2])) l m→l[i]? = some x→∃ y,m[i]? = some y∧∃ b,x=V.ref b∧H b=some (.tup [.int y.1,.int y.2]):=fun {l}=>by
   induction l with
   | nil=>intro m i x _ e;simp at e
   | cons z l ih =>
    intro m j x r e;cases r with
    | cons r1 r2 =>
     cases j with
     | zero =>
      have:z=x:=by simpa using e
      subst this;exact⟨_,rfl,r1⟩
     | succ j=>exact ih (i:=j) r2 (by simpa using e)
  obtain⟨y,hy,b,e1,e2⟩:=a6 hP hx;subst e1;have ey:f i=y:=by rw[ef];show (ps[i]?).getD (0,0)=y;rw[hy];rfl
  rw[ey];exact⟨b,a5,HH hy,e2⟩
 have tup:∀ b x y,H b=some (.tup [.int x,.int y])→∃ t t',IsTup s.heap b #[.int x t,.int y t']:=fun b x y e=>by
  obtain⟨_,us,r1,t2⟩:=(show bF X.prog X.w H s.heap b (.tup _) from I.hok _ _ e);obtain⟨u1,u2,rfl,⟨ta,rfl⟩,⟨tb,rfl⟩⟩:=kH r1;exact⟨ta,tb,t2⟩
 refine call_function_tree PySem.F.kind_min PySem.F.plain_min PySem.F.entry_min (PySem.F.args_min1 _) (?_:wpAny _ X.A.in1 (Builtin.Builtins.bindParams "min" ["key","default"] 0 ⟨[],[]⟩ >>= _) _ _ s)
 refine Ho (wpAny_of_eq (show Builtin.Builtins.bindParams "min" ["key","default"] 0 ⟨[],[]⟩=pure [none,none] from rfl) (Ho (HJ (Ho (wpAny_pyIter_list hl (Ho (wpAny_newObj_type ?_)))))))
 obtain⟨J,eI⟩:∃ J,J=s.heap.objs.size:=⟨_,rfl⟩;have W:=Walks.list (prog:=X.prog) (w:=X.w) (A:=X.A.in1) (I.ok.hd hc) J a (by rw[eI];exact Ik a1) its.toArray;obtain⟨h1,B⟩:∃ h1,h1=s.heap.push { cls:=.type "list_iterator",data:=.fields #[.ref a,.int 0 0] }:=⟨_,rfl⟩
 obtain⟨S,eS⟩:∃ S,S=h1.objs.size:=⟨_,rfl⟩;have O:h1.objs.size=s.heap.objs.size + 1:=by rw[B];exact size_push' _ _
 have U:∀ b o,s.heap.get? b=some o→(h1.push { cls:=.type "list",data:=.seq #[] }).get? b=some o:=fun b o e=>Hq _ (by rw[B];exact Hq _ e)
 have Y:S∉[J,a]:=by
  simp only[HZ,KE,or_false,not_or];exact⟨by rw[eI,eS,O];exact Nat.succ_ne_self _,by rw[eS,O];exact Jo (Ka a1)⟩
 have G:∀ b o,s.heap.get? b=some o→b≠J∧b≠S:=fun b o e=>by
  have hb:=HL e;exact⟨by rw[eI];exact Ik hb,by rw[eS,O];exact Ik (Ka hb)⟩
 show wpAny (model X.prog X.w) X.A.in1 (again (.builtin "min.loop" ⟨[.ref s.heap.objs.size,.none,.ref (s.heap.push { cls:=.type "list_iterator",data:=.fields #[.ref a,.int 0 0] }).objs.size],[]⟩)) _ _ { s with heap:=(s.heap.push { cls:=.type "list_iterator",data:=.fields #[.ref a,.int 0 0] }).push { cls:=.type "list",data:=.seq #[] } }
 rw[← eI,← B,← eS];have a7:∃ h2,h2=h1.push { cls:=.type "list",data:=.seq #[] }:=⟨_,rfl⟩
 obtain⟨h2,a0⟩:=a7;rw[← a0]at U ⊢;have gS:h2.get? S=some (seqObj "list" #[] 0):=by rw[a0,eS];exact HQ _ rfl
 refine HJ ⟨plainId_quiet PySem.F.plain_min_loop _,codeAny_builtin PySem.F.entry_min_loop ?_⟩;rw[Around.under_plainId PySem.F.plain_min_loop _];refine Ho (m:=seqItems? (.ref S)) (wpAny_seqItems gS rfl (?_:wpAny _ X.A.in1 (tryCatch (pyNext (.ref J)) _ >>= _) _ _ _));refine Ho (wpAny_tryCatch (W.item 0 _ _ _ (by rw[HV];lia) ⟨⟨_,by rw[a0,B,eI];exact Hq _ (HQ _ rfl),rfl,rfl⟩,_,U _ _ t1,rfl,_,rfl⟩ fun v h' tk a8 a2 a3=>(?_:wpAny _ X.A.in1 (updateSeq S (fun _ => #[v,v]) >>= _) _ _ _)));have a9:S∉[J]:=fun h=>Y (HZ.mpr (.inl (Hv.mp h)));have gS':=a3 S _ a9 gS;have a4:∀ b o,s.heap.get? b=some o→(h'.update S (Obj.mapSeq fun _ => #[v,v])).get? b=some o:=fun b o e=>by
  exact (HY _ _ (Ne.symm (G b o e).2)).trans (a3 b o (fun hm=>(G b o e).1 (Hv.mp hm)) (U b o e))
 refine Ho (wpAny_updateSeq gS' rfl (HJ ⟨plainId_quiet PySem.F.plain_min_loop _,zU W (Kp:=fun h=>Ee s.heap h) (fun i h h' st k b o c e =>?_) (fun h h' k1 k2 b o c e=>k2 b o c (k1 b o c e)) (fun i j=>ltI (f i) (f j)) (fun i j vi vj s2 Q E k pi pj q2 =>?_) S Y _ 0 _ v _ rfl (by rw[HV];lia) (fun b o _ e=>a4 b o e) (W.frame _ _ _ a2 fun b b0 o e =>?_) a8 (get?_update_seq gS' fun _ => #[v,v]) fun v2 h3 b3 b4 b5 =>?_⟩))
 ·refine k b o (fun hm =>?_) e;rw[Hv.mp hm]at e;obtain⟨o2,e2,c2,_⟩:=st.1;rw[e2]at e;cases e;rw[c2]at c;exact absurd c (by decide)
 ·obtain⟨b1,rfl,_,m1⟩:=at' i vi pi;obtain⟨b2,rfl,_,m2⟩:=at' j vj pj;obtain⟨ta,tb,i1⟩:=tup _ _ _ m1;obtain⟨tc,td,i2⟩:=tup _ _ _ m2;have up:∀ {b:Addr} {xs:Array Value},IsTup s.heap b xs→IsTup s2.heap b xs:=fun i=>let ⟨o,e,c,r⟩:=i;⟨o,k _ _ c e,c,r⟩
  refine DF (A:=X.A.in1) (show X.A.units + 1 < cLine from Kx hu) (up i1) (up i2) ?_;have e:(if (f i).1=(f j).1 then (if (f i).2=(f j).2 then false else decide ((f i).2 < (f j).2)) else decide ((f i).1 < (f j).1))=ltI (f i) (f j):=by
   unfold ltI jQ;by_cases c1:(f i).1=(f j).1
   ·rw[if_pos c1,if_pos c1];by_cases c2:(f i).2=(f j).2
    ·rw[if_pos c2,c2];simp
    ·rw[if_neg c2]
   ·rw[if_neg c1,if_neg c1]
  rw[e];exact q2
 ·exact (HY _ _ (fun h:S=b=>Y (by rw[h];exact b0))).trans e
 ·obtain⟨b1,b2⟩:=wB vS f (its.toArray.size - 1);obtain⟨bb,rfl,m1,m2⟩:=at' _ v2 b4;refine⟨.ref bb,H,I.kept (t':=b3) fun b o e =>?_,rfl,q bb _ m1 m2 fun p' b6 =>?_⟩
  ·exact b5 b o (fun hm=>(G b o e).1 (Hv.mp hm)) (G b o e).2 (a4 b o e)
  ·obtain⟨j,hj⟩:=IS b6;have ej:f j=p':=by rw[ef];show (ps[j]?).getD (0,0)=p';rw[hj];rfl
   have lj:=(Hx.mp hj).1;rw[← ej];exact b2 j (by rw[HV];lia)
end
end L2
namespace L2
open PySem PySem.Spec PyProof.Rows
variable {H:Hp}{X:Cx}{s:Shared}{pos:Pos}{prog:Program}{A:Around}{K:PySem.W.Frag}
section
theorem av (S:aE X.N P sc)(B:PE X e te)(hi:X.N[i]? = some x:=by exact rfl)(G:Loc X.env.scope x:=by exact Or.inl rfl)(J:swapsWith e (some (.Name x pos')) pos.line X.env=pure false:=by rfl)(O:X.fn x=true∨X.env.scope.names.lookup x=some .local:=by first | exact .inl rfl | exact .inr rfl | assumption):
  PS X (.Assign [.Name x pos'] e pos) (zi te (oj i)):=xf S.nd hi G B J O
theorem aR (S:aE X.N P sc)(hi:X.N[i]? = some x:=by exact rfl)(B:Loc X.env.scope x:=by exact Or.inl rfl)(G:X.fn x=true∨X.env.scope.names.lookup x=some .local:=by first | exact .inl rfl | exact .inr rfl | assumption):PG X (.Name x pos) (oj i):=o_ S.nd hi B G
theorem jM (B:X.N.Nodup:=by show List.Nodup (_::_);decide +kernel)(hi:X.N[i]? = some x:=by exact rfl)(G:Loc X.env.scope x:=by exact Or.inl rfl)(J:X.fn x=true∨X.env.scope.names.lookup x=some .local:=by exact Or.inr rfl):PG X (.Name x pos) (oj i):=o_ B hi G J
theorem a_ (U:PE X o to)(Y:PA X (e::es) t)
  (G:attributeBase o "append" X.env (eval o X.env)=eval o X.env:=by rfl)
  (O:((backTo cpos (starEach (e::es) X.env)).all (fun x => !x.1) && (backToKw cpos (keywordEach [] X.env)).all (fun x=>x.1.isSome) && decide ((e::es).length + ([]:List Keyword).length + (if ([]:List Keyword).isEmpty then 0 else 1) < 30))=true:=by rfl)
  (J:(apos.endLine == cpos.line)=true:=by rfl) (hs:starEach (e::es) X.env=(false,eval e X.env)::starEach es X.env:=by rfl) (B:(backTo cpos (starEach es X.env)).any (·.1)=false:=by rfl) :
  PE X (.Call (.Attribute o "append" apos) (e::es) [] cpos) (tBM X.K "list" ye to t):=rZ PySem.F.plainAttrs_list PySem.F.slot_list_append PySem.F.type_list_append sd U Y G O J hs B
end
theorem nw (h:∀ p H',H p=none→ak H H'→H' p=some o→R p H'):Nw H o R:=fun p B=>h p _ B (ak.new B o) ah
theorem leZ (h:Nat.ble n sizeLine=true):n≤sizeLine:=Nat.le_of_ble_eq_true h
end L2
namespace Qs
open PySem L2
def top (i:Nat):Stmt:=PySem.Challenge.pw_quartersheet_k65_rings_gone_along.main.body.getD i (.Pass ⟨0,0,0,0⟩)
structure Tx (K:PySem.W.Frag)(mg:Str→Option Value):Prop where
 b_isinstance:mg "isinstance" = none
 b_int:mg "int" = none
 b_bool:mg "bool" = none
 c_MOST:∃ t,mg "MOST" = some (.int 40 t)
 b_all:mg "all" = none
 b_str:mg "str" = none
 b_len:mg "len" = none
 c_QUARTERS:∃ t,mg "QUARTERS" = some (.str "0123" t)
 b_range:mg "range" = none
 b_tuple:mg "tuple" = none
 b_sorted:mg "sorted" = none
 b_dict:mg "dict" = none
 b_max:mg "max" = none
 b_min:mg "min" = none
 b_abs:mg "abs" = none
 b_list:mg "list" = none
def txt (ds:List Nat):Str:=⟨(ds.map (48 + ·)).toArray⟩
theorem e_ (ds:List Nat):(txt ds).length=ds.length:=by
 rw[de];simp[txt]
theorem sQ (h:∀ d∈ds,d < 4):IsC (txt ds):=fun c B=>by
 have hc':∃ d∈ds,48 + d=c:=by simpa[txt] using B
 obtain⟨d,G,e⟩:=hc'
 have:=h d G
 lia
theorem fQ (ds:List Nat):dig (txt ds)=ds:=by
 unfold dig txt;rw[IK];have e:((fun x=>x - 48) ∘ fun x=>48 + x)=(id:Nat→Nat):=by funext x;show 48 + x - 48=x;simp
 rw[e,KR]
theorem ke {a b:Str}(h:a.cps.toList=b.cps.toList):a=b:=by
 obtain⟨a⟩:=a;obtain⟨b⟩:=b;have h':a.toList=b.toList:=h;have e:a=b:=JR.mp h';rw[e]
theorem oQ {z:Str}(h:IsC z):txt (dig z)=z:=by
 refine ke ?_;have e:(txt (dig z)).cps.toList=(z.cps.toList.map (· - 48)).map (48 + ·):=rfl;rw[e,IK];have B:∀ c∈z.cps.toList,((fun x=>48 + x) ∘ fun x=>x - 48) c=id c:=fun c G=>by
  have:=h c G
  show 48 + (c - 48)=c
  lia
 rw[IN B,KR]
theorem dE:("" : Str)=⟨#[]⟩:=by decide +kernel
theorem B3:∀ ds:List Nat,Txt.join ("" : Str) (ds.map one)=txt ds:=by
 intro ds;have key:∀ ds:List Nat,Str.join ⟨#[]⟩ (ds.map one)=txt ds:=by
  intro ds
  induction ds with
  | nil=>rfl
  | cons d r ih =>
   cases r with
   | nil=>rfl
   | cons e r =>
    refine ke ?_;show (one d++⟨#[]⟩++Str.join ⟨#[]⟩ ((e::r).map one)).cps.toList=_;rw[ih];show ((#[48 + d] ++ #[])++(txt (e::r)).cps).toList=_;simp[txt]
 rw[dE];show Builtin.Str.glued ⟨#[]⟩ (ds.map one)=_;rw[StrLaws.glued_eq_join];exact key ds
def pre (z:Str)(k:Nat):Str:=⟨(z.cps.toList.take k).toArray⟩
theorem dQ (z:Str)(k:Nat):Txt.slice z none (some (k:Int))=pre z k:=by
 by_cases h:k≤z.length
 ·have e:=PyProof.Rows.slice_closes_to (x:=z) (j:=(k:Int)) ⟨by simp,by rw[← de];lia⟩;rw[beq_iff_eq]at e;rw[e];unfold pre;simp
 ·have e:Builtin.Str.strSliceIndices none (some (k:Int)) 1 z.length=(List.range z.length).map fun j:Nat=>(0 + 1 * (j:Int)).toNat:=by
   unfold Builtin.Str.strSliceIndices;dsimp only;unfold sliceRange;have h1:¬ (k:Int) < 0:=by simp
   have h2:max (0:Int) (min (k:Int) (z.length:Int))=(z.length:Int):=by lia
   simp only[show (1:Int) > 0 by decide,if_true,h1,if_false,h2];by_cases h0:(0:Int) < (z.length:Int)
   ·rw[if_pos h0];have B:(((z.length:Int) - 0 + 1 - 1) / 1).toNat=z.length:=by simp
    rw[B]
   ·rw[if_neg h0];have B:z.length=0:=by lia
    rw[B];rfl
  unfold Txt.slice;rw[e,Hw,Jx];rw[if_pos (by simp)];refine ke ?_;unfold pre;rw[HM (by rw[← de];lia)]
theorem oZ (z:Str)(k:Nat):(pre z k).length=min k z.length:=by
 rw[de,de];simp[pre]
theorem o0 (h:IsC z)(k:Nat):IsC (pre z k):=fun c B=>h c (by
 have hc':c∈z.cps.toList.take k:=by simpa[pre] using B
 exact I9 hc')
theorem gP (a b:Str):(a++b).length=a.length + b.length:=by
 show (a.cps++b.cps).size=_;rw[Array.size_append];rfl
theorem FH {d:Nat}(h:d < 4):atI ("0123" : Str).cps.toList (d:Int)=some (48 + d) :=
 four (P:=fun d=>atI ("0123" : Str).cps.toList (d:Int)=some (48 + d)) (by decide +kernel) (by decide +kernel) (by decide +kernel) (by decide +kernel) h
theorem Bg:("0123" : Str).length≤sizeLine:=by decide +kernel
def BE (a b c d:Tr):Bool:=a.isCol && (decide (a=a) && (decide (b=a) && (decide (c=a) && (decide (d=a) && true))))
def eJ (a b c d:Tr):Tr:=if BE a b c d then a else .four a b c d
def q0:Tr→Tr | .col i=>.col i | .four a _ _ _=>a
def q1:Tr→Tr | .col i=>.col i | .four _ b _ _=>b
def q2:Tr→Tr | .col i=>.col i | .four _ _ c _=>c
def q3:Tr→Tr | .col i=>.col i | .four _ _ _ d=>d
theorem mE:BE a b c d=true↔a.isCol=true∧b=a∧c=a∧d=a:=by
 unfold BE;simp only[IW,decide_eq_true_eq,and_true,true_and]
theorem qN (a b c d:Tr):q0 (eJ a b c d)=a∧q1 (eJ a b c d)=b∧q2 (eJ a b c d)=c∧q3 (eJ a b c d)=d:=by
 unfold eJ;by_cases h:BE a b c d=true
 ·rw[if_pos h];obtain⟨h1,rfl,rfl,rfl⟩:=mE.mp h;cases d with
  | col i=>exact⟨rfl,rfl,rfl,rfl⟩
  | four=>cases h1
 ·rw[if_neg h];exact⟨rfl,rfl,rfl,rfl⟩
def CD (H:Hp)(v:V)(n:Int)(t:Tr):Prop:=∃ p x,v=.ref p∧H p=some (.tup [.int n,x])∧bT H x t
theorem nV {K:PySem.W.Frag}:PySem.W.kitOne K (.type "int") (.type "tuple")=some false:=by kernel_rfl
def qk (t:Tr):Nat→Tr
 | 0=>q0 t
 | 1=>q1 t
 | 2=>q2 t
 | _=>q3 t
def rB (t:Tr)(d:Nat)(x:Tr):Tr:=eJ (if d=0 then x else q0 t) (if d=1 then x else q1 t) (if d=2 then x else q2 t) (if d=3 then x else q3 t)
def ji (t:Tr):List Nat→Tr→Tr
 | [],o=>o
 | d::ds,o=>rB t d (ji (qk t d) ds o)
theorem C9 (U:d < 4)(Y:k < 4):qk (rB t d x) k=if k=d then x else qk t k:=by
 unfold rB;obtain⟨B,G,J,O⟩:=qN (if d=0 then x else q0 t) (if d=1 then x else q1 t) (if d=2 then x else q2 t) (if d=3 then x else q3 t);rcases k with _ | _ | _ | _ | k
 ·show q0 _=_;rw[B];by_cases h:d=0
  ·rw[if_pos h,if_pos h.symm]
  ·rw[if_neg h,if_neg (Ne.symm h)];rfl
 ·show q1 _=_;rw[G];by_cases h:d=1
  ·rw[if_pos h,if_pos h.symm]
  ·rw[if_neg h,if_neg (Ne.symm h)];rfl
 ·show q2 _=_;rw[J];by_cases h:d=2
  ·rw[if_pos h,if_pos h.symm]
  ·rw[if_neg h,if_neg (Ne.symm h)];rfl
 ·show q3 _=_;rw[O];by_cases h:d=3
  ·rw[if_pos h,if_pos h.symm]
  ·rw[if_neg h,if_neg (Ne.symm h)];rfl
 ·lia
def aP:Nat→Tr→Prop
 | _,.col i=>0≤i∧i≤35
 | 0,.four ..=>False
 | n + 1,.four a b c d=>aP n a∧aP n b∧aP n c∧aP n d∧BE a b c d=false
theorem aP.deep:∀ {n:Nat} {t:Tr},aP n t→t.deep≤n
 | _,.col i,_=>HE _
 | 0,.four ..,h=>h.elim
 | n + 1,.four a b c d,⟨ha,hb,hc,hd,_⟩=>by
  have:=ha.deep
  have:=hb.deep
  have:=hc.deep
  have:=hd.deep
  show max a.deep (max b.deep (max c.deep d.deep)) + 1≤n + 1
  lia
theorem aP.col (h:0≤i∧i≤35):aP n (.col i):=by cases n<;>exact h
theorem aP.q (h:aP (n + 1) t)(k:Nat):aP n (qk t k):=by
 cases t with
 | col i =>
  have z:aP n (.col i):=aP.col h;rcases k with _ | _ | _ | k<;>exact z
 | four a b c d =>
  obtain⟨B,G,J,O,_⟩:=h;rcases k with _|_|_|k
  ·exact B
  ·exact G
  ·exact J
  ·exact O
theorem aP.up (h:aP n t):aP (n + 1) t:=by
 induction t generalizing n with
 | col i=>exact aP.col (by cases n<;>exact h)
 | four a b c d ia ib ic id =>
  cases n with
  | zero=>exact h.elim
  | succ n =>
   obtain⟨B,G,J,O,U⟩:=h;exact⟨ia B,ib G,ic J,id O,U⟩
theorem si (B:aP n a)(G:aP n b)(J:aP n c)(O:aP n d):aP (n + 1) (eJ a b c d):=by
 unfold eJ
 split
 ·exact B.up
 ·rename_i h
  exact⟨B,G,J,O,by simpa using h⟩
theorem Ag (h:aP (n + 1) t)(B:aP n x):aP (n + 1) (rB t d x):=by
 unfold rB;have G:=h.q 0;have h1:=h.q 1;have h2:=h.q 2;have J:=h.q 3;refine si ?_ ?_ ?_ ?_<;>split<;>assumption
theorem qJ:∀ {n:Nat} {ds:List Nat} {t o:Tr},ds.length≤n→aP n t→aP (n - ds.length) o→aP n (ji t ds o)
 | n,[],t,o,_,_,h=>h
 | 0,d::ds,t,o,B,_,_=>by simp at B
 | n + 1,d::ds,t,o,B,ht,ho=>by
  have hl':ds.length≤n:=by simpa using B
  refine Ag ht (qJ hl' (ht.q d) ?_);have e:n + 1 - (d::ds).length=n - ds.length:=by simp
  rw[e]at ho;exact ho
section
variable {P:Program}{w:World}{K:PySem.W.Frag}{mg:Str→Option Value}{base:Heap}{CX:CXT}{f:Addr}{fd:FuncData}
theorem pT {z:Str}:(z=("" : Str))↔z.length=0:=by
 constructor
 ·rintro rfl;decide +kernel
 ·intro h;apply ke
  have e:z.cps.toList=[]:=Ie (by rw[← de];exact h);rw[e];decide +kernel
def rst (z:Str):Str:=⟨(z.cps.toList.drop 1).toArray⟩
theorem zo (h:0 < z.length):Txt.slice z (some 1) none=rst z:=by
 have e:=PyProof.Rows.slice_closes_from (x:=z) (i:=1) ⟨by decide,by rw[← de];lia⟩;rw[beq_iff_eq]at e;rw[e];unfold rst
 congr 2
 show (z.cps.toList.drop 1).take ((z.cps.toList.length:Int) - 1).toNat=_;rw[HM];rw[Ji,← de];simp
theorem C3 (z:Str):(rst z).length=z.length - 1:=by rw[de,de];simp[rst]
theorem C4 (h:IsC z):IsC (rst z):=fun c B=>h c (by
 have hc':c∈z.cps.toList.drop 1:=by simpa[rst] using B
 exact JN hc')
theorem Ec {z:Str}(h:0 < z.length):atI z.cps.toList 0=some (z.cps.getD 0 0):=by
 have B:0 < z.cps.size:=h;refine bD (j:=0) ?_;simp[IF,B]
theorem ak.none (s:ak H H')(h:H' l=none):H l=none:=by
 cases q:H l with
 | none=>rfl
 | some o=>rw[s _ _ q]at h;cases h
theorem iz:dig ("" : Str)=[]:=by decide +kernel
theorem DZ (h:0 < z.length):dig z=(z.cps.getD 0 0 - 48)::dig (rst z):=by
 have B:0 < z.cps.size:=h;have J:0 < z.cps.toList.length:=by simpa using B
 have e:z.cps.toList=z.cps.getD 0 0::z.cps.toList.drop 1:=by
  have G:=Ix (l:=z.cps.toList) (i:=0) J;rw[List.drop_zero]at G;have O:z.cps.getD 0 0=z.cps.toList[0]:=by simp[IF,B]
  rw[O];exact G
 unfold dig rst
 conv=>lhs;rw[e]
 rfl
end
def cnt:Tr→Nat
 | .col _=>1
 | .four a b c d=>cnt a + cnt b + cnt c + cnt d
theorem yW:∀ t,1≤cnt t
 | .col _=>Ht 1
 | .four a b c d=>by
  have:=yW a
  show 1≤cnt a + cnt b + cnt c + cnt d
  lia
theorem wu (a b c d:Tr):cnt (eJ a b c d)≤cnt a + cnt b + cnt c + cnt d:=by
 unfold eJ
 split
 ·lia
 ·exact Ht _
theorem GE:cnt (q0 t) + cnt (q1 t) + cnt (q2 t) + cnt (q3 t)≤cnt t + 3:=by
 cases t with
 | col i=>show 1 + 1 + 1 + 1≤1 + 3;decide
 | four a b c d=>show cnt a + cnt b + cnt c + cnt d≤cnt a + cnt b + cnt c + cnt d + 3;simp
theorem Ct (B:d < 4):cnt (rB t d x) + cnt (qk t d)≤cnt t + 3 + cnt x:=by
 unfold rB;have h:=wu (if d=0 then x else q0 t) (if d=1 then x else q1 t) (if d=2 then x else q2 t) (if d=3 then x else q3 t);have h2:=GE (t:=t);generalize eJ (if d=0 then x else q0 t) (if d=1 then x else q1 t) (if d=2 then x else q2 t) (if d=3 then x else q3 t)=g at *;rcases d with _ | _ | _ | _ | d
 ·have h':cnt g≤cnt x + cnt (q1 t) + cnt (q2 t) + cnt (q3 t):=h;show cnt g + cnt (q0 t)≤_
  lia
 ·have h':cnt g≤cnt (q0 t) + cnt x + cnt (q2 t) + cnt (q3 t):=h;show cnt g + cnt (q1 t)≤_
  lia
 ·have h':cnt g≤cnt (q0 t) + cnt (q1 t) + cnt x + cnt (q3 t):=h;show cnt g + cnt (q2 t)≤_
  lia
 ·have h':cnt g≤cnt (q0 t) + cnt (q1 t) + cnt (q2 t) + cnt x:=h;show cnt g + cnt (q3 t)≤_
  lia
 ·lia
theorem sE:∀ (ds:List Nat) (t o:Tr),(∀ d∈ds,d < 4)→cnt (ji t ds o)≤cnt t + 3 * ds.length + cnt o
 | [],t,o,_=>by show cnt o≤_;simp
 | d::ds,t,o,h=>by
  have h1:=Ct (t:=t) (x:=ji (qk t d) ds o) (h d HP);have h2:=sE ds (qk t d) o fun x B=>h x (HF _ B);show cnt (rB t d (ji (qk t d) ds o))≤_;rw[HX]
  lia
theorem yH (m:Int):∃ d:Nat,d < 4∧m % 4=(d:Int):=⟨(m % 4).toNat,by lia,by lia⟩
theorem Co (B:IsC z):∀ d∈dig z,d < 4:=fun d h=>by
 obtain⟨c,G,rfl⟩:=Hz.mp h
 have:=B c G
 omega
def dgt (x y m:Nat):Nat:=x / 2 ^ m % 2 + 2 * (y / 2 ^ m % 2)
def low (n x y:Nat):List Nat:=(List.range n).map fun k=>dgt x y (n - 1 - k)
theorem xH (x y m:Nat):dgt x y m < 4:=by unfold dgt;lia
theorem ug (n x y:Nat):(low n x y).length=n:=by simp[low]
theorem BR (i x y:Nat):low (i + 1) x y=dgt x y i::low i x y:=by
 unfold low;rw[List.range_succ_eq_map,Ig,IK];refine congr (Ij List.cons ?_) (IN fun k B =>?_)
 ·rfl
 ·have:=Js.mp B
  show dgt x y (i + 1 - 1 - (k + 1))=dgt x y (i - 1 - k)
  congr 1
  lia
def sqX:Nat→List Nat→Nat
 | _,[]=>0
 | n,d::ds=>d % 2 * 2 ^ (n - 1) + sqX (n - 1) ds
def sqY:Nat→List Nat→Nat
 | _,[]=>0
 | n,d::ds=>d / 2 * 2 ^ (n - 1) + sqY (n - 1) ds
def bn (t:Tr)(L:List (List Nat × Int)):Tr:=L.foldl (fun t p=>ji t p.1 (.col p.2)) t
theorem hZ (t:Tr)(L:List (List Nat × Int))(p:List Nat × Int):bn t (L++[p])=ji (bn t L) p.1 (.col p.2):=by unfold bn;rw[Jy];rfl
def POk (n:Nat)(p:List Nat × Int):Prop:=(∀ d∈p.1,d < 4)∧p.1.length≤n∧0≤p.2∧p.2≤35
theorem mM:∀ (L:List (List Nat × Int)) (t:Tr),(∀ p∈L,POk n p)→aP n t→aP n (bn t L)
 | [],_,_,g=>g
 | p::L,t,h,g=>by
  obtain⟨_,h2,B⟩:=h p HP;exact mM L _ (fun q G=>h q (HF _ G)) (qJ h2 g (aP.col B))
def eG (d:Nat):List (List Nat × Int)→List (List Nat × Int)
 | []=>[]
 | ([],_)::M=>eG d M
 | (e::ds,c)::M=>if e=d then (ds,c)::eG d M else eG d M
theorem jv (d:Nat):∀ A B:List (List Nat × Int),eG d (A++B)=eG d A++eG d B
 | [],_=>rfl
 | ([],_)::A,B=>jv d A B
 | (e::ds,c)::A,B=>by
  show (if e=d then (ds,c)::eG d (A++B) else eG d (A++B))=(if e=d then (ds,c)::eG d A else eG d A)++eG d B;by_cases h:e=d
  ·rw[if_pos h,if_pos h,jv d A B];rfl
  ·rw[if_neg h,if_neg h,jv d A B]
theorem DS (a b c d:Tr):eJ (qk (eJ a b c d) 0) (qk (eJ a b c d) 1) (qk (eJ a b c d) 2) (qk (eJ a b c d) 3)=eJ a b c d:=by
 obtain⟨B,h1,h2,G⟩:=qN a b c d;show eJ (q0 _) (q1 _) (q2 _) (q3 _)=_;rw[B,h1,h2,G]
theorem kO:∀ (M:List (List Nat × Int)) (t:Tr),(∀ p∈M,p.1≠[]∧∀ d∈p.1,d < 4)→eJ (qk t 0) (qk t 1) (qk t 2) (qk t 3)=t →
  bn t M=eJ (bn (qk t 0) (eG 0 M)) (bn (qk t 1) (eG 1 M)) (bn (qk t 2) (eG 2 M)) (bn (qk t 3) (eG 3 M))
 | [],t,_,h=>h.symm
 | ([],c)::M,t,h,_=>absurd rfl (h _ HP).1
 | (e::ds,c)::M,t,h,_=>by
  have B:e < 4:=(h _ HP).2 e HP;have G:=kO M (rB t e (ji (qk t e) ds (.col c))) (fun p J=>h p (HF _ J)) (DS _ _ _ _);have key:∀ d,d < 4→bn (qk (rB t e (ji (qk t e) ds (.col c))) d) (eG d M)=bn (qk t d) (eG d ((e::ds,c)::M)):=fun d O=>by
   rw[C9 B O];show _=bn (qk t d) (if e=d then (ds,c)::eG d M else eG d M);by_cases k:d=e
   ·rw[if_pos k,if_pos k.symm,k];rfl
   ·rw[if_neg k,if_neg (Ne.symm k)]
  show bn (ji t (e::ds) (.col c)) M=_;rw[← key 0 (by decide),← key 1 (by decide),← key 2 (by decide),← key 3 (by decide),← G];rfl
theorem POk.le (h:POk n p)(B:n≤m):POk m p:=⟨h.1,H_ h.2.1 B,h.2.2⟩
theorem sW (d:Nat):∀ M:List (List Nat × Int),(∀ p∈M,POk n p)→∀ p∈eG d M,POk (n - 1) p
 | [],_,p,h=>by cases h
 | ([],_)::M,h,p,G=>sW d M (fun q J=>h q (HF _ J)) p G
 | (e::ds,c)::M,h,p,G=>by
  have O:=sW d M (fun q J=>h q (HF _ J));obtain⟨h1,h2,U⟩:=h _ HP;have B:p∈(if e=d then (ds,c)::eG d M else eG d M):=G;by_cases k:e=d
  ·rw[if_pos k]at B;rcases HZ.mp B with rfl | B
   ·have h2':ds.length + 1≤n:=h2;exact⟨fun x Y=>h1 x (HF _ Y),by show ds.length≤n - 1;lia,U⟩
   ·exact O p B
  ·rw[if_neg k]at B;exact O p B
theorem Dw (h:one d=one e):d=e:=by
 have h':=Ij (fun s:Str=>s.cps.toList) h;have h2:[48 + d]=[48 + e]:=h';simpa using h2
def cell (ns:List Int)(k:Nat):Int:=(ns[k]?).getD 0
def lvs:List Nat→Tr→List (List Nat × Int)
 | z,.col i=>[(z,i)]
 | z,.four a b c d=>lvs (z++[0]) a++(lvs (z++[1]) b++(lvs (z++[2]) c++lvs (z++[3]) d))
theorem dU:∀ (t:Tr) (z:List Nat),(lvs z t).length=cnt t
 | .col _,_=>rfl
 | .four a b c d,z=>by
  show (lvs (z++[0]) a++(lvs (z++[1]) b++(lvs (z++[2]) c++lvs (z++[3]) d))).length=cnt a + cnt b + cnt c + cnt d;rw[Hs,Hs,Hs,dU a,dU b,dU c,dU d];lia
def jr:Tr→List Nat→Option Tr
 | t,[]=>some t
 | .col _,_::_=>none
 | .four a b c d,k::w=>jr (qk (.four a b c d) k) w
theorem qB:∀ (w:List Nat) (t:Tr) (v:List Nat),jr t (w++v)=(jr t w).bind fun u=>jr u v
 | [],t,v=>rfl
 | k::w,.col i,v=>rfl
 | k::w,.four a b c d,v=>qB w (qk (.four a b c d) k) v
theorem mW (a b:Str):dig (a++b)=dig a++dig b:=by
 unfold dig;show (a.cps++b.cps).toList.map _=_;simp
theorem uC (d:Nat):dig (one d)=[d]:=by
 show [48 + d - 48]=[d];rw[show 48 + d - 48=d by simp]
theorem qS (z:Str)(k:Nat):dig (pre z k)=(dig z).take k:=by
 unfold dig pre;simp
theorem big (h:n≤1000000):n≤sizeLine:=H_ h (by decide)
theorem xZ (h:d < 4):Str.ofString (toString ((d:Nat):Int))=one d :=
 four (P:=fun d=>Str.ofString (toString ((d:Nat):Int))=one d) (by decide +kernel) (by decide +kernel) (by decide +kernel) (by decide +kernel) h
def sV (ds:List Nat):V:=.str (txt ds)
theorem EQ (h:IsC z):sV (dig z)=.str z:=by unfold sV;rw[oQ h]
theorem CK (h:IsC z)(k:Nat):txt ((dig z).take k)=pre z k:=by rw[← qS,oQ (o0 h k)]
def bP (near:List Nat):List Nat→Tr→List (List Nat)
 | z,.col _=>[z]
 | z,.four a b c d=>near.flatMap fun e=>match e with
  | 0=>bP near (z++[e]) a
  | 1=>bP near (z++[e]) b
  | 2=>bP near (z++[e]) c
  | _=>bP near (z++[e]) d
theorem i6 (B z:List Nat)(a b c d:Tr):bP B z (.four a b c d)=B.flatMap fun e=>bP B (z++[e]) (qk (.four a b c d) e):=by
 show B.flatMap _=B.flatMap _
 congr 1
 funext e
 rcases e with _|_|_|e<;>rfl
def xP (near:List Nat):Prop:=near=[2,3]∨near=[0,2]∨near=[0,1]∨near=[1,3]
theorem fX (h:xP near):∀ (t:Tr) (z:List Nat),(bP near z t).length≤cnt t
 | .col _,_=>Ht 1
 | .four a b c d,z=>by
  rw[i6];have B:=fX h a;have G:=fX h b;have J:=fX h c;have O:=fX h d;show _≤cnt a + cnt b + cnt c + cnt d;rcases h with h | h | h | h
  ·have e:(near.flatMap fun e=>bP near (z++[e]) (qk (.four a b c d) e))=bP near (z++[2]) c++bP near (z++[3]) d:=by
    rw[show (near.flatMap fun e=>bP near (z++[e]) (qk (.four a b c d) e))=([2,3].flatMap fun e=>bP near (z++[e]) (qk (.four a b c d) e)) by rw[← h]];simp[qk,q2,q3]
   rw[e,Hs];have h1:=J (z++[2]);have h2:=O (z++[3])
   lia
  ·have e:(near.flatMap fun e=>bP near (z++[e]) (qk (.four a b c d) e))=bP near (z++[0]) a++bP near (z++[2]) c:=by
    rw[show (near.flatMap fun e=>bP near (z++[e]) (qk (.four a b c d) e))=([0,2].flatMap fun e=>bP near (z++[e]) (qk (.four a b c d) e)) by rw[← h]];simp[qk,q0,q2]
   rw[e,Hs];have h1:=B (z++[0]);have h2:=J (z++[2])
   lia
  ·have e:(near.flatMap fun e=>bP near (z++[e]) (qk (.four a b c d) e))=bP near (z++[0]) a++bP near (z++[1]) b:=by
    rw[show (near.flatMap fun e=>bP near (z++[e]) (qk (.four a b c d) e))=([0,1].flatMap fun e=>bP near (z++[e]) (qk (.four a b c d) e)) by rw[← h]];simp[qk,q0,q1]
   rw[e,Hs];have h1:=B (z++[0]);have h2:=G (z++[1])
   lia
  ·have e:(near.flatMap fun e=>bP near (z++[e]) (qk (.four a b c d) e))=bP near (z++[1]) b++bP near (z++[3]) d:=by
    rw[show (near.flatMap fun e=>bP near (z++[e]) (qk (.four a b c d) e))=([1,3].flatMap fun e=>bP near (z++[e]) (qk (.four a b c d) e)) by rw[← h]];simp[qk,q1,q3]
   rw[e,Hs];have h1:=G (z++[1]);have h2:=O (z++[3])
   lia
def qR (near:List Nat):List Nat→List Nat→Tr→List (List Nat)
 | p,[],t=>bP near p t
 | p,_::_,.col _=>[p]
 | p,e::r,.four a b c d=>qR near (p++[e]) r (qk (.four a b c d) e)
theorem nZ (B:List Nat):∀ (a b p:List Nat) (t u:Tr),jr t a=some u→qR B p (a++b) t=qR B (p++a) b u
 | [],b,p,t,u,h=>by rw[← Option.some.inj h];simp
 | e::a,b,p,.col _,u,h=>by cases h
 | e::a,b,p,.four x y z w,u,h=>by
  show qR B (p++[e]) (a++b) (qk (.four x y z w) e)=_;rw[nZ B a b _ _ u h];simp
theorem sf:∀ (a:List Nat) (n:Nat) (t u:Tr),aP n t→jr t a=some u→a.length≤n∧aP (n - a.length) u
 | [],n,t,u,g,h=>by rw[← Option.some.inj h];exact⟨HE _,g⟩
 | e::a,n,.col _,u,g,h=>by cases h
 | e::a,0,.four ..,u,g,h=>g.elim
 | e::a,n + 1,.four x y z w,u,g,h=>by
  obtain⟨h1,h2⟩:=sf a n _ u (g.q e) h;refine⟨by simpa using h1,?_⟩;rw[show n + 1 - (e::a).length=n - a.length by simp];exact h2
theorem xI (t:Tr)(k:Nat):cnt (qk t k)≤cnt t:=by
 cases t with
 | col i=>rcases k with _ | _ | _ | k<;>exact Ht _
 | four a b c d =>
  show _≤cnt a + cnt b + cnt c + cnt d;rcases k with _ | _ | _ | k
  ·show cnt a≤_;lia
  ·show cnt b≤_;lia
  ·show cnt c≤_;lia
  ·show cnt d≤_;simp
theorem wt:∀ (a:List Nat) (t u:Tr),jr t a=some u→cnt u≤cnt t
 | [],t,u,h=>by rw[← Option.some.inj h];exact Ht _
 | e::a,.col _,u,h=>by cases h
 | e::a,.four x y z w,u,h=>H_ (wt a _ u h) (xI _ e)
theorem zT {t:Tr}{w:List Nat}{i d:Nat}{x y z v:Tr}(h:jr t (w.take i)=some (.four x y z v))(B:w[i]? = some d):jr t (w.take (i + 1))=some (qk (.four x y z v) d):=by
 rw[Ic,B,qB,h];rfl
set_option genInjectivity false in
structure Yx (K:PySem.W.Frag)(mg:Str→Option Value) where
 c_NoSide:Addr
 c_SheetError:Addr
 m_NoSide:mg "NoSide" = some (.ref c_NoSide)
 m_SheetError:mg "SheetError" = some (.ref c_SheetError)
 x_NoSide:GK K mg "NoSide" c_NoSide
 k_NoSide:Hn K c_NoSide
 s_NoSide:PySem.W.exmOne K (.ref c_NoSide) (.ref c_SheetError)=some true
 v_NoSide:PySem.W.kitOne K (.ref c_NoSide) (.type "ValueError")=some true
section
variable {P:Program}{w:World}{K:PySem.W.Frag}{mg:Str→Option Value}{base:Heap}{CX:CXT}{f:Addr}{fd:FuncData}
structure Ty (P:Program)(w:World)(K:PySem.W.Frag)(mg:Str→Option Value):Prop where
 sides:∃ a,mg "SIDES" = some (.ref a)∧KTu K a [.str "up",.str "right",.str "down",.str "left"]
 cross:∃ a p0 p1 p2 p3,mg "CROSSINGS" = some (.ref a)∧KD P w K a [(.inr "up",.ref p0),(.inr "right",.ref p1),(.inr "down",.ref p2),(.inr "left",.ref p3)] ∧
  KTu K p0 [.str "2301",.str "23"]∧KTu K p1 [.str "1032",.str "02"]∧KTu K p2 [.str "2301",.str "01"]∧KTu K p3 [.str "1032",.str "13"]
def Dir (side s1 s2:Str)(dx dy:Int):Prop:=(side = "up" ∧ s1 = "2301" ∧ s2 = "23" ∧ dx=0∧dy=-1)∨(side = "right" ∧ s1 = "1032" ∧ s2 = "02" ∧ dx=1∧dy=0)∨(side = "down" ∧ s1 = "2301" ∧ s2 = "01" ∧ dx=0∧dy=1)∨(side = "left" ∧ s1 = "1032" ∧ s2 = "13" ∧ dx=-1∧dy=0)
def occ (s z:Str):Bool := !(Builtin.Str.occurrences s z 0 s.length 1).isEmpty
def St1 (s1 s2:Str)(dx dy:Int)(d:Nat):Prop:=∃ e,e < 4∧atI s1.cps.toList (d:Int)=some (48 + e) ∧
 ((occ s2 (one d)=true∧((e % 2:Nat):Int)=((d % 2:Nat):Int) + dx∧((e / 2:Nat):Int)=((d / 2:Nat):Int) + dy)∨(occ s2 (one d)=false∧((e % 2:Nat):Int)=((d % 2:Nat):Int) - dx∧((e / 2:Nat):Int)=((d / 2:Nat):Int) - dy))
theorem FB (h:Dir side s1 s2 dx dy):s1.length≤sizeLine∧∀ d,d < 4→St1 s1 s2 dx dy d:=by
 rcases h with⟨rfl,rfl,rfl,rfl,rfl⟩|⟨rfl,rfl,rfl,rfl,rfl⟩|⟨rfl,rfl,rfl,rfl,rfl⟩|⟨rfl,rfl,rfl,rfl,rfl⟩
 ·exact⟨by decide +kernel,fun d B=>four (P:=fun d=>St1 _ _ _ _ d) ⟨2,by decide,by decide +kernel,.inr (by decide +kernel)⟩ ⟨3,by decide,by decide +kernel,.inr (by decide +kernel)⟩ ⟨0,by decide,by decide +kernel,.inl (by decide +kernel)⟩ ⟨1,by decide,by decide +kernel,.inl (by decide +kernel)⟩ B⟩
 ·exact⟨by decide +kernel,fun d B=>four (P:=fun d=>St1 _ _ _ _ d) ⟨1,by decide,by decide +kernel,.inl (by decide +kernel)⟩ ⟨0,by decide,by decide +kernel,.inr (by decide +kernel)⟩ ⟨3,by decide,by decide +kernel,.inl (by decide +kernel)⟩ ⟨2,by decide,by decide +kernel,.inr (by decide +kernel)⟩ B⟩
 ·exact⟨by decide +kernel,fun d B=>four (P:=fun d=>St1 _ _ _ _ d) ⟨2,by decide,by decide +kernel,.inl (by decide +kernel)⟩ ⟨3,by decide,by decide +kernel,.inl (by decide +kernel)⟩ ⟨0,by decide,by decide +kernel,.inr (by decide +kernel)⟩ ⟨1,by decide,by decide +kernel,.inr (by decide +kernel)⟩ B⟩
 ·exact⟨by decide +kernel,fun d B=>four (P:=fun d=>St1 _ _ _ _ d) ⟨1,by decide,by decide +kernel,.inr (by decide +kernel)⟩ ⟨0,by decide,by decide +kernel,.inl (by decide +kernel)⟩ ⟨3,by decide,by decide +kernel,.inr (by decide +kernel)⟩ ⟨2,by decide,by decide +kernel,.inl (by decide +kernel)⟩ B⟩
abbrev nE:Stmt:=top 12
theorem wS:aE ["thing"] ["thing"] (aq nE):={}
def ya (z:Str):Prop:=inV (.str z) [.str "up",.str "right",.str "down",.str "left"]=true
theorem Cm (h:Dir side s1 s2 dx dy):ya side:=by
 rcases h with⟨rfl,_⟩|⟨rfl,_⟩|⟨rfl,_⟩|⟨rfl,_⟩<;>(unfold ya;decide +kernel)
theorem Cn (h:Dir side s1 s2 dx dy):IsC s2∧xP (dig s2):=by
 rcases h with⟨_,_,rfl,_⟩|⟨_,_,rfl,_⟩|⟨_,_,rfl,_⟩|⟨_,_,rfl,_⟩
 ·exact⟨by unfold IsC;decide +kernel,.inl (by decide +kernel)⟩
 ·exact⟨by unfold IsC;decide +kernel,.inr (.inl (by decide +kernel))⟩
 ·exact⟨by unfold IsC;decide +kernel,.inr (.inr (.inl (by decide +kernel)))⟩
 ·exact⟨by unfold IsC;decide +kernel,.inr (.inr (.inr (by decide +kernel)))⟩
def i7 (H:Hp)(x:V):Prop:=(jS x=true∧inV x [.str "up",.str "right",.str "down",.str "left"]=false)∨(∃ a ys,x=.ref a∧(H a=some (.lst ys)∨H a=some (.tup ys)))
theorem i7.up (h:i7 H x)(s:ak H H'):i7 H' x:=by
 rcases h with h|⟨a,ys,e,h|h⟩
 ·exact .inl h
 ·exact .inr ⟨a,ys,e,.inl (s _ _ h)⟩
 ·exact .inr ⟨a,ys,e,.inr (s _ _ h)⟩
def pZ:Sp:=fun vs H Q _=>∃ x,vs=[x]∧((∃ z,x=.str z∧ya z∧Q (.bl true) H)∨(i7 H x∧Q (.bl false) H))
theorem xp (T:Tx K mg)(U:Ty P w K mg)(F:bu K "is_side" "is_side" nE f fd .none):bA P w K mg base CX 1 f fd ["thing"] pZ:=by
 refine F.ok wS (fun vs H Q E h =>?_) (fun a0 A outer s H vs Q E hr h =>?_)
 ·obtain⟨_,rfl,_⟩:=h;rfl
 obtain⟨x,rfl,h⟩:=h;obtain⟨O,B,Y⟩:=U.sides;refine⟨_,(ag (aA (dt (E6 hr) (pv 0) (km (v:=.ref _) rfl B rfl) (by with_unfolding_all rfl)))),?_⟩;rcases h with⟨z,rfl,hz,J⟩|⟨⟨fx,bx⟩|⟨a,ys,rfl,G⟩,J⟩
 ·refine⟨O,_,rfl,.inr Y.sq,.inl ⟨rfl,rfl,?_⟩⟩;show Q (.bl (inV (.str z) _)) H;rw[hz];exact J
 ·refine⟨O,_,rfl,.inr Y.sq,.inl ⟨fx,rfl,?_⟩⟩;show Q (.bl (inV x _)) H;rw[bx];exact J
 ·refine⟨O,_,rfl,.inr Y.sq,.inr ⟨a,ys,rfl,?_,rfl,J⟩⟩;rcases G with G | G
  ·exact .inl (SqL.of G)
  ·exact .inr (SqT.of G)
abbrev nF:Stmt:=top 13
theorem wT:aE ["thing"] ["thing"] (aq nF):={}
def sB (c:Nat):Bool:=decide (c∈("0123" : Str).cps.toList)
theorem Es (c:Nat):c∈("0123" : Str).cps.toList↔48≤c∧c≤51:=by
 have e:("0123" : Str).cps.toList=[48,49,50,51]:=by decide +kernel
 rw[e];simp only[HZ,KE,or_false]
 lia
def cB (z:Str):Bool:=decide (z.length≤40) && (List.range z.length).all fun i=>sB (z.cps.getD i 0)
theorem FE (z:Str):cB z=true↔z.length≤40∧IsC z:=by
 unfold cB;rw[IW,decide_eq_true_eq,KG];refine and_congr_right fun _=>⟨fun h c G =>?_,fun h i hi =>?_⟩
 ·obtain⟨i,hi,e⟩:=List.mem_iff_getElem.mp G;have hi':i < z.length:=by rw[de];exact hi
  have:=h i (Js.mpr hi')
  unfold sB at this;rw[decide_eq_true_eq,Es]at this;have J:z.cps.getD i 0=c:=by
   have B:i < z.cps.size:=hi';rw[← e];simp[IF,B]
  rw[J]at this;exact this
 ·unfold sB;rw[decide_eq_true_eq,Es];exact tf h (Js.mp hi)
def oi (K:PySem.W.Frag):Sp:=fun vs H Q _=>∃ x,vs=[x]∧((∃ z,x=.str z∧z.length≤1000∧∀ H',ak H H'→Q (.bl (cB z)) H')∨((∃ t,kG K H x t∧PySem.W.kitOne K t (.type "str")=some false)∧Q (.bl false) H))
theorem vV (T:Tx K mg)(F:bu K "is_code" "is_code" nF f fd .none):bA P w K mg base CX 1 f fd ["thing"] (oi K):=by
 refine F.ok wT (fun vs H Q E h =>?_) (fun J A outer s H vs Q E hr h =>?_)
 ·obtain⟨x,rfl,_⟩:=h;rfl
 obtain⟨x,rfl,h⟩:=h;refine⟨_,(ac (aQ (PW.pt (kN (cH (cG (aB (bW "str") rfl T.b_isinstance aU (aa (pv 0) (aa (d9 T.b_str xM) af))))) (hV (aF kP (aB bC rfl T.b_len cR (aa (pv 0) af)) (yq T.c_MOST))))) (ag (aA dC)) aG) (ag (aA (aB (Cv rfl) rfl T.b_all FG (aa (qu (N':=["sign"]) [] [] [] 1 {} (nJ (pv 0)) (fun _ _ _ _ _=>(jM (i:=0))) (fun _ _ _ _ _=>(dt kn (pv 0) (Do T.c_QUARTERS) (by with_unfolding_all rfl)))) af))))),?_⟩
 rcases h with⟨z,rfl,O,q⟩|⟨⟨t,ty,U⟩,q⟩
 ·have B:z.length≤sizeLine:=small O;refine⟨_,_,_,rfl,.str z,Fj,az (js ?_)⟩;refine⟨_,_,rfl,⟨B,rfl⟩,bE (az (aY (fun c =>?_) (fun c =>?_)))⟩
  ·have c':(40:Int) < (z.length:Int):=HG c;have e:cB z=false:=by unfold cB;rw[Ih (by lia)];rfl
   have:=q H (ak.refl H)
   rw[e]at this;exact this
  ·have c':¬ (40:Int) < (z.length:Int):=fun w=>c (Hr w);refine⟨[],rfl,_,rfl,Al (fun D i ys H'=>H'=upd H D (.lst ys)∧ys=(List.range i).map fun i=>V.bl (!(Builtin.Str.occurrences ("0123" : Str) (sgn z i) 0 ("0123" : Str).length 1).isEmpty)) B (fun D i ys H' p=>⟨by rw[p.1,ah],by rw[p.2];simp⟩) (fun D _=>⟨rfl,rfl⟩) (fun D i ys H' hi G p=>⟨rfl,_,_,rfl,rfl,by rw[p.1,ah],by rw[p.1,xR],by rw[p.2,JG,Im];rfl⟩) (fun D ys H' G p =>?_) (fun _ _ _ _ _ h=>h _ _) fun σ H' R R' h1 h2 =>?_⟩
   rotate_left
   ·obtain⟨v,e,x,y,Y,h4,h5⟩:=aM h2;exact bc e ⟨x,y,Y,h4,h1 _ _ h5⟩
   obtain⟨rfl,rfl⟩:=p;have e:(List.range z.length).map (fun i=>V.bl (!(Builtin.Str.occurrences ("0123" : Str) (sgn z i) 0 ("0123" : Str).length 1).isEmpty))=((List.range z.length).map fun i=>sB (z.cps.getD i 0)).map V.bl:=by
    rw[IK];refine IN fun i _ =>?_;show V.bl (!(Builtin.Str.occurrences ("0123" : Str) (⟨#[z.cps.getD i 0]⟩:Str) 0 ("0123" : Str).length 1).isEmpty)=_
    rw[PySem.StrLaws.found_one];rfl
   refine⟨D,(List.range z.length).map fun i=>sB (z.cps.getD i 0),rfl,SqL.of (by rw[ah,e]),?_⟩;have e2:(((List.range z.length).map fun i=>sB (z.cps.getD i 0)).all id)=cB z:=by
    unfold cB;rw[Hr (by lia),List.all_map];rfl
   rw[e2];exact q _ (ak.new G _)
 ·exact⟨_,_,_,rfl,ty,U,az (mK q)⟩
abbrev jD:Stmt:=top 15
theorem tw:aE ["code"] ["code"] (aq jD):={}
def iK:Sp:=fun vs H Q _=>∃ z,vs=[.str z]∧IsC z∧z.length≤40∧∀ H',ak H H'→Q .non H'
theorem tU (T:Tx K mg)(q:bZ CX)(F:bu K "need_code" "need_code" jD f fd .none)(B:Fok P w K mg base CX 1 "is_code" ["thing"] [] (oi K)):bA P w K mg base CX 2 f fd ["code"] iK:=by
 refine F.ok tw (fun vs H Q E h =>?_) (fun G A outer s H vs Q E J h =>?_)
 ·obtain⟨x,rfl,_⟩:=h;rfl
 obtain⟨z,rfl,O,U,Y⟩:=h;refine⟨_,(ag (aQ (cH (cG (aj B q J (aa (pv 0) af)))) (ag qq) aG)),?_⟩;refine⟨_,rfl,.inl ⟨z,rfl,by lia,fun H' sm =>?_⟩⟩;rw[(FE z).mpr ⟨U,O⟩];exact (az (js (Y H' sm)))
abbrev jC:Stmt:=top 16
theorem tm:aE ["side"] ["side"] (aq jC):={}
def mh (Y:Yx K mg):Sp:=fun vs H Q E=>∃ x,vs=[x]∧((∃ z,x=.str z∧ya z∧Q .non H)∨(i7 H x∧E (.ref Y.c_NoSide) none H))
theorem tT (T:Tx K mg)(Y:Yx K mg)(q:bZ (CXe P w))(F:bu K "need_side" "need_side" jC f fd .none)(B:Fok P w K mg base (CXe P w) 1 "is_side" ["thing"] [] pZ):bA P w K mg base (CXe P w) 2 f fd ["side"] (mh Y):=by
 refine F.okX tm (fun vs H Q E h =>?_) (fun J A outer s H vs Q E O h =>?_)
 ·obtain⟨x,rfl,_⟩:=h;rfl
 obtain⟨x,rfl,h⟩:=h;refine⟨_,(ag (aQ (cH (cG (aj B q O (aa (pv 0) af)))) (ag (Bj Y.x_NoSide C7 cq)) aG)),?_⟩;rcases h with⟨z,rfl,U,G⟩|⟨bx,G⟩
 ·exact⟨_,rfl,.inl ⟨z,rfl,U,az (js G)⟩⟩
 ·exact⟨_,rfl,.inr ⟨bx,az (mK G)⟩⟩
theorem FD (b:List Nat):∀ a:Nat,b.foldl (fun a d=>a * 2 + d % 2) a=a * 2 ^ b.length + cxs b:=by
 unfold cxs
 induction b with
 | nil=>intro a;simp
 | cons d r ih =>
  intro a;simp only[Kn,HX];rw[ih (a * 2 + d % 2),ih (0 * 2 + d % 2),IR,IM,IM];rw[show a * 2 * 2 ^ r.length=a * (2 ^ r.length * 2) by rw[IY,Kr 2]]
  lia
theorem FC (b:List Nat):∀ a:Nat,b.foldl (fun a d=>a * 2 + d / 2) a=a * 2 ^ b.length + cys b:=by
 unfold cys
 induction b with
 | nil=>intro a;simp
 | cons d r ih =>
  intro a;simp only[Kn,HX];rw[ih (a * 2 + d / 2),ih (0 * 2 + d / 2),IR,IM,IM];rw[show a * 2 * 2 ^ r.length=a * (2 ^ r.length * 2) by rw[IY,Kr 2]]
  lia
theorem pO (a b:List Nat):cxs (a++b)=cxs a * 2 ^ b.length + cxs b:=by
 rw[← FD b (cxs a)];unfold cxs;rw[Jy]
theorem pN (a b:List Nat):cys (a++b)=cys a * 2 ^ b.length + cys b:=by
 rw[← FC b (cys a)];unfold cys;rw[Jy]
theorem fv (d:Nat)(b:List Nat):cxs (d::b)=d % 2 * 2 ^ b.length + cxs b:=by
 have:=pO [d] b
 rw[show cxs [d]=d % 2 by simp[cxs]]at this;exact this
theorem ft (d:Nat)(b:List Nat):cys (d::b)=d / 2 * 2 ^ b.length + cys b:=by
 have:=pN [d] b
 rw[show cys [d]=d / 2 by simp[cys]]at this;exact this
theorem uG (b:List Nat):cxs b < 2 ^ b.length:=by
 induction b with
 | nil=>decide
 | cons d r ih =>
  rw[fv,HX,IR];have h:d % 2 * 2 ^ r.length≤1 * 2 ^ r.length:=Kj _ (by lia)
  lia
theorem uF (b:List Nat)(B:∀ d∈b,d < 4):cys b < 2 ^ b.length:=by
 induction b with
 | nil=>decide
 | cons d r G =>
  have ih':=G fun e J=>B e (HF _ J);have O:=B d HP;rw[ft,HX,IR];have h:d / 2 * 2 ^ r.length≤1 * 2 ^ r.length:=Kj _ (by lia)
  lia
theorem x5 {b c B m k:Int}{u v:Int}(h:B=b - c)(g:v=u - c * (m - 1)):B * m + v=b * m + u - c * (m * 2 - 1):=by
 subst h g;rw[Int.sub_mul,Int.mul_sub,Int.mul_sub]
 have:c * (m * 2)=c * m + c * m:=by rw[← Int.mul_assoc,Int.mul_comm (c * m) 2];lia
 lia
theorem vh {b c B m:Int}{u v:Int}(h:B=b + c)(g:v=u - c * (m - 1)):B * m + v=b * m + u + c:=by
 subst h g;rw[Int.add_mul,Int.mul_sub]
 lia
theorem yt (d:Nat)(ds:List Nat):one d++txt ds=txt (d::ds):=by
 apply ke
 show (#[48 + d]++(ds.map (48 + ·)).toArray).toList=_;simp[txt]
theorem C5 {n:Nat}(h:n≤40):Builtin.Range.small ((n:Int) - 1) (-1) (-1)=true∧Builtin.Range.rangeSize ((n:Int) - 1) (-1) (-1)=(n:Int):=by
 have e:∀ m:Nat,m < 41→Builtin.Range.small ((m:Int) - 1) (-1) (-1)=true∧Builtin.Range.rangeSize ((m:Int) - 1) (-1) (-1)=(m:Int):=by decide +kernel
 exact e n (by lia)
abbrev qh:Stmt:=top 23
theorem fT:aE ["code","side","crossing","behind","at","sign"] ["code","side"] (aq qh):={}
inductive rh  (vs:List V)(H:Hp)(Q:VK):Prop
 | mk (z side s1 s2:Str) (dx dy:Int) (h_0:vs=[.str z,.str side]) (h_1:Dir side s1 s2 dx dy) (h_2:IsC z) (h_3:z.length≤40) (h_4:∀ H',ak H H' →   (∀ y,IsC y→y.length=z.length→((cxs (dig y):Nat):Int)=((cxs (dig z):Nat):Int) + dx→((cys (dig y):Nat):Int)=((cys (dig z):Nat):Int) + dy→Q (.str y) H') ∧   (∀ x' y':Nat,x' < 2 ^ z.length→y' < 2 ^ z.length→(x':Int)=((cxs (dig z):Nat):Int) - dx * (((2 ^ z.length:Nat):Int) - 1)→(y':Int)=((cys (dig z):Nat):Int) - dy * (((2 ^ z.length:Nat):Int) - 1)→Q .non H')):rh  vs H Q
def zm:Sp:=fun vs H Q _=>rh  vs H Q
theorem wo (U:Ty P w K mg)(h:Dir side s1 s2 dx dy):∃ a kvs p,mg "CROSSINGS" = some (.ref a)∧KD P w K a kvs∧cm kvs (.inr side)=some (.ref p)∧KTu K p [.str s1,.str s2]:=by
 obtain⟨a,G,J,p2,O,g,B,k0,k1,k2,k3⟩:=U.cross;rcases h with⟨rfl,rfl,rfl,_⟩|⟨rfl,rfl,rfl,_⟩|⟨rfl,rfl,rfl,_⟩|⟨rfl,rfl,rfl,_⟩
 ·exact⟨a,_,G,g,B,by with_unfolding_all rfl,k0⟩
 ·exact⟨a,_,J,g,B,by with_unfolding_all rfl,k1⟩
 ·exact⟨a,_,p2,g,B,by with_unfolding_all rfl,k2⟩
 ·exact⟨a,_,O,g,B,by with_unfolding_all rfl,k3⟩
def qa (Y:Yx K mg):Sp:=fun vs H Q E=>zm vs H Q E∨(∃ z x,vs=[.str z,x]∧IsC z∧z.length≤40∧i7 H x∧∀ H',ak H H'→E (.ref Y.c_NoSide) none H')
theorem zR (T:Tx K mg)(Y:Yx K mg)(U:Ty P w K mg)(q:bZ (CXe P w))(F:bu K "beside" "beside" qh f fd .none)(G:Fok P w K mg base (CXe P w) 2 "need_code" ["code"] [] iK)(J:Fok P w K mg base (CXe P w) 2 "need_side" ["side"] [] (mh Y)):
  bA P w K mg base (CXe P w) 3 f fd ["code","side"] (qa Y):=by
 refine F.okX fT (fun vs H Q E h =>?_) (fun b7 A outer s H vs Q E hr h =>?_)
 ·rcases h with⟨_,_,_,_,_,_,rfl,_⟩|⟨_,_,rfl,_⟩<;>rfl
 obtain⟨aC,_,_,_,_,B,_⟩:=U.cross;refine⟨_,(ac (aW (aj G q hr (aa (pv 0) af))) (ac (aW (qv J hr Et (aa (pv 1) af))) (ac (av (i:=2) fT (ym (km (v:=.ref _) rfl B rfl) (pv 1) (fun _ _=>rfl))) (ac (av (i:=3) fT cq) (ac (aN PassesOwn.leaving rfl (kj rfl T.b_range (aa (ai bM (aB bC rfl T.b_len cR (aa (pv 0) af)) ae) (aa (yl sP ae) (aa (yl sP ae) af)))) (aR (i:=4) fT) (ac (av (i:=5) fT (au jR (pv 0) (pv 4))) (ac (av (i:=3) fT (ai cJ (au jR (au aw (pv 2) ae) (bI eu rfl T.b_int eA (aa (pv 5) af))) (pv 3))) (ag (aQ (aF kn (pv 5) (au aw (pv 2) ae) (by with_unfolding_all rfl)) (ag (aA (ai cJ (c_ iL (pv 0) fJ (dq (pv 4))) (pv 3)))) aG))))) (ag (aA xi))))))),?_⟩;rcases h with h|⟨z,x,rfl,hz,hl,bx,q'⟩
 rotate_left
 ·exact⟨z,rfl,hz,hl,fun H1 O=>⟨_,rfl,.inr ⟨bx.up O,q' H1 O⟩⟩⟩
 obtain⟨z,a0,s1,s2,dx,dy,e0,hd,hz,hl,q'⟩:=h;subst e0;obtain⟨b3,kvs,p,g2,kd,kv,kp⟩:=wo U hd;have eC:aC=b3:=by
  rw[B]at g2;injection g2 with g2;injection g2 with g2
 subst eC;obtain⟨l1,st⟩:=FB hd;have hs:z.length≤sizeLine:=small (by lia);refine⟨z,rfl,hz,by omega,fun H1 O =>?_⟩;refine⟨_,rfl,.inl ⟨a0,rfl,Cm hd,?_⟩⟩;refine⟨aC,kvs,.inr a0,.ref p,rfl,rfl,kd,kv,?_⟩;obtain⟨r1,r2⟩:=C5 hl;refine⟨_,_,rfl,⟨hs,rfl⟩,_,rfl,_,rfl,_,_,_,z.length,rfl,by decide,⟨by decide,by decide⟩,r1,r2,fO (fun i σ H2=>i≤z.length∧H2=H1∧∃ (S:List Nat) (b:Str) (v4 v5:Option V),S.length=i∧(∀ d∈S,d < 4) ∧
  ((cxs S:Nat):Int)=((cxs ((dig z).drop (z.length - i)):Nat):Int) - dx * (((2 ^ i:Nat):Int) - 1)∧((cys S:Nat):Int)=((cys ((dig z).drop (z.length - i)):Nat):Int) - dy * (((2 ^ i:Nat):Int) - 1)∧b=txt S ∧
  σ=[some (.str z),some (.str a0),some (.ref p),some (.str b),v4,v5]) ⟨HE _,rfl,[],_,none,none,rfl,(fun _ h=>by cases h),?_,?_,dE,rfl⟩ ?_ ?_⟩
 ·rw[Ke,Jm (by rw[cF];exact Ht _)];simp[cxs]
 ·rw[Ke,Jm (by rw[cF];exact Ht _)];simp[cys]
 ·rintro i σ H2 hi ⟨_,rfl,S,b,v4,v5,hS,a3,hx,hy,rfl,rfl⟩;obtain⟨k,hk⟩:∃ k,z.length - i=k + 1:=⟨z.length - 1 - i,by lia⟩;have a1:k < z.length:=by lia
  have ek:(z.length:Int) - 1 + (i:Int) * -1=(k:Int):=by lia
  have a7:z.length - (i + 1)=k:=by lia
  obtain⟨d,a8,e1,e2⟩:=kh hz a1;have b8:=tf hz a1;have b4:z.cps.toList[k]? = some (48 + d):=by
   have b5:k < z.cps.size:=a1;have e3:z.cps.getD k 0=48 + d:=by lia
   rw[← e3];simp[IF,b5]
  have a4:(dig z).drop k=d::(dig z).drop (k + 1):=by
   have a9:k < (dig z).length:=by rw[cF];exact a1
   have e4:=uE a1;rw[e2]at e4;rw[Ix a9]
   congr 1
   rw[HU a9]at e4;exact Option.some.inj e4
  have a2:((dig z).drop (k + 1)).length=i:=by rw[Ji,cF];lia
  obtain⟨e,b6,b0,b1⟩:=st d a8;have b2:∀ c∈e::S,c < 4:=fun c hc=>by
   rcases HZ.mp hc with rfl|hc
   ·exact b6
   ·exact a3 c hc
  rw[hk]at hx hy;dsimp only;rw[ek];refine⟨z,_,48 + d,rfl,rfl,hs,bD b4,?_⟩;refine⟨p,_,0,_,rfl,rfl,kp.sq,rfl,_,(d:Int),rfl,mL a8,(by show 1≤640;decide),s1,_,48 + e,rfl,rfl,l1,b0,_,_,rfl,rfl,small (by rw[e_];show 1 + S.length≤1000;lia),?_⟩;have eo:(⟨#[48 + e]⟩:Str)++txt S=txt (e::S):=yt e S;rw[eo];refine⟨p,_,1,_,rfl,rfl,kp.sq,rfl,_,_,rfl,rfl,az (aY (fun c =>?_) (fun c =>?_))⟩
  ·have c':occ s2 (one d)=true:=c;rcases b1 with⟨_,a5,a6⟩ | ⟨hf,_⟩
   ·refine⟨_,rfl,z,rfl,hs,_,_,rfl,rfl,?_,?_⟩
    ·rw[dQ];refine small ?_;rw[oZ,e_,HX];lia
    ·rw[dQ];have dz:dig z=(dig z).take k++(d::(dig z).drop (k + 1)):=by rw[← a4,IB]
     refine (q' H2 O).1 _ (IsC.app (o0 hz k) (sQ b2)) ?_ ?_ ?_
     ·rw[gP,oZ,e_,HX];lia
     ·rw[mW,qS,fQ,pO,fv,HX,hS]
      conv=>rhs;rw[dz]
      rw[pO,fv,HX,a2]
      have:=vh (m:=((2 ^ i:Nat):Int)) a5 hx
      simp only[Jz,Jd]at this ⊢
      lia
     ·rw[mW,qS,fQ,pN,ft,HX,hS]
      conv=>rhs;rw[dz]
      rw[pN,ft,HX,a2]
      have:=vh (m:=((2 ^ i:Nat):Int)) a6 hy
      simp only[Jz,Jd]at this ⊢
      lia
   ·rw[c']at hf;cases hf
  ·have c':¬ occ s2 (one d)=true:=c;rcases b1 with⟨ht,_⟩ | ⟨_,a5,a6⟩
   ·exact absurd ht c'
   ·refine⟨by assumption,rfl,e::S,_,_,_,by rw[HX,hS],b2,?_,?_,rfl,rfl⟩
    ·rw[a7,a4,fv,fv,hS,a2,IR]
     have:=x5 (k:=0) (m:=((2 ^ i:Nat):Int)) a5 hx
     simp only[Jz,Jd]at this ⊢;exact this
    ·rw[a7,a4,ft,ft,hS,a2,IR]
     have:=x5 (k:=0) (m:=((2 ^ i:Nat):Int)) a6 hy
     simp only[Jz,Jd]at this ⊢;exact this
 ·rintro σ H2 ⟨_,rfl,S,b,v4,v5,hS,a3,hx,hy,rfl,rfl⟩;rw[Nat.sub_self,List.drop_zero]at hx hy;exact (q' H2 O).2 (cxs S) (cys S) (by rw[← hS];exact uG S) (by rw[← hS];exact uF S a3) hx hy
abbrev gz:Stmt:=top 29
theorem dJ:aE ["tree","code","near","row","sign"] ["tree","code","near"] (aq gz):={}
inductive iG  (m:Nat)(vs:List V)(H:Hp)(Q:VK):Prop
 | mk (v:V) (t:Tr) (z y:Str) (k:Nat) (h_0:vs=[v,.str z,.str y]) (h_1:bT H v t) (h_2:aP k t) (h_3:IsC z) (h_4:z.length + k≤100) (h_5:IsC y) (h_6:xP (dig y)) (h_7:k < m) (h_8:m≤41) (h_9:cnt t≤4000) (h_10:∀ l H',ak H H'→H l=none→H' l=some (.lst ((bP (dig y) (dig z) t).map sV))→Q (.ref l) H'):iG m vs H Q
def fC  (m:Nat):Sp:=fun vs H Q _=>iG m vs H Q
theorem jk (T:Tx K mg)(q:bZ CX)(F:bu K "leaves_along" "leaves_along" gz f fd .none)(b:eF K fd ["tree","code","near"] [])(m:mg "leaves_along" = some (.ref f)):
  ∀ n,bA P w K mg base CX (1 + n) f fd ["tree","code","near"] (fC n)
 | 0=>by
  refine F.ok dJ (fun vs H Q E h =>?_) (fun a0 A outer s H vs Q E hr h =>?_)
  ·obtain⟨_,_,_,_,_,rfl,_⟩:=h;rfl
  obtain⟨_,_,_,_,_,_,_,_,_,_,_,_,h,_⟩:=h;exact absurd h (JV _)
 | m' + 1=>by
  have B:Fok P w K mg base CX (1 + m') "leaves_along" ["tree","code","near"] [] (fC m'):=fok F (jk T q F b m m') b m
  refine F.ok dJ (fun vs H Q E h =>?_) (fun a0 A outer s H vs Q E hr h =>?_)
  ·obtain⟨_,_,_,_,_,rfl,_⟩:=h;rfl
  obtain⟨v,t,z,y,k,rfl,ht,gt,hz,hl,hy,Y,hk,hm,hc,q'⟩:=h;refine⟨_,(ac (aQ (cH (cG (aB (bW "tuple") rfl T.b_isinstance aU (aa (pv 0) (aa (d9 T.b_tuple gI) af))))) (ag (aA (aK (ap (pv 1) am)))) aG) (ac (av (i:=3) dJ (aK am)) (ac (aN HK rfl (nJ (pv 2)) (aR (i:=4) dJ) (ag (aW (rZ PySem.F.plainAttrs_list PySem.F.slot_list_extend PySem.F.type_list_extend nO (pv 3) (aa (aj B q hr (aa (au aw (pv 0) (bI eu rfl T.b_int eA (aa (pv 4) af))) (aa (ai cJ (pv 1) (pv 4)) (aa (pv 2) af))) (hj:=by first | decide | simp | (simp only[KO];lia))) af))))) (ag (aA (pv 3)))))),?_⟩
  have ly:y.length=2:=by
   rw[← cF];rcases Y with h | h | h | h<;>rw[h]<;>rfl
  cases ht with
  | col i =>
   refine⟨_,_,_,rfl,.int _,nV,az (mK ?_)⟩;refine⟨(leZ rfl),fun l G =>?_⟩;refine q' l _ (ak.new G _) G ?_;rw[ah];show some (HO.lst [V.str z])=some (HO.lst [sV (dig z)]);rw[EQ hz]
  | @four p xa xb xc xd ta tb tc td e ja jb jc jd =>
   rcases k with _|k
   ·exact gt.elim
   refine⟨_,_,_,rfl,.tup e,lU,az (js ?_)⟩;refine⟨(leZ rfl),nw fun l H1 J s1 u1 =>?_⟩;have a1:((dig y).flatMap fun e=>bP (dig y) (dig z++[e]) (qk (.four ta tb tc td) e)).length≤4000:=by
    rw[← i6];exact H_ (fX Y _ _) hc
   refine⟨y,rfl,fO (fun (j:Nat) σ H2=>ak H H2∧j≤y.length∧∃ (o:Option V),H2 l=some (.lst ((((dig y).take j).flatMap fun e=>bP (dig y) (dig z++[e]) (qk (.four ta tb tc td) e)).map sV))∧σ=[some (.ref p),some (.str z),some (.str y),some (.ref l),o]) ⟨s1,HE _,none,u1,rfl⟩ ?_ ?_⟩
   ·rintro j σ H2 hj ⟨O,_,o,U,rfl⟩;have hj':j < y.length:=hj;obtain⟨d,hd,e1,e2⟩:=kh hy hj';have ed:(dig y)[j]? = some d:=by rw[← e2];exact uE hj'
    have key:∃ x,atI [xa,xb,xc,xd] (d:Int)=some x∧bT H x (qk (.four ta tb tc td) d):=by
     rcases d with _|_|_|_|d
     ·exact⟨xa,rfl,ja⟩
     ·exact⟨xb,rfl,jb⟩
     ·exact⟨xc,rfl,jc⟩
     ·exact⟨xd,rfl,jd⟩
     ·lia
    obtain⟨x,k1,k2⟩:=key;have l1:(one d).length=1:=rfl;rw[e1];refine⟨.inl ⟨rfl,_,SqL.of U⟩,_,(d:Int),rfl,mL hd,(by show 1≤640;decide),p,_,_,x,rfl,rfl,SqT.of (O _ _ e),k1,_,_,rfl,rfl,(by rw[l1];exact small (by lia)),x,_,z++one d,y,k,rfl,k2.up O.tups,gt.q d,IsC.app hz (IsC.one hd),by rw[gP,l1];lia,hy,Y,by lia,by lia,H_ (xI _ d) hc,fun l2 H3 s3 a2 u3 =>?_⟩;rw[mW,uC]at u3;have et:((dig y).take (j + 1)).flatMap (fun e=>bP (dig y) (dig z++[e]) (qk (.four ta tb tc td) e))=((dig y).take j).flatMap (fun e=>bP (dig y) (dig z++[e]) (qk (.four ta tb tc td) e))++bP (dig y) (dig z++[d]) (qk (.four ta tb tc td) d):=by
     rw[Ic,ed,Jl];simp
    have n1:(((dig y).take j).flatMap fun e=>bP (dig y) (dig z++[e]) (qk (.four ta tb tc td) e)).length≤4000:=by
     refine H_ ?_ a1;have fl:∀ g:Nat→List (List Nat),(((dig y).take j).flatMap g).length≤((dig y).flatMap g).length:=fun g=>by
      conv=>rhs;rw[← IB j (dig y),Jl,Hs]
      simp
     exact fl _
    have n2:=fX Y (qk (.four ta tb tc td) d) (dig z++[d]);have n3:=xI (.four ta tb tc td) d;refine⟨l,l2,_,_,rfl,rfl,s3 _ _ U,u3,big (by rw[Hw,Hw];lia),ak.set (O.trans s3) J _,by assumption,_,?_,rfl⟩;rw[ah,et,Im]
   ·rintro σ H2 ⟨O,_,o,U,rfl⟩;rw[HM (by rw[cF];exact Ht _),← i6]at U;exact (q' l H2 O J U)
def GO (Y:Yx K mg)(H:Hp)(Q:VK)(E:XK)(z:Str)(t:Tr)(x:V):Prop :=
 (∃ (side s1 s2:Str) (dx dy:Int),x=.str side∧Dir side s1 s2 dx dy ∧
  (∀ y,IsC y→y.length=z.length→((cxs (dig y):Nat):Int)=((cxs (dig z):Nat):Int) + dx→((cys (dig y):Nat):Int)=((cys (dig z):Nat):Int) + dy→∀ l H',ak H H'→H l=none→H' l=some (.lst ((qR (dig s2) [] (dig y) t).map sV))→Q (.ref l) H') ∧
  (∀ x' y':Nat,x' < 2 ^ z.length→y' < 2 ^ z.length→(x':Int)=((cxs (dig z):Nat):Int) - dx * (((2 ^ z.length:Nat):Int) - 1)→(y':Int)=((cys (dig z):Nat):Int) - dy * (((2 ^ z.length:Nat):Int) - 1)→∀ l H',ak H H'→H l=none→H' l=some (.lst [])→Q (.ref l) H'))
 ∨ (i7 H x∧∀ H',ak H H'→E (.ref Y.c_NoSide) none H')
abbrev hJ:Stmt:=top 30
theorem c9:aE ["sheet","code","side","other","tree","signs"] ["sheet","code","side"] (aq hJ):={}
def gg (Y:Yx K mg):Sp:=fun vs H Q E=>∃ (ps:Addr) (n:Nat) (v x:V) (t:Tr) (z:Str),vs=[.ref ps,.str z,x]∧H ps=some (.tup [.int (n:Int),v])∧bT H v t∧aP n t∧n≤40∧cnt t≤4000∧IsC z∧z.length≤40∧GO Y H Q E z t x
theorem qA (T:Tx K mg)(Y:Yx K mg)(U:Ty P w K mg)(q:bZ (CXe P w))(F:bu K "beyond_leaf" "beyond_leaf" hJ f fd .none)(a0:Fok P w K mg base (CXe P w) 3 "beside" ["code","side"] [] (qa Y))(G:Fok P w K mg base (CXe P w) 42 "leaves_along" ["tree","code","near"] [] (fC 41)):
  bA P w K mg base (CXe P w) 43 f fd ["sheet","code","side"] (gg Y):=by
 refine F.okX c9 (fun vs H Q E h =>?_) (fun b3 A outer s H vs Q E hr h =>?_)
 ·obtain⟨_,_,_,_,_,_,rfl,_⟩:=h;rfl
 obtain⟨ps,n,v,x,t,z,rfl,a4,ht,gt,hn,hc,hz,hl,h⟩:=h;obtain⟨aC,_,_,_,_,B,_⟩:=U.cross;refine⟨_,(ac (av (i:=3) c9 (qv a0 hr Et (aa (pv 1) (aa (pv 2) af)))) (ac (aQ (aF E5 (pv 3) xi) (ag (aA (aK am))) aG) (ac (av (i:=4) c9 (au aw (pv 0) ae)) (ac (aN PassesOwn.leaving rfl (bQ rfl T.b_range (aa (aB bC rfl T.b_len cR (aa (pv 3) af)) af)) (aR (i:=5) c9) (ac (aQ (cH (cG (aB (bW "tuple") rfl T.b_isinstance aU (aa (pv 4) (aa (d9 T.b_tuple gI) af))))) (ag (aA (aK (ap (c_ iL (pv 3) fJ (dq (pv 5))) am)))) aG) (ag (av (i:=4) c9 (au aw (pv 4) (bI eu rfl T.b_int eA (aa (au jR (pv 3) (pv 5)) af))))))) (ag (aA (aj G q hr (aa (pv 4) (aa (pv 3) (aa (au aw (ym (km (v:=.ref _) rfl B rfl) (pv 2) (fun _ _=>rfl)) ae) af)))))))))),?_⟩
 rcases h with⟨a1,s1,s2,dx,dy,rfl,hd,h1,h2⟩|⟨bx,q'⟩
 rotate_left
 ·exact (.inr ⟨z,x,rfl,hz,hl,bx,q'⟩)
 obtain⟨a5,kvs,pc,g2,kd,kv,kp⟩:=wo U hd;have eC:aC=a5:=by
  rw[B]at g2;injection g2 with g2;injection g2 with g2
 subst eC;obtain⟨a6,a7⟩:=Cn hd;refine (.inl ⟨z,a1,s1,s2,dx,dy,rfl,hd,hz,hl,fun H1 J=>⟨fun y hy ly ex ey =>?_,fun x' y' a8 a2 ex ey =>?_⟩⟩)
 ·refine⟨rfl,az (js ?_)⟩;have a2:y.length≤sizeLine:=small (by lia);refine⟨ps,_,1,_,rfl,rfl,SqT.of (J _ _ a4),rfl,?_⟩;refine⟨_,_,rfl,⟨a2,rfl⟩,_,rfl,by simp,by lia,bV (fun (i:Nat) σ H2=>H2=H1∧i≤y.length∧∃ (v':V) (u:Tr) (o:Option V),jr t ((dig y).take i)=some u∧bT H1 v' u∧σ=[some (.ref ps),some (.str z),some (.str a1),some (.str y),some v',o]) ⟨rfl,HE _,v,t,none,rfl,ht.up J.tups,rfl⟩ ?_ ?_⟩
  ·rintro i σ H2 hi ⟨rfl,_,v',u,o,O,hu,rfl⟩;have hi':i < y.length:=by assumption
   rw[show (0:Int) + (i:Int)=(i:Int) by simp];cases hu with
   | col c =>
    refine⟨_,_,_,rfl,.int _,nV,az (mK ?_)⟩;refine⟨_,rfl,y,rfl,a2,(leZ rfl),fun l a3 =>?_⟩;rw[dQ];refine h1 y hy ly ex ey l _ (J.trans (ak.new a3 _)) (ak.free J a3) ?_;rw[ah];have e1:qR (dig s2) [] (dig y) t=[(dig y).take i]:=by
     have e2:=nZ (dig s2) ((dig y).take i) ((dig y).drop i) [] t _ O;rw[IB,IV,Ix (by rw[cF];exact hi')]at e2;exact e2
    rw[e1];show some (HO.lst [V.str (pre y i)])=some (HO.lst [V.str (txt ((dig y).take i))]);rw[CK hy]
   | @four p xa xb xc xd ta tb tc td e ja jb jc jd =>
    refine⟨_,_,_,rfl,.tup e,lU,az (js ?_)⟩;obtain⟨d,a9,e1,e2⟩:=kh hy hi';have key:∃ x,atI [xa,xb,xc,xd] (d:Int)=some x∧bT H2 x (qk (.four ta tb tc td) d):=by
     rcases d with _|_|_|_|d
     ·exact⟨xa,rfl,ja⟩
     ·exact⟨xb,rfl,jb⟩
     ·exact⟨xc,rfl,jc⟩
     ·exact⟨xd,rfl,jd⟩
     ·lia
    obtain⟨x,k1,k2⟩:=key;have ed:(dig y)[i]? = some d:=by rw[← e2];exact uE hi'
    have b4:=tf hy hi';have b0:y.cps.toList[i]? = some (48 + d):=by
     have b1:i < y.cps.size:=hi';have e3:y.cps.getD i 0=48 + d:=by lia
     rw[← e3];simp[IF,b1]
    refine⟨y,_,48 + d,rfl,rfl,a2,bD b0,_,(d:Int),rfl,mL a9,(by show 1≤640;decide),p,_,_,x,rfl,rfl,SqT.of e,k1,rfl,by assumption,x,_,_,zT O ed,k2,rfl⟩
  ·rintro σ H2 ⟨rfl,_,v',u,o,O,hu,rfl⟩;rw[Iy,HM (by rw[cF];exact Ht _)]at O;obtain⟨gl,gu⟩:=sf _ _ _ _ gt O;rw[cF]at gl gu;refine⟨aC,kvs,.inr a1,.ref pc,rfl,rfl,kd,kv,pc,_,1,_,rfl,rfl,kp.sq,rfl,v',u,y,s2,n - y.length,rfl,hu,gu,hy,by lia,a6,a7,by lia,by simp,H_ (wt _ _ _ O) hc,fun l H3 s3 b2 u3 =>?_⟩;refine h1 y hy ly ex ey l H3 (J.trans s3) (ak.free J b2) ?_;have e2:=nZ (dig s2) (dig y) [] [] t u O;rw[II,IV]at e2;rw[e2];exact u3
 ·refine⟨rfl,az (mK ?_)⟩;exact⟨(leZ rfl),fun l a3=>h2 x' y' a8 a2 ex ey l _ (J.trans (ak.new a3 _)) (ak.free J a3) ah⟩
end
def nd (ax:Bool)(d:Nat):Nat:=if ax then d / 2 else d % 2
def td (ax:Bool)(d:Nat):Nat:=if ax then d % 2 else d / 2
def cn (ax:Bool)(r:List Nat):Nat:=if ax then cys r else cxs r
def ct (ax:Bool)(r:List Nat):Nat:=if ax then cxs r else cys r
def nC (ax:Bool)(x y:Nat):Nat:=if ax then y else x
def tC' (ax:Bool)(x y:Nat):Nat:=if ax then x else y
def fE (ax s:Bool)(N1 T1 W x y w:Nat):Prop:=(if s then nC ax x y + w=N1 else nC ax x y=N1 + W)∧T1 < tC' ax x y + w∧tC' ax x y < T1 + W
instance (ax s:Bool) (N1 T1 W x y w:Nat):Decidable (fE ax s N1 T1 W x y w):=by unfold fE;infer_instance
def fl (P:Nat→Nat→Nat→Bool):List Nat→Tr→Nat→Nat→Nat→List (List Nat)
 | p,.col _,x,y,k=>if P x y (2 ^ k) then [p] else []
 | p,.four a b c d,x,y,k=>fl P (p++[0]) a x y (k - 1)++(fl P (p++[1]) b (x + 2 ^ (k - 1)) y (k - 1)++(fl P (p++[2]) c x (y + 2 ^ (k - 1)) (k - 1)++fl P (p++[3]) d (x + 2 ^ (k - 1)) (y + 2 ^ (k - 1)) (k - 1)))
def d_ (ax s:Bool):List Nat:=match ax,s with
 | true,true=>[2,3]
 | true,false=>[0,1]
 | false,true=>[1,3]
 | false,false=>[0,2]
def fR (ax s:Bool)(N1 T1 W x y K:Nat):Prop:=tC' ax x y + K≤T1∨T1 + W≤tC' ax x y∨(if s then (N1≤nC ax x y∨nC ax x y + K < N1) else (N1 + W < nC ax x y∨nC ax x y + K≤N1 + W))
theorem DV {N1 T1 W x y K:Nat}(B:0 < K)(h:fR ax s N1 T1 W x y K):¬ fE ax s N1 T1 W x y K:=by
 unfold fR at h;unfold fE;cases ax<;>cases s<;>simp only[nC,tC',if_true,if_false,Hu]at h ⊢<;>lia
theorem kr (f:fR ax s N1 T1 W x y (2 * h))(dx B:Nat)(G:dx=0∨dx=h)(J:B=0∨B=h):fR ax s N1 T1 W (x + dx) (y + B) h:=by
 unfold fR at f ⊢;cases ax<;>cases s<;>simp only[nC,tC',if_true,if_false,Hu]at f ⊢<;>lia
theorem dO:∀ (u:Tr) (p:List Nat) (x y k:Nat),aP k u→fR ax s N1 T1 W x y (2 ^ k)→fl (fun x y w=>decide (fE ax s N1 T1 W x y w)) p u x y k=[]
 | .col _,p,x,y,k,_,f=>by
  show (if decide (fE ax s N1 T1 W x y (2 ^ k))=true then [p] else [])=[];rw[if_neg (by rw[decide_eq_true_eq];exact DV (IX k) f)]
 | .four a b c d,p,x,y,0,g,_=>g.elim
 | .four a b c d,p,x,y,k + 1,⟨ga,gb,gc,gd,_⟩,f=>by
  rw[IR,Kr]at f;have B:=kr f 0 0 (.inl rfl) (.inl rfl);have G:=kr f (2 ^ k) 0 (.inr rfl) (.inl rfl);have J:=kr f 0 (2 ^ k) (.inl rfl) (.inr rfl);have O:=kr f (2 ^ k) (2 ^ k) (.inr rfl) (.inr rfl);rw[KJ]at G J;rw[KJ,KJ]at B;show fl _ (p++[0]) a x y k++(fl _ (p++[1]) b (x + 2 ^ k) y k++(fl _ (p++[2]) c x (y + 2 ^ k) k++fl _ (p++[3]) d (x + 2 ^ k) (y + 2 ^ k) k))=[];rw[dO a _ _ _ k ga B,dO b _ _ _ k gb G,dO c _ _ _ k gc J,dO d _ _ _ k gd O];rfl
def cT (ax s:Bool)(N1 T1 W x y K:Nat):Prop:=T1≤tC' ax x y∧tC' ax x y + K≤T1 + W∧(if s then nC ax x y + K=N1 else nC ax x y=N1 + W)
theorem fP:∀ (u:Tr) (p:List Nat) (x y k:Nat),aP k u→cT ax s N1 T1 W x y (2 ^ k)→fl (fun x y w=>decide (fE ax s N1 T1 W x y w)) p u x y k=bP (d_ ax s) p u
 | .col _,p,x,y,k,_,f=>by
  show (if decide (fE ax s N1 T1 W x y (2 ^ k))=true then [p] else [])=[p];have pk:=IX k;generalize 2 ^ k=K at *;rw[if_pos];rw[decide_eq_true_eq];unfold cT at f;unfold fE;cases ax<;>cases s<;>simp only[nC,tC',if_true,if_false,Hu]at f ⊢<;>lia
 | .four a b c d,p,x,y,0,g,_=>g.elim
 | .four a b c d,p,x,y,k + 1,⟨ga,gb,gc,gd,_⟩,f=>by
  rw[IR,Kr]at f;have pk:=IX k;rw[i6];show fl _ (p++[0]) a x y k++(fl _ (p++[1]) b (x + 2 ^ k) y k++(fl _ (p++[2]) c x (y + 2 ^ k) k++fl _ (p++[3]) d (x + 2 ^ k) (y + 2 ^ k) k))=_;cases ax<;>cases s
  ·have B:cT false false N1 T1 W x y (2 ^ k):=by unfold cT at f ⊢;simp only[nC,tC',if_false,Hu]at f ⊢;lia
   have G:cT false false N1 T1 W x (y + 2 ^ k) (2 ^ k):=by unfold cT at f ⊢;simp only[nC,tC',if_false,Hu]at f ⊢;lia
   have J:fR false false N1 T1 W (x + 2 ^ k) y (2 ^ k):=by unfold cT at f;unfold fR;simp only[nC,tC',if_false,Hu]at f ⊢;lia
   have O:fR false false N1 T1 W (x + 2 ^ k) (y + 2 ^ k) (2 ^ k):=by unfold cT at f;unfold fR;simp only[nC,tC',if_false,Hu]at f ⊢;lia
   rw[fP a _ _ _ k ga B,dO b _ _ _ k gb J,fP c _ _ _ k gc G,dO d _ _ _ k gd O];simp[d_,qk,q0,q2]
  ·have U:cT false true N1 T1 W (x + 2 ^ k) y (2 ^ k):=by unfold cT at f ⊢;simp only[nC,tC',if_true,if_false,Hu]at f ⊢;lia
   have Y:cT false true N1 T1 W (x + 2 ^ k) (y + 2 ^ k) (2 ^ k):=by unfold cT at f ⊢;simp only[nC,tC',if_true,if_false,Hu]at f ⊢;lia
   have f0:fR false true N1 T1 W x y (2 ^ k):=by unfold cT at f;unfold fR;simp only[nC,tC',if_true,if_false,Hu]at f ⊢;lia
   have f2:fR false true N1 T1 W x (y + 2 ^ k) (2 ^ k):=by unfold cT at f;unfold fR;simp only[nC,tC',if_true,if_false,Hu]at f ⊢;lia
   rw[dO a _ _ _ k ga f0,fP b _ _ _ k gb U,dO c _ _ _ k gc f2,fP d _ _ _ k gd Y];simp[d_,qk,q1,q3]
  ·have B:cT true false N1 T1 W x y (2 ^ k):=by unfold cT at f ⊢;simp only[nC,tC',if_true,if_false,Hu]at f ⊢;lia
   have U:cT true false N1 T1 W (x + 2 ^ k) y (2 ^ k):=by unfold cT at f ⊢;simp only[nC,tC',if_true,if_false,Hu]at f ⊢;lia
   have f2:fR true false N1 T1 W x (y + 2 ^ k) (2 ^ k):=by unfold cT at f;unfold fR;simp only[nC,tC',if_true,if_false,Hu]at f ⊢;lia
   have O:fR true false N1 T1 W (x + 2 ^ k) (y + 2 ^ k) (2 ^ k):=by unfold cT at f;unfold fR;simp only[nC,tC',if_true,if_false,Hu]at f ⊢;lia
   rw[fP a _ _ _ k ga B,fP b _ _ _ k gb U,dO c _ _ _ k gc f2,dO d _ _ _ k gd O];simp[d_,qk,q0,q1]
  ·have G:cT true true N1 T1 W x (y + 2 ^ k) (2 ^ k):=by unfold cT at f ⊢;simp only[nC,tC',if_true,if_false,Hu]at f ⊢;lia
   have Y:cT true true N1 T1 W (x + 2 ^ k) (y + 2 ^ k) (2 ^ k):=by unfold cT at f ⊢;simp only[nC,tC',if_true,if_false,Hu]at f ⊢;lia
   have f0:fR true true N1 T1 W x y (2 ^ k):=by unfold cT at f;unfold fR;simp only[nC,tC',if_true,if_false,Hu]at f ⊢;lia
   have J:fR true true N1 T1 W (x + 2 ^ k) y (2 ^ k):=by unfold cT at f;unfold fR;simp only[nC,tC',if_true,if_false,Hu]at f ⊢;lia
   rw[dO a _ _ _ k ga f0,dO b _ _ _ k gb J,fP c _ _ _ k gc G,fP d _ _ _ k gd Y];simp[d_,qk,q2,q3]
theorem Ca (J:e < 4)
  (B:∀ d',d' < 4→d'≠e→fl P (p++[d']) (qk (.four a b c d) d') (x + d' % 2 * 2 ^ k) (y + d' / 2 * 2 ^ k) k=[])
  (h1:fl P (p++[e]) (qk (.four a b c d) e) (x + e % 2 * 2 ^ k) (y + e / 2 * 2 ^ k) k=R):fl P p (.four a b c d) x y (k + 1)=R:=by
 have G:fl P p (.four a b c d) x y (k + 1)=fl P (p++[0]) (qk (.four a b c d) 0) (x + 0 % 2 * 2 ^ k) (y + 0 / 2 * 2 ^ k) k++(fl P (p++[1]) (qk (.four a b c d) 1) (x + 1 % 2 * 2 ^ k) (y + 1 / 2 * 2 ^ k) k ++
   (fl P (p++[2]) (qk (.four a b c d) 2) (x + 2 % 2 * 2 ^ k) (y + 2 / 2 * 2 ^ k) k++fl P (p++[3]) (qk (.four a b c d) 3) (x + 3 % 2 * 2 ^ k) (y + 3 / 2 * 2 ^ k) k)):=by
  simp[fl,qk,q0,q1,q2,q3]
 rw[G];rcases e with _ | _ | _ | _ | e
 ·rw[h1,B 1 (by decide) (by decide),B 2 (by decide) (by decide),B 3 (by decide) (by decide)];simp
 ·rw[h1,B 0 (by decide) (by decide),B 2 (by decide) (by decide),B 3 (by decide) (by decide)];simp
 ·rw[h1,B 0 (by decide) (by decide),B 1 (by decide) (by decide),B 3 (by decide) (by decide)];simp
 ·rw[h1,B 0 (by decide) (by decide),B 1 (by decide) (by decide),B 2 (by decide) (by decide)];simp
 ·lia
theorem wg (B:d < 4):nC ax (x + d % 2 * h) (y + d / 2 * h)=nC ax x y + nd ax d * h∧tC' ax (x + d % 2 * h) (y + d / 2 * h)=tC' ax x y + td ax d * h∧nd ax d < 2∧td ax d < 2:=by
 cases ax<;>refine⟨rfl,rfl,?_,?_⟩<;>simp only[nd,td,if_true,if_false,Hu]<;>lia
theorem EC (B:d < 4)(G:e < 4)(h:d≠e):nd ax d≠nd ax e∨td ax d≠td ax e:=by
 cases ax<;>simp only[nd,td,if_true,if_false,Hu]<;>lia
theorem GC (B:d < 4)(G:e < 4)(h1:nd ax d=nd ax e)(h2:td ax d=td ax e):d=e:=by
 cases ax<;>simp only[nd,td,if_true,if_false,Hu]at h1 h2<;>lia
theorem xL (ax:Bool)(e:Nat)(r:List Nat):cn ax (e::r)=nd ax e * 2 ^ r.length + cn ax r∧ct ax (e::r)=td ax e * 2 ^ r.length + ct ax r:=by
 cases ax<;>simp only[cn,ct,nd,td,if_true,if_false,Hu]<;>exact⟨by first | exact fv e r | exact ft e r,by first | exact fv e r | exact ft e r⟩
theorem D_ (ax:Bool)(B:∀ d∈r,d < 4):cn ax r < 2 ^ r.length∧ct ax r < 2 ^ r.length:=by
 cases ax<;>simp only[cn,ct,if_true,if_false,Hu]<;>exact⟨by first | exact uG r | exact uF r B,by first | exact uG r | exact uF r B⟩
theorem iX {c m W:Nat}(h:c < m):c * W + W≤m * W:=by
 have:=Kj W (show c + 1≤m from h)
 rw[IM,KQ]at this;exact this
def AlP (ax s:Bool)(N1 W x y K:Nat):Prop:=if s then nC ax x y + K=N1 else nC ax x y=N1 + W
theorem yI {ax s:Bool}{N1 T1:Nat}{j:Nat}:∀ (r:List Nat) (u:Tr) (p:List Nat) (x y:Nat),(∀ d∈r,d < 4)→aP (r.length + j) u→T1=tC' ax x y + ct ax r * 2 ^ j →
  (if s then nC ax x y + cn ax r * 2 ^ j + 2 ^ j=N1 else nC ax x y + cn ax r * 2 ^ j=N1 + 2 ^ j)→AlP ax s N1 (2 ^ j) x y (2 ^ (r.length + j)) →
  fl (fun x y w=>decide (fE ax s N1 T1 (2 ^ j) x y w)) p u x y (r.length + j)=qR (d_ ax s) p r u
 | [],u,p,x,y,_,g,hT,hN,hA=>by
  have e0:ct ax []=0∧cn ax []=0:=by cases ax<;>exact⟨rfl,rfl⟩
  rw[KM,Jb]at g hA ⊢;show _=bP (d_ ax s) p u;refine fP u p x y j g ?_;rw[e0.1,Nat.zero_mul,KJ]at hT;exact⟨by lia,by lia,hA⟩
 | e::r,.col c,p,x,y,_,g,hT,hN,hA=>by
  show (if decide (fE ax s N1 T1 (2 ^ j) x y (2 ^ ((e::r).length + j)))=true then [p] else [])=[p];rw[if_pos];rw[decide_eq_true_eq];have Y:∀ d∈e::r,d < 4:=by assumption
  have lt:=(D_ ax Y).2;have pj:=IX j;have le:=iX (W:=2 ^ j) lt;rw[← Jg]at le;refine⟨?_,?_,?_⟩
  ·unfold AlP at hA;cases s
   ·exact hA
   ·exact hA
  ·lia
  ·lia
 | e::r,.four a b c d,p,x,y,Y,g,hT,hN,hA=>by
  have he:=Y e HP;have h4':∀ d∈r,d < 4:=fun d hd=>Y d (HF _ hd);have lt:=D_ ax h4';have pj:=IX j;have l1:=iX (W:=2 ^ j) lt.1;have l2:=iX (W:=2 ^ j) lt.2;rw[← Jg]at l1 l2;have ec:=xL ax e r;have ek:(e::r).length + j=(r.length + j) + 1:=by rw[HX];lia
  rw[ek]at g hA ⊢;rw[ec.2,IM,IY,← Jg]at hT;rw[ec.1,IM,IY,← Jg]at hN;rw[IR]at hA;obtain⟨en,et,ln,a5⟩:=wg (ax:=ax) (x:=x) (y:=y) (h:=2 ^ (r.length + j)) he;generalize hh:2 ^ (r.length + j)=h at *;generalize hw:2 ^ j=W at *;generalize a0:ct ax r * W=A1 at *;generalize a1:cn ax r * W=B1 at *;have ph:0 < h:=by lia
  have key:nd ax e=(if s then 1 else 0)∧AlP ax s N1 W (x + e % 2 * h) (y + e / 2 * h) h:=by
   unfold AlP at hA ⊢;rw[en];have cs:nd ax e=0∨nd ax e=1:=by lia
   cases s
   ·simp only[if_false,Hu]at hA hN ⊢;rcases cs with cs | cs<;>rw[cs]at hN ⊢<;>lia
   ·simp only[if_true]at hA hN ⊢;rcases cs with cs | cs<;>rw[cs]at hN ⊢<;>lia
  obtain⟨k1,k2⟩:=key;show fl _ p (.four a b c d) x y (r.length + j + 1)=qR (d_ ax s) (p++[e]) r (qk (.four a b c d) e);refine Ca he (fun d' U a2 =>?_) ?_
  ·rw[hh];obtain⟨a3,a4,a6,lt'⟩:=wg (ax:=ax) (x:=x) (y:=y) (h:=h) U;refine dO _ _ _ _ _ (g.q d') ?_;rw[hh];unfold fR;rw[a3,a4];unfold AlP at hA;have B:td ax e=0∨td ax e=1:=by lia
   have G:td ax d'=0∨td ax d'=1:=by lia
   have J:nd ax d'=0∨nd ax d'=1:=by lia
   have O:=EC (ax:=ax) U he a2;cases s
   ·simp only[if_false,Hu]at hA hN k1 ⊢;rcases B with B | B<;>rcases G with G | G<;>rcases J with J | J<;>rw[B]at hT O<;>rw[G]at O ⊢<;>rw[J]at O ⊢<;>rw[k1]at O hN<;>lia
   ·simp only[if_true]at hA hN k1 ⊢;rcases B with B | B<;>rcases G with G | G<;>rcases J with J | J<;>rw[B]at hT O<;>rw[G]at O ⊢<;>rw[J]at O ⊢<;>rw[k1]at O hN<;>lia
  ·rw[hh]
   have:=yI (ax:=ax) (s:=s) (N1:=N1) (T1:=T1) (j:=j) r (qk (.four a b c d) e) (p++[e]) (x + e % 2 * h) (y + e / 2 * h) h4' (g.q e) (by rw[hw,a0,et];lia) (by rw[hw,a1,en];cases s<;>simp only[if_true,if_false,Hu]at hN ⊢<;>lia) (by rw[hw,hh];exact k2)
   rw[hw]at this;exact this
theorem GA (G:T=t + (a * h + A))(J:A + W≤h)(O:a < 2)(U:b < 2)(B:¬ b=a):t + b * h + h≤T∨T + W≤t + b * h:=by
 rcases (show (a=0∧b=1)∨(a=1∧b=0) by lia) with⟨rfl,rfl⟩|⟨rfl,rfl⟩<;>lia
theorem Fx (J:c + (a * h + B)=N + W)(O:B + W≤h)(U:0 < W)(Y:a < 2)(hb:b < 2)(G:¬ b=a):N + W < c + b * h∨c + b * h + h≤N + W:=by
 rcases (show (a=0∧b=1)∨(a=1∧b=0) by lia) with⟨rfl,rfl⟩|⟨rfl,rfl⟩<;>lia
theorem Fw (J:c + (a * h + B) + W=N)(O:B + W≤h)(U:0 < W)(Y:a < 2)(hb:b < 2)(G:¬ b=a):N≤c + b * h∨c + b * h + h < N:=by
 rcases (show (a=0∧b=1)∨(a=1∧b=0) by lia) with⟨rfl,rfl⟩|⟨rfl,rfl⟩<;>lia
theorem Gc (h1:T=t + (a * h + A))(h2:T=t + (b * h + A'))(G:A + W≤h)(B:A' + W≤h)(J:0 < W)(O:a < 2)(U:b < 2):b=a:=by
 rcases (show (a=0∨a=1)∧(b=0∨b=1) by lia) with⟨rfl|rfl,rfl|rfl⟩<;>lia
theorem GH (O:c + (a * h + B)=N + W)(U:N=c + (b * h + B'))(Y:B + W≤h)(G:B' + W≤h)(hW:0 < W)(ha:a < 2)(hb:b < 2)(J:¬ a=b):c + a * h=N + W:=by
 rcases (show (a=0∧b=1)∨(a=1∧b=0) by lia) with⟨rfl,rfl⟩|⟨rfl,rfl⟩<;>lia
theorem GG (O:c + (a * h + B) + W=N)(U:N=c + (b * h + B'))(Y:B + W≤h)(G:B' + W≤h)(hW:0 < W)(ha:a < 2)(hb:b < 2)(J:¬ a=b):c + a * h + h=N:=by
 rcases (show (a=0∧b=1)∨(a=1∧b=0) by lia) with⟨rfl,rfl⟩|⟨rfl,rfl⟩<;>lia
theorem sU {t T X A:Nat}(h:T=t + (X + A)):T=t + X + A:=by lia
theorem xW {c N X B W:Nat}(h:c + (X + B)=N + W):c + X + B=N + W:=by lia
theorem xV {c N X B W:Nat}(h:c + (X + B) + W=N):c + X + B + W=N:=by lia
theorem yJ {ax s:Bool}{j:Nat}:∀ (zr yr:List Nat) (u:Tr) (p:List Nat) (x y N1 T1:Nat) (c:Int),zr.length=yr.length→(∀ d∈zr,d < 4)→(∀ d∈yr,d < 4)→aP (zr.length + j) u→jr u zr=some (.col c) →
  T1=tC' ax x y + ct ax zr * 2 ^ j→T1=tC' ax x y + ct ax yr * 2 ^ j→N1=nC ax x y + cn ax zr * 2 ^ j→(if s then nC ax x y + cn ax yr * 2 ^ j + 2 ^ j=N1 else nC ax x y + cn ax yr * 2 ^ j=N1 + 2 ^ j) →
  fl (fun x y w=>decide (fE ax s N1 T1 (2 ^ j) x y w)) p u x y (zr.length + j)=qR (d_ ax s) p yr u
 | [],yr,u,p,x,y,N1,T1,c,U,_,_,_,_,_,_,hN,hS=>by
  have e:yr=[]:=Ie U.symm;subst e;have J:=IX j;cases s<;>simp only[if_true,if_false,Hu]at hS<;>lia
 | _::_,[],_,_,_,_,_,_,_,U,_,_,_,_,_,_,_,_=>by simp at U
 | e'::zr,e::yr,.col _,_,_,_,_,_,_,_,_,_,_,G,_,_,_,_=>by cases G
 | e'::zr,e::yr,.four a b c d,p,x,y,N1,T1,cc,U,z4,y4,g,G,hT,hT',hN,hS=>by
  have he':=z4 e' HP;have he:=y4 e HP;have z4':∀ d∈zr,d < 4:=fun d hd=>z4 d (HF _ hd);have y4':∀ d∈yr,d < 4:=fun d hd=>y4 d (HF _ hd);have hl':zr.length=yr.length:=by simpa using U
  have lz:=D_ ax z4';have ly:=D_ ax y4';have J:=IX j;have z1:=iX (W:=2 ^ j) lz.1;have z2:=iX (W:=2 ^ j) lz.2;have O:=iX (W:=2 ^ j) ly.1;have y2:=iX (W:=2 ^ j) ly.2;rw[← Jg]at z1 z2 O y2;have ez:=xL ax e' zr;have ey:=xL ax e yr;have ek:(e'::zr).length + j=(zr.length + j) + 1:=by rw[HX];lia
  rw[ek]at g ⊢;rw[ez.2,IM,IY,← Jg]at hT;rw[ez.1,IM,IY,← Jg]at hN;rw[ey.2,IM,IY,← Jg]at hT';rw[ey.1,IM,IY,← Jg]at hS;rw[← hl']at O y2 hT' hS;obtain⟨en,et,ln,lt⟩:=wg (ax:=ax) (x:=x) (y:=y) (h:=2 ^ (zr.length + j)) he;obtain⟨b1,b2,Y,lt'⟩:=wg (ax:=ax) (x:=x) (y:=y) (h:=2 ^ (zr.length + j)) he';have hnd':jr (qk (.four a b c d) e') zr=some (.col cc):=G;generalize hh:2 ^ (zr.length + j)=h at *;generalize B:2 ^ j=W at *;generalize a4:ct ax zr * W=A1 at *;generalize a5:cn ax zr * W=B1 at *;generalize a0:ct ax yr * W=A2 at *;generalize a1:cn ax yr * W=B2 at *;have a6:td ax e=td ax e':=Gc hT hT' z2 y2 J lt' lt;show fl _ p (.four a b c d) x y (zr.length + j + 1)=qR (d_ ax s) (p++[e]) yr (qk (.four a b c d) e);refine Ca he (fun d' a2 a7 =>?_) ?_
  ·rw[hh];obtain⟨a8,a9,a3,b0⟩:=wg (ax:=ax) (x:=x) (y:=y) (h:=h) a2;refine dO _ _ _ _ _ (g.q d') ?_;rw[hh];unfold fR;rw[a8,a9];by_cases c:td ax d'=td ax e
   ·have c8:¬ nd ax d'=nd ax e:=fun k=>(EC (ax:=ax) a2 he a7).elim (fun n=>n k) (fun n=>n c);refine .inr (.inr ?_);cases s
    ·simp only[if_false,Hu]at hS ⊢;exact Fx hS O J ln a3 c8
    ·simp only[if_true]at hS ⊢;exact Fw hS O J ln a3 c8
   ·rcases GA hT' y2 lt b0 c with k|k
    ·exact .inl k
    ·exact .inr (.inl k)
  ·rw[hh];by_cases hne:nd ax e=nd ax e'
   ·have ee:e=e':=GC he he' hne a6;subst ee
    have:=yJ (ax:=ax) (s:=s) (j:=j) zr yr (qk (.four a b c d) e) (p++[e]) (x + e % 2 * h) (y + e / 2 * h) N1 T1 cc hl' z4' y4' (g.q e) hnd' (by rw[B,a4,et];exact sU hT) (by rw[B,a0,et];exact sU hT') (by rw[B,a5,en];exact sU hN)
     (by rw[B,a1,en];cases s<;>simp only[if_true,if_false,Hu]at hS ⊢<;>first | exact xW hS | exact xV hS)
    rw[B]at this;exact this
   ·have al:AlP ax s N1 W (x + e % 2 * h) (y + e / 2 * h) h:=by
     unfold AlP;rw[en];cases s
     ·simp only[if_false,Hu]at hS ⊢;exact GH hS hN O z1 J ln Y hne
     ·simp only[if_true]at hS ⊢;exact GG hS hN O z1 J ln Y hne
    have gq:=g.q e;rw[hl']at gq hh ⊢
    have:=yI (ax:=ax) (s:=s) (N1:=N1) (T1:=T1) (j:=j) yr (qk (.four a b c d) e) (p++[e]) (x + e % 2 * h) (y + e / 2 * h) y4' gq (by rw[B,a0,et];exact sU hT') (by rw[B,a1,en];cases s<;>simp only[if_true,if_false,Hu]at hS ⊢<;>first | exact xW hS | exact xV hS) (by rw[B,hh];exact al)
    rw[B]at this;exact this
theorem BY {K:PySem.W.Frag}:PySem.W.kitOne K (.type "list") (.type "list")=some true:=by kernel_rfl
structure Sq where
 z:List Nat
 c:Int
 x:Nat
 y:Nat
 w:Nat
def sqs:List Nat→Tr→Nat→Nat→Nat→List Sq
 | p,.col c,x,y,k=>[⟨p,c,x,y,2 ^ k⟩]
 | p,.four a b c d,x,y,k=>sqs (p++[0]) a x y (k - 1)++(sqs (p++[1]) b (x + 2 ^ (k - 1)) y (k - 1)++(sqs (p++[2]) c x (y + 2 ^ (k - 1)) (k - 1)++sqs (p++[3]) d (x + 2 ^ (k - 1)) (y + 2 ^ (k - 1)) (k - 1)))
theorem fe:∀ (t:Tr) (p:List Nat) (x y k:Nat),(sqs p t x y k).length=cnt t
 | .col _,_,_,_,_=>rfl
 | .four a b c d,p,x,y,k=>by
  show (sqs _ a _ _ _++(sqs _ b _ _ _++(sqs _ c _ _ _++sqs _ d _ _ _))).length=cnt a + cnt b + cnt c + cnt d;simp only[Hs,fe a,fe b,fe c,fe d]
  lia
theorem nY (P:Nat→Nat→Nat→Bool):∀ (t:Tr) (p:List Nat) (x y k:Nat),fl P p t x y k=((sqs p t x y k).filter fun q=>P q.x q.y q.w).map Sq.z
 | .col c,p,x,y,k=>by
  show (if P x y (2 ^ k) then [p] else [])=(([⟨p,c,x,y,2 ^ k⟩]:List Sq).filter fun q=>P q.x q.y q.w).map Sq.z;cases h:P x y (2 ^ k)<;>simp[List.filter,h]
 | .four a b c d,p,x,y,k=>by
  show fl P (p++[0]) a x y (k - 1)++(fl P (p++[1]) b (x + 2 ^ (k - 1)) y (k - 1)++(fl P (p++[2]) c x (y + 2 ^ (k - 1)) (k - 1)++fl P (p++[3]) d (x + 2 ^ (k - 1)) (y + 2 ^ (k - 1)) (k - 1))) =
   ((sqs (p++[0]) a x y (k - 1)++(sqs (p++[1]) b (x + 2 ^ (k - 1)) y (k - 1)++(sqs (p++[2]) c x (y + 2 ^ (k - 1)) (k - 1)++sqs (p++[3]) d (x + 2 ^ (k - 1)) (y + 2 ^ (k - 1)) (k - 1)))).filter fun q=>P q.x q.y q.w).map Sq.z
  simp only[Je,Im,nY P a,nY P b,nY P c,nY P d]
def uP (q:Sq)(p:List Nat)(t:Tr)(x y k:Nat):Prop:=∃ w:List Nat,q.z=p++w∧(∀ d∈w,d < 4)∧jr t w=some (.col q.c)∧w.length≤k∧q.x=x + cxs w * 2 ^ (k - w.length)∧q.y=y + cys w * 2 ^ (k - w.length)∧q.w=2 ^ (k - w.length)
theorem oR (J:e < 4)(O:x'=x + e % 2 * 2 ^ k)(U:y'=y + e / 2 * 2 ^ k)(h:uP q (p++[e]) (qk (.four a b c d) e) x' y' k):uP q p (.four a b c d) x y (k + 1):=by
 obtain⟨w,Y,h4,hn,hl,ex,ey,ew⟩:=h;have B:k + 1 - (e::w).length=k - w.length:=by rw[HX];simp
 have ep:2 ^ w.length * 2 ^ (k - w.length)=2 ^ k:=by rw[← Jg];congr 1;lia
 refine⟨e::w,by rw[Y];simp,?_,hn,by rw[HX];lia,?_,?_,by rw[B];exact ew⟩
 ·intro d G;rcases HZ.mp G with rfl | G
  ·exact J
  ·exact h4 d G
 ·rw[B,ex,O,fv,IM,IY,ep];lia
 ·rw[B,ey,U,ft,IM,IY,ep];lia
theorem fY:∀ (t:Tr) (p:List Nat) (x y k:Nat),aP k t→∀ q∈sqs p t x y k,uP q p t x y k
 | .col c,p,x,y,k,_,q,B=>by
  have e:q=⟨p,c,x,y,2 ^ k⟩:=Hv.mp B;subst e;exact⟨[],by simp,fun d G=>absurd G (by simp),rfl,HE _,by simp[cxs],by simp[cys],by simp⟩
 | .four a b c d,p,x,y,0,g,_,_=>g.elim
 | .four a b c d,p,x,y,k + 1,⟨ga,gb,gc,gd,_⟩,q,B=>by
  have hq':q∈sqs (p++[0]) a x y k++(sqs (p++[1]) b (x + 2 ^ k) y k++(sqs (p++[2]) c x (y + 2 ^ k) k++sqs (p++[3]) d (x + 2 ^ k) (y + 2 ^ k) k)):=B;simp only[HD]at hq';rcases hq' with h | h | h | h
  ·exact oR (e:=0) (by decide) (by simp) (by simp) (fY a _ _ _ k ga q h)
  ·exact oR (e:=1) (by decide) (by simp) (by simp) (fY b _ _ _ k gb q h)
  ·exact oR (e:=2) (by decide) (by simp) (by simp) (fY c _ _ _ k gc q h)
  ·exact oR (e:=3) (by decide) (by simp) (by simp) (fY d _ _ _ k gd q h)
def mn (i j:Int):Int:=if j < i then j else i
def mx (i j:Int):Int:=if j > i then j else i
def ie (a wa b wb:Nat):Int:=mn ((a:Int) + wa) ((b:Int) + wb) - mx (a:Int) b
theorem vE {a B b G:Nat}(h1:0 < B)(h2:0 < G):0 < ie a B b G↔a < b + G∧b < a + B:=by
 unfold ie mn mx
 split<;>split<;>lia
def fo (ax s:Bool)(q:Sq):Nat→Nat→Nat→Bool:=fun x y w=>decide (fE ax s (nC ax q.x q.y) (tC' ax q.x q.y) q.w x y w)
theorem Ap (gt:aP n t)(ok:uP q [] t 0 0 n)(J:yr.length=q.z.length)(y4:∀ d∈yr,d < 4)(O:ct ax yr=ct ax q.z)(B:if s then cn ax yr + 1=cn ax q.z else cn ax yr=cn ax q.z + 1):
  fl (fo ax s q) [] t 0 0 n=qR (d_ ax s) [] yr t:=by
 obtain⟨w,U,h4,hn,hl,ex,G,Y⟩:=ok;rw[IV]at U;rw[U]at J O B;obtain⟨j,rfl⟩:∃ j,n=w.length + j:=⟨n - w.length,by lia⟩;rw[Nat.add_sub_cancel_left]at ex G Y;have hN:nC ax q.x q.y=nC ax 0 0 + cn ax w * 2 ^ j:=by cases ax<;>simp only[nC,cn,ex,G,if_true,if_false,Hu]
 have hT:tC' ax q.x q.y=tC' ax 0 0 + ct ax w * 2 ^ j:=by cases ax<;>simp only[tC',ct,ex,G,if_true,if_false,Hu]
 unfold fo;rw[Y];refine yJ w yr t [] 0 0 _ _ q.c J.symm h4 y4 gt hn hT (by rw[O];exact hT) hN ?_;rw[hN];cases s
 ·simp only[if_false,Hu]at B ⊢;rw[B,IM,KQ];lia
 ·simp only[if_true]at B ⊢;rw[← B,IM,KQ];lia
theorem xN (gt:aP n t)(ok:uP q [] t 0 0 n)(B:if s then cn ax q.z=0 else cn ax q.z + 1=2 ^ q.z.length):
  fl (fo ax s q) [] t 0 0 n=[]:=by
 obtain⟨w,G,h4,hn,hl,ex,J,O⟩:=ok;rw[IV]at G;rw[G]at B;obtain⟨j,rfl⟩:∃ j,n=w.length + j:=⟨n - w.length,by lia⟩;rw[Nat.add_sub_cancel_left]at ex J O;have U:nC ax q.x q.y=cn ax w * 2 ^ j:=by cases ax<;>simp only[nC,cn,ex,J,if_true,if_false,Hu,Jb]
 have Y:nC ax 0 0=0:=by cases ax<;>rfl
 unfold fo;rw[O];refine dO t [] 0 0 _ gt (.inr (.inr ?_));rw[U,Y];cases s
 ·simp only[if_false,Hu]at B ⊢
  right
  rw[Jg,← B,IM,KQ];simp
 ·simp only[if_true]at B ⊢
  left
  rw[B,Nat.zero_mul];exact HE _
def F0:List V:=[.str "up",.str "right",.str "down",.str "left"]
theorem Cw {K:PySem.W.Frag}(gt:aP n t)(ok:uP q [] t 0 0 n)(hd:Dir side s1 s2 dx dy)(e2:dig s2=d_ ax s)
  (ex:dx=(if ax then 0 else if s then -1 else 1)) (O:dy=(if ax then (if s then -1 else 1) else 0)) (k:∀ l H',ak H H'→H l=none→H' l=some (.lst ((fl (fo ax s q) [] t 0 0 n).map sV))→Q (.ref l) H'):GO Y H Q E (txt q.z) t (.str side):=by
 obtain⟨w,e1,h4,_⟩:=id ok;rw[IV]at e1;refine .inl ⟨side,s1,s2,dx,dy,rfl,hd,fun y J ly G B l H' U hl u=>k l H' U hl ?_,fun x' y' a0 B G J l H' U hl u=>k l H' U hl ?_⟩
 ·rw[fQ]at G B;rw[e_]at ly;rw[u,e2,Ap (yr:=dig y) gt ok (by rw[cF];exact ly) (Co J)]
  ·subst ex O;cases ax<;>cases s<;>simp only[ct,if_true,if_false,Hu]at G B ⊢<;>lia
  ·subst ex O;cases ax<;>cases s<;>simp only[cn,if_true,if_false,Hu]at G B ⊢<;>lia
 ·rw[fQ,e_]at G J;rw[e_]at a0 B;have c1:=uG q.z;have c2:=uF q.z (by rw[e1];exact h4);rw[u,xN gt ok]
  ·rfl
  ·subst ex O;generalize 2 ^ q.z.length=W at *;cases ax<;>cases s<;>simp only[cn,if_true,if_false,Hu]at G J ⊢<;>lia
def hU (q r:Sq):Bool:=fo false false q r.x r.y r.w
def kW (q r:Sq):Bool:=fo true false q r.x r.y r.w
def bp (q r:Sq):Bool:=decide (mn (ie q.x q.w r.x r.w) (ie q.y q.w r.y r.w)=0) && decide (mx (ie q.x q.w r.x r.w) (ie q.y q.w r.y r.w) > 0)
def Sep (q r:Sq):Prop:=q.x + q.w≤r.x∨q.y + q.w≤r.y
theorem ii (i j:Int):mn i j=min i j:=by unfold mn;split<;>lia
theorem gD (i j:Int):mx i j=max i j:=by unfold mx;split<;>lia
theorem iU:hU q r=true↔r.x=q.x + q.w∧q.y < r.y + r.w∧r.y < q.y + q.w:=by
 unfold hU fo fE;simp only[nC,tC',if_false,Hu,decide_eq_true_eq]
theorem kB:kW q r=true↔r.y=q.y + q.w∧q.x < r.x + r.w∧r.x < q.x + q.w:=by
 unfold kW fo fE;simp only[nC,tC',if_true,if_false,Hu,decide_eq_true_eq]
theorem eQ:bp q r=true↔min (ie q.x q.w r.x r.w) (ie q.y q.w r.y r.w)=0∧max (ie q.x q.w r.x r.w) (ie q.y q.w r.y r.w) > 0:=by
 unfold bp;rw[ii,gD];simp only[IW,decide_eq_true_eq]
theorem rS {X Y:Int}{A B C D:Prop}(U:X≤0)(G:X=0↔A)(J:0 < Y↔B)(O:¬ (C∧D)):(min X Y=0∧max X Y > 0)↔(A∧B)∨(C∧D):=by
 rw[← G,← J];constructor
 ·intro h;exact .inl (by lia)
 ·intro h;rcases h with h | h
  ·lia
  ·exact absurd h O
theorem wK {X Y:Int}{A B C D:Prop}(G:Y≤0)(J:Y=0↔C)(O:0 < X↔D)(U:¬ (A∧B)):(min X Y=0∧max X Y > 0)↔(A∧B)∨(C∧D):=by
 rw[Int.min_comm,Int.max_comm,rS G J O U];exact Or.comm
theorem vD (B:0 < wb)(h:a + wa≤b):ie a wa b wb=(a:Int) + wa - b:=by
 unfold ie mn mx;rw[if_neg (by lia)]
 split<;>lia
theorem zw {q r:Sq}(G:0 < q.w)(B:0 < r.w)(h:Sep q r):bp q r=(hU q r || kW q r):=by
 rw[ID,Bool.or_eq_true,eQ,iU,kB];rcases h with h | h
 ·have e:=vD B h;refine rS (by lia) (by rw[e];lia) (vE G B) (by lia)
 ·have e:=vD B h;refine wK (by lia) (by rw[e];lia) (vE G B) (by lia)
theorem vn (O:0 < q.w)(U:0 < r.w)(h:Sep q r):hU r q=false∧kW r q=false:=by
 refine⟨JM.mpr fun c =>?_,JM.mpr fun c =>?_⟩
 ·obtain⟨B,G,J⟩:=iU.mp c;rcases h with h|h<;>lia
 ·obtain⟨B,G,J⟩:=kB.mp c;rcases h with h|h<;>lia
theorem BG (O:0 < q.w):hU q q=false∧kW q q=false:=by
 refine⟨JM.mpr fun c =>?_,JM.mpr fun c =>?_⟩
 ·obtain⟨B,G,J⟩:=iU.mp c
  lia
 ·obtain⟨B,G,J⟩:=kB.mp c
  lia
theorem Du (B:0 < q.w)(h:hU q r=true):kW q r=false:=by
 refine JM.mpr fun c =>?_;obtain⟨G,J,O⟩:=iU.mp h;obtain⟨U,Y,d3⟩:=kB.mp c
 lia
theorem fZ:∀ (t:Tr) (p:List Nat) (x y k:Nat),aP k t→∀ q∈sqs p t x y k,x≤q.x∧q.x + q.w≤x + 2 ^ k∧y≤q.y∧q.y + q.w≤y + 2 ^ k∧0 < q.w
 | .col c,p,x,y,k,_,q,G=>by
  have e:q=⟨p,c,x,y,2 ^ k⟩:=Hv.mp G;subst e;exact⟨Ht _,Ht _,Ht _,Ht _,IX k⟩
 | .four a b c d,p,x,y,0,g,_,_=>g.elim
 | .four a b c d,p,x,y,k + 1,⟨ga,gb,gc,gd,_⟩,q,G=>by
  have hq':q∈sqs (p++[0]) a x y k++(sqs (p++[1]) b (x + 2 ^ k) y k++(sqs (p++[2]) c x (y + 2 ^ k) k++sqs (p++[3]) d (x + 2 ^ k) (y + 2 ^ k) k)):=G;have U:2 ^ (k + 1)=2 ^ k + 2 ^ k:=by rw[IR];lia
  simp only[HD]at hq';rw[U];rcases hq' with h | h | h | h
  ·obtain⟨h1,h2,J,O,B⟩:=fZ a _ _ _ k ga q h;refine⟨?_,?_,?_,?_,B⟩<;>lia
  ·obtain⟨h1,h2,J,O,B⟩:=fZ b _ _ _ k gb q h;refine⟨?_,?_,?_,?_,B⟩<;>lia
  ·obtain⟨h1,h2,J,O,B⟩:=fZ c _ _ _ k gc q h;refine⟨?_,?_,?_,?_,B⟩<;>lia
  ·obtain⟨h1,h2,J,O,B⟩:=fZ d _ _ _ k gd q h;refine⟨?_,?_,?_,?_,B⟩<;>lia
theorem Fc (p:List Nat)(h:a < b)(v w:List Nat):p++a::v < p++b::w:=by
 induction p with
 | nil=>exact List.cons_lt_cons_iff.mpr (.inl h)
 | cons x p ih=>exact List.cons_lt_cons_iff.mpr (.inr ⟨rfl,ih⟩)
def fS (q r:Sq):Prop:=Sep q r∧q.z < r.z
theorem x6 (g:aP k t)(B:q∈sqs p t x y k):∃ w,q.z=p++w:=by
 obtain⟨w,e,_⟩:=fY t p x y k g q B;exact⟨w,e⟩
theorem kC (B:aP k a)(G:aP k b)(U:d < e)(Y:∀ q r:Sq,(x≤q.x∧q.x + q.w≤x + 2 ^ k∧y≤q.y∧q.y + q.w≤y + 2 ^ k∧0 < q.w)→(x'≤r.x∧r.x + r.w≤x' + 2 ^ k∧y'≤r.y∧r.y + r.w≤y' + 2 ^ k∧0 < r.w)→Sep q r):
  ∀ q∈sqs (p++[d]) a x y k,∀ r∈sqs (p++[e]) b x' y' k,fS q r:=fun q J r O=>by
 refine⟨Y q r (fZ a _ _ _ k B q J) (fZ b _ _ _ k G r O),?_⟩;obtain⟨v,ev⟩:=x6 B J;obtain⟨w,ew⟩:=x6 G O;rw[ev,ew]
 have:=Fc p U v w
 simpa using this
theorem dG:∀ (t:Tr) (p:List Nat) (x y k:Nat),aP k t→(sqs p t x y k).Pairwise fS
 | .col c,p,x,y,k,_=>JB _ _
 | .four a b c d,p,x,y,0,g=>g.elim
 | .four a b c d,p,x,y,k + 1,⟨ga,gb,gc,gd,_⟩=>by
  show (sqs (p++[0]) a x y k++(sqs (p++[1]) b (x + 2 ^ k) y k++(sqs (p++[2]) c x (y + 2 ^ k) k++sqs (p++[3]) d (x + 2 ^ k) (y + 2 ^ k) k))).Pairwise fS;refine Iu.mpr ⟨dG a _ _ _ k ga,Iu.mpr ⟨dG b _ _ _ k gb,Iu.mpr ⟨dG c _ _ _ k gc,dG d _ _ _ k gd,?_⟩,?_⟩,?_⟩
  ·refine kC gc gd (by decide) fun q r G B =>?_;unfold Sep;omega
  ·intro q G r B;rcases HD.mp B with B | B
   ·refine kC gb gc (by decide) (fun q r G B =>?_) q G r B;unfold Sep
    lia
   ·refine kC gb gd (by decide) (fun q r G B =>?_) q G r B;unfold Sep
    lia
  ·intro q G r B;rcases HD.mp B with B | B
   ·refine kC ga gb (by decide) (fun q r G B =>?_) q G r B;unfold Sep;omega
   rcases HD.mp B with B|B
   ·refine kC ga gc (by decide) (fun q r G B =>?_) q G r B;unfold Sep
    lia
   ·refine kC ga gd (by decide) (fun q r G B =>?_) q G r B;unfold Sep;omega
abbrev Pr:Type:=List Nat × List Nat
def jt:List Sq→List Pr
 | []=>[]
 | q::L=>((L.filter fun r=>bp q r).map fun r=>(q.z,r.z))++jt L
def gR (A:List Sq)(q:Sq):List Pr:=((A.filter fun r=>hU q r).map fun r=>(q.z,r.z))++((A.filter fun r=>kW q r).map fun r=>(q.z,r.z))
theorem sw:∀ {L:List α},(∀ x∈L,a x=true→b x=false)→(L.filter a++L.filter b).Perm (L.filter fun x=>a x || b x)
 | [],_=>List.Perm.refl _
 | x::L,h=>by
  have G:=sw (L:=L) fun y J=>h y (HF _ J);cases ea:a x with
  | true =>
   have B:=h x HP ea;rw[JC ea,I8 (by rw[B];exact HN),JC (by rw[ea];rfl)];exact G.cons x
  | false =>
   rw[I8 (by rw[ea];exact HN)];cases B:b x with
   | true =>
    rw[JC B,JC (by rw[ea,B];rfl)];exact List.perm_middle.trans (G.cons x)
   | false =>
    rw[I8 (by rw[B];exact HN),I8 (by rw[ea,B];exact HN)];exact G
theorem om {α:Type}{a:α→Bool}{L:List α}(h:∀ x∈L,a x=false):L.filter a=[]:=by
 rw[List.filter_eq_nil_iff];intro x B;rw[h x B];exact HN
theorem AE {B L:List Sq}{q:Sq}(O:∀ b∈B,fS b q∧0 < b.w)(Y:∀ r∈L,fS q r∧0 < r.w)(G:0 < q.w):(gR (B++q::L) q).Perm ((L.filter fun r=>bp q r).map fun r=>(q.z,r.z)):=by
 have ns:=BG G;have e1:(B++q::L).filter (fun r=>hU q r)=L.filter (fun r=>hU q r):=by
  rw[Je,om fun b J=>(vn (O b J).2 G (O b J).1.1).1,IV,I8 (by rw[ns.1];exact HN)]
 have e2:(B++q::L).filter (fun r=>kW q r)=L.filter (fun r=>kW q r):=by
  rw[Je,om fun b J=>(vn (O b J).2 G (O b J).1.1).2,IV,I8 (by rw[ns.2];exact HN)]
 unfold gR;rw[e1,e2,← Im];have e3:L.filter (fun r=>bp q r)=L.filter (fun r=>hU q r || kW q r):=List.filter_congr fun r U=>zw G (Y r U).2 (Y r U).1.1;rw[e3];exact (sw fun r U h=>Du G h).map _
theorem rT:∀ (L B:List Sq),(B++L).Pairwise fS→(∀ q∈B++L,0 < q.w)→(L.flatMap fun q=>gR (B++L) q).Perm (jt L)
 | [],B,_,_=>List.Perm.refl _
 | q::L,B,h,hw=>by
  have G:=rT L (B++[q]) (by simpa using h) (by simpa using hw);rw[HW,Kg]at G;obtain⟨Y,p2,U⟩:=Iu.mp h;rw[List.flatMap_cons];refine List.Perm.append (AE (fun b J=>⟨U b J q HP,hw b (by simp[J])⟩) (fun r O=>⟨(JF.mp p2).1 r O,hw r (by simp[O])⟩) (hw q (by simp))) G
def FM (a b:Pr):Prop:=a.1 < b.1∨(a.1=b.1∧a.2 < b.2)
theorem v_:∀ {L:List Sq} {d:Pr},d∈jt L→∃ q∈L,d.1=q.z
 | [],d,h=>by cases h
 | q::L,d,h=>by
  rcases HD.mp h with h|h
  ·obtain⟨r,_,rfl⟩:=Hz.mp h;exact⟨q,HP,rfl⟩
  ·obtain⟨r,B,e⟩:=v_ h;exact⟨r,HF _ B,e⟩
theorem wd:∀ {L:List Sq},L.Pairwise fS→(jt L).Pairwise FM
 | [],_=>List.Pairwise.nil
 | q::L,h=>by
  obtain⟨h1,h2⟩:=JF.mp h;refine Iu.mpr ⟨?_,wd h2,fun a B b G =>?_⟩
  ·rw[IG];exact (h2.filter _).imp fun h=>.inr ⟨rfl,h.2⟩
  ·obtain⟨r,_,rfl⟩:=Hz.mp B;obtain⟨s,J,e⟩:=v_ G
   left
   rw[e];exact (h1 s J).2
theorem wc:∀ (L:List Sq),(jt L).length≤L.length * L.length
 | []=>Ht _
 | q::L=>by
  have B:=wc L;have h1:=IL (fun r=>bp q r) L;show (((L.filter fun r=>bp q r).map fun r=>(q.z,r.z))++jt L).length≤_;rw[Hs,Hw,HX,IM,Nat.mul_add]
  lia
def PrV (H:Hp)(u:V)(d:Pr):Prop:=∃ p,u=.ref p∧H p=some (.tup [sV d.1,sV d.2])
theorem PrV.up (h:PrV H u d)(s:bS H H'):PrV H' u d:=by
 obtain⟨p,e,B⟩:=h;exact⟨p,e,s _ _ B⟩
abbrev eE (H:Hp):List V→List Pr→Prop:=Paired (PrV H)
theorem eE.up (h:eE H us L)(s:bS H H'):eE H' us L:=by
 induction h with
 | nil=>exact .nil
 | cons p _ ih=>exact .cons (p.up s) ih
theorem eE.app (h:eE H us L)(k:eE H vs M):eE H (us++vs) (L++M):=by
 induction h with
 | nil=>exact k
 | cons p _ ih=>exact .cons p ih
theorem eE.len (h:eE H us L):us.length=L.length:=Paired.length h
theorem eE.get (h:eE H us L):∀ {i:Nat} {u:V},us[i]? = some u→∃ d,L[i]? = some d∧PrV H u d:=by
 induction h with
 | nil=>intro i u e;simp at e
 | cons p _ ih =>
  intro i u e;rcases i with _ | i
  ·exact⟨_,rfl,by rw[← Option.some.inj e];exact p⟩
  ·exact ih (by simpa using e)
def kp (d:Pr):Pky:=pkV (txt d.1) (.str (txt d.2))
theorem sR (h:(txt a).cps.toList=(txt b).cps.toList):a=b:=by
 have:=Ij dig (yV h)
 rwa [fQ,fQ]at this
theorem Fi (h:kp d=kp e):d=e:=by
 have h1:(txt d.1).cps.toList=(txt e.1).cps.toList:=Ij Prod.fst h;have h2:(txt d.2).cps.toList=(txt e.2).cps.toList:=Ij (fun x:Pky=>x.2.2) h;exact Prod.ext (sR h1) (sR h2)
theorem AC (h:a < b):(txt a).cps.toList < (txt b).cps.toList:=by
 show (a.map (48 + ·)).toArray.toList < (b.map (48 + ·)).toArray.toList;exact List.map_lt (fun x y h=>Nat.add_lt_add_left h 48) h
theorem Gn (h:FM d e):ltP (kp d) (kp e)=true:=by
 have B:ltP (kp d) (kp e)=if (txt d.1).cps.toList=(txt e.1).cps.toList then decide ((txt d.2).cps.toList < (txt e.2).cps.toList) else decide ((txt d.1).cps.toList < (txt e.1).cps.toList):=rfl
 rw[B];rcases h with h | ⟨h1,h2⟩
 ·rw[if_neg fun c=>absurd (sR c▸h) (JQ _)];exact Hr (AC h)
 ·rw[if_pos (by rw[h1])];exact Hr (AC h2)
theorem vz:∀ {us:List V} {D:List Pr},eE H us D→∃ as:List Addr,us=as.map V.ref∧as.map (pkH H)=D.map kp∧∀ a∈as,∃ d:Pr,H a=some (.tup [sV d.1,sV d.2])
 | _,_,.nil=>⟨[],rfl,rfl,fun _ h=>nomatch h⟩
 | _,_,.cons (a:=u) (b:=d) ⟨p,e,hp⟩ t=>by
  obtain⟨as,h1,h2,G⟩:=vz t;refine⟨p::as,by rw[h1,e];rfl,?_,fun a B =>?_⟩
  ·rw[Ig,Ig,h2]
   congr 1
   unfold pkH;rw[hp];rfl
  ·rcases HZ.mp B with rfl|B
   ·exact⟨d,hp⟩
   ·exact G a B
theorem Bm:∀ {as:List Addr} {E:List Pr},as.map (pkH H)=E.map kp→(∀ a∈as,∃ d:Pr,H a=some (.tup [sV d.1,sV d.2]))→eE H (as.map V.ref) E
 | [],[],_,_=>.nil
 | [],_::_,h,_=>by cases h
 | _::_,[],h,_=>by cases h
 | a::as,e::E,h,h3=>by
  obtain⟨h1,h2⟩:=List.cons.inj h;obtain⟨d,B⟩:=h3 a HP
  have:pkH H a=kp d:=by
   unfold pkH;rw[B];rfl
  have G:=Fi (this.symm.trans h1);subst G;exact .cons ⟨a,rfl,B⟩ (Bm h2 fun b J=>h3 b (HF _ J))
theorem wP {H:Hp}{as B:List Addr}{D E:List Pr}(h2:as.map (pkH H)=D.map kp)(J:∀ a∈as,∃ d:Pr,H a=some (.tup [sV d.1,sV d.2]))(G:B.Perm as)(O:B.Pairwise fun x y=>ltP (pkH H y) (pkH H x)=false)(U:D.Perm E)(Y:E.Pairwise FM):eE H (B.map V.ref) E:=by
 refine Bm ?_ fun a ha=>J a (G.mem_iff.mp ha);have p1:(B.map (pkH H)).Perm (E.map kp):=((G.map _).trans (h2▸List.Perm.refl _)).trans (U.map kp);refine List.Perm.eq_of_pairwise (le:=fun a b=>ltP b a=false) (fun a b _ _ h1 h2=>yz.tot _ _ h2 h1) (IG.mpr O) ?_ p1;rw[IG];refine Y.imp fun h =>?_;cases c:ltP (kp _) (kp _) with
 | false=>rfl
 | true =>
  have:=yz.tr _ _ _ c (Gn h)
  rw[yz.irr]at this;cases this
def PaV (H:Hp)(n:Nat)(u:V)(q:List Nat × Int):Prop:=∃ p z,u=.ref p∧H p=some (.tup [.str z,.int q.2])∧IsC z∧dig z=q.1∧z.length≤n∧(0≤q.2∧q.2≤35)
theorem PaV.up (h:PaV H n u q)(s:bS H H'):PaV H' n u q:=by
 obtain⟨p,z,e,B,h1,h2,G,J⟩:=h;exact⟨p,z,e,s _ _ B,h1,h2,G,J⟩
inductive bz (H:Hp)(n:Nat):List V→List (List Nat × Int)→Prop
 | nil:bz H n [] []
 | cons {u:V} {q:List Nat × Int} {us:List V} {L:List (List Nat × Int)}:PaV H n u q→bz H n us L→bz H n (u::us) (q::L)
theorem bz.up (h:bz H n us L)(s:bS H H'):bz H' n us L:=by
 induction h with
 | nil=>exact .nil
 | cons p _ ih=>exact .cons (p.up s) ih
theorem bz.len (h:bz H n us L):us.length=L.length:=by
 induction h with
 | nil=>rfl
 | cons p _ ih=>simp[ih]
theorem bz.app (h:bz H n us L)(k:bz H n vs M):bz H n (us++vs) (L++M):=by
 induction h with
 | nil=>exact k
 | cons p _ ih=>exact .cons p ih
theorem bz.get (h:bz H n us L):∀ {i:Nat} {u:V},us[i]? = some u→∃ q,L[i]? = some q∧PaV H n u q:=by
 induction h with
 | nil=>intro i u e;simp at e
 | cons p _ ih =>
  intro i u e;rcases i with _ | i
  ·exact⟨_,rfl,by rw[← Option.some.inj e];exact p⟩
  ·exact ih (by simpa using e)
theorem He (h:n≤10000000):n≤sizeLine:=H_ h (by decide)
theorem gM:∀ (t:Tr) (p:List Nat) (x y k:Nat),lvs p t=(sqs p t x y k).map fun q=>(q.z,q.c)
 | .col c,p,x,y,k=>rfl
 | .four a b c d,p,x,y,k=>by
  show lvs (p++[0]) a++(lvs (p++[1]) b++(lvs (p++[2]) c++lvs (p++[3]) d))=(sqs (p++[0]) a x y (k - 1)++(sqs (p++[1]) b (x + 2 ^ (k - 1)) y (k - 1)++(sqs (p++[2]) c x (y + 2 ^ (k - 1)) (k - 1)++sqs (p++[3]) d (x + 2 ^ (k - 1)) (y + 2 ^ (k - 1)) (k - 1)))).map _;rw[Im,Im,Im,gM a (p++[0]) x y (k - 1),gM b (p++[1]) (x + 2 ^ (k - 1)) y (k - 1),gM c (p++[2]) x (y + 2 ^ (k - 1)) (k - 1),gM d (p++[3]) (x + 2 ^ (k - 1)) (y + 2 ^ (k - 1)) (k - 1)]
def oD (A:List Sq)(q:Sq)(j:Nat):List Pr:=(A.filter fun r=>fo (decide (j=1)) false q r.x r.y r.w).map fun r=>(q.z,r.z)
theorem vC (A:List Sq)(q:Sq)(j:Nat):(oD A q j).length≤A.length:=by
 unfold oD;rw[Hw];exact IL _ _
theorem Bx (A:List Sq)(q:Sq):(List.range 2).flatMap (oD A q)=gR A q:=by
 rw[show List.range 2=[0,1] from rfl];show oD A q 0++(oD A q 1++[])=_;rw[II];rfl
theorem zK (A:List Sq)(q:Sq)(j:Nat):(List.range (j + 1)).flatMap (oD A q)=(List.range j).flatMap (oD A q)++oD A q j:=by
 rw[JG,Jl];simp
theorem CV (h:[V.str "right",V.str "down"][j]? = some x):j < 2∧∃ (side s1 s2:Str) (dx dy:Int),x=.str side∧Dir side s1 s2 dx dy∧dig s2=d_ (decide (j=1)) false∧dx=(if decide (j=1) then 0 else if false then -1 else 1)∧dy=(if decide (j=1) then (if false then -1 else 1) else 0):=by
 rcases j with _|_|j
 ·exact⟨by decide,"right",_,_,_,_,(Option.some.inj h).symm,.inr (.inl ⟨rfl,rfl,rfl,rfl,rfl⟩),by decide +kernel,rfl,rfl⟩
 ·exact⟨by decide,"down",_,_,_,_,(Option.some.inj h).symm,.inr (.inr (.inl ⟨rfl,rfl,rfl,rfl,rfl⟩)),by decide +kernel,rfl,rfl⟩
 ·exact absurd h (by simp)
theorem xw:∀ n:Nat,n < 4→((n:Int)).natAbs.log2 < 1920:=by decide +kernel
section
variable {P:Program}{w:World}{K:PySem.W.Frag}{mg:Str→Option Value}{base:Heap}{CX:CXT}{f:Addr}{fd:FuncData}
abbrev gy:Stmt:=top 25
theorem dI:aE ["tree","code","row","quarter"] ["tree","code"] (aq gy):={}
inductive iF  (m:Nat)(vs:List V)(H:Hp)(Q:VK):Prop
 | mk (v:V) (t:Tr) (z:Str) (k n:Nat) (h_0:vs=[v,.str z]) (h_1:bT H v t) (h_2:aP k t) (h_3:IsC z) (h_4:z.length + k≤n) (h_5:n≤40) (h_6:k < m) (h_7:m≤41) (h_8:cnt t≤4000) (h_9:∀ l us H',ak H H'→H l=none→H' l=some (.lst us)→bz H' n us (lvs (dig z) t)→Q (.ref l) H'):iF m vs H Q
def fB  (m:Nat):Sp:=fun vs H Q _=>iF m vs H Q
theorem jj (T:Tx K mg)(q:bZ CX)(F:bu K "leaves_below" "leaves_below" gy f fd .none)(b:eF K fd ["tree","code"] [])(m:mg "leaves_below" = some (.ref f)):
  ∀ n,bA P w K mg base CX (1 + n) f fd ["tree","code"] (fB n)
 | 0=>by
  refine F.ok dI (fun vs H Q E h =>?_) (fun a1 A outer s H vs Q E hr h =>?_)
  ·obtain⟨_,_,_,_,_,rfl,_⟩:=h;rfl
  obtain⟨_,_,_,_,_,_,_,_,_,_,_,h,_⟩:=h;exact absurd h (JV _)
 | m' + 1=>by
  have B:Fok P w K mg base CX (1 + m') "leaves_below" ["tree","code"] [] (fB m'):=fok F (jj T q F b m m') b m
  refine F.ok dI (fun vs H Q E h =>?_) (fun a1 A outer s H vs Q E hr h =>?_)
  ·obtain⟨_,_,_,_,_,rfl,_⟩:=h;rfl
  obtain⟨v,t,z,k,n,rfl,ht,gt,hz,hl,hn,hk,hm,hc,q'⟩:=h;refine⟨_,(ac (aQ (cH (cG (aB (bW "tuple") rfl T.b_isinstance aU (aa (pv 0) (aa (d9 T.b_tuple gI) af))))) (ag (aA (aK (ap (aD (ap (pv 1) (ap (pv 0) am))) am)))) aG) (ac (av (i:=2) dI (aK am)) (ac (aN HK rfl (bQ rfl T.b_range (aa ae af)) (aR (i:=3) dI) (ag (aW (rZ PySem.F.plainAttrs_list PySem.F.slot_list_extend PySem.F.type_list_extend nO (pv 2) (aa (aj B q hr (aa (au aw (pv 0) (pv 3)) (aa (ai cJ (pv 1) (bI mY rfl T.b_str xM (aa (pv 3) af))) af)) (hj:=by first | decide | simp | (simp only[KO];lia))) af))))) (ag (aA (pv 2)))))),?_⟩
  cases ht with
  | col i =>
   have g':0≤i∧i≤35:=by cases k<;>exact gt
   refine⟨_,_,_,rfl,.int _,nV,az (mK ?_)⟩;refine⟨(leZ rfl),nw fun p H1 hp s1 u1 =>?_⟩;refine⟨(leZ rfl),fun l J =>?_⟩;have s2:=ak.new J (.lst [.ref p]);exact q' l _ _ (s1.trans s2) (ak.free s1 J) ah (.cons ⟨p,z,rfl,s2 _ _ u1,hz,rfl,by lia,g'⟩ .nil)
  | @four p xa xb xc xd ta tb tc td e ja jb jc jd =>
   rcases k with _|k
   ·exact gt.elim
   obtain⟨ga,gb,gc,gd,ho⟩:=gt;have hc':cnt ta + cnt tb + cnt tc + cnt td≤4000:=hc;refine⟨_,_,_,rfl,.tup e,lU,az (js ?_)⟩;refine⟨(leZ rfl),nw fun l H1 J s1 u1 =>?_⟩;obtain⟨ps,U⟩:∃ ps:List (List (List Nat × Int)),ps=[lvs (dig z++[0]) ta,lvs (dig z++[1]) tb,lvs (dig z++[2]) tc,lvs (dig z++[3]) td]:=⟨_,rfl⟩;have a2:ps.length=4:=by rw[U];rfl
   have a3:ps.flatten.length≤4000:=by
    rw[U];simp only[List.flatten_cons,List.flatten_nil,II,Hs,dU]
    lia
   refine⟨4,rfl,by decide,by decide,bV (fun j σ H2=>ak H H2∧∃ (us:List V) (o3:Option V),H2 l=some (.lst us)∧j≤4∧bz H2 n us (ps.take j).flatten∧σ=[some (.ref p),some (.str z),some (.ref l),o3]) ⟨s1,[],none,u1,by decide,.nil,rfl⟩ ?_ ?_⟩
   ·rintro j σ H2 hj ⟨s2,us,o3,u2,G,Y,rfl⟩;have G:j < 4:=hj;rw[show (0:Int) + (j:Int)=(j:Int) from JK _];have key:∃ x t',atI [xa,xb,xc,xd] (j:Int)=some x∧bT H x t'∧aP k t'∧cnt t'≤4000∧ps[j]? = some (lvs (dig z++[j]) t'):=by
     rw[U];rcases j with _ | _ | _ | _ | j
     ·exact⟨xa,ta,rfl,ja,ga,by lia,rfl⟩
     ·exact⟨xb,tb,rfl,jb,gb,by lia,rfl⟩
     ·exact⟨xc,tc,rfl,jc,gc,by lia,rfl⟩
     ·exact⟨xd,td,rfl,jd,gd,by lia,rfl⟩
     ·lia
    obtain⟨x,t',k1,k2,k3,k4,k5⟩:=key;have l1:(one j).length=1:=rfl;refine⟨.inl ⟨rfl,_,SqL.of u2⟩,p,_,_,x,rfl,rfl,SqT.of (s2 _ _ e),k1,(j:Int),rfl,xw j G,?_⟩;rw[xZ G];refine⟨_,_,rfl,rfl,(by rw[l1];exact small (by lia)),x,t',z++one j,k,n,rfl,k2.up s2.tups,k3,IsC.app hz (IsC.one G),by rw[gP,l1];lia,hn,by lia,by lia,k4,fun l2 a0 H3 s3 a4 u3 O =>?_⟩;rw[mW,uC]at O;have u2':=s3 _ _ u2;have et:(ps.take (j + 1)).flatten=(ps.take j).flatten++lvs (dig z++[j]) t':=by rw[Ic,k5,JS];simp
    have n1:=Y.len;have n2:=O.len;have n3:(ps.take j).flatten.length≤ps.flatten.length:=by
     conv=>rhs;rw[← IB j ps,JS,Hs]
     simp
    have n4:=dU t' (dig z++[j]);have tl:=bS.lst (ys:=us++a0) u2';refine⟨l,l2,us,a0,rfl,rfl,u2',u3,big (by lia),ak.set (s2.trans s3) J _,us++a0,_,ah,G,?_,rfl⟩;rw[et];exact (Y.up (s3.tups.trans tl)).app (O.up tl)
   ·rintro σ H2 ⟨s2,us,o3,u2,G,Y,rfl⟩;have e4:(ps.take 4).flatten=lvs (dig z) (.four ta tb tc td):=by
     rw[HM (by lia),U];simp[lvs]
    have hus':bz H2 n us (ps.take 4).flatten:=Y;rw[e4]at hus';exact (q' l us H2 s2 J u2 hus')
abbrev qe:Stmt:=top 26
theorem zB:aE ["sheet"] ["sheet"] (aq qe):={}
inductive rb  (vs:List V)(H:Hp)(Q:VK):Prop
 | mk (v:V) (t:Tr) (n:Nat) (h_0:vs=[v]) (h_1:CD H v n t) (h_2:aP n t) (h_3:n≤40) (h_4:cnt t≤4000) (h_5:∀ l us H',ak H H'→H l=none→H' l=some (.lst us)→bz H' n us (lvs [] t)→Q (.ref l) H'):rb  vs H Q
def kg:Sp:=fun vs H Q _=>rb  vs H Q
theorem zO (T:Tx K mg)(q:bZ CX)(F:bu K "leaves" "leaves" qe f fd .none)(B:Fok P w K mg base CX 42 "leaves_below" ["tree","code"] [] (fB 41)):bA P w K mg base CX 43 f fd ["sheet"] kg:=by
 refine F.ok zB (fun vs H Q E h =>?_) (fun J A outer s H vs Q E O h =>?_)
 ·obtain⟨_,_,_,rfl,_⟩:=h;rfl
 obtain⟨v,t,n,rfl,⟨p,x,rfl,U,Y⟩,gt,hn,hc,q'⟩:=h;refine⟨_,(ag (aA (aj B q O (aa (au aw (pv 0) ae) (aa cq af))))),?_⟩;refine⟨p,_,_,_,rfl,rfl,SqT.of U,rfl,x,t,("" : Str),n,n,rfl,Y,gt,dE▸IsC.nil,by rw[show ("" : Str).length=0 by decide +kernel];simp,hn,by lia,by decide,hc,fun l us H' s' hl u' G =>?_⟩
 rw[(show dig ("" : Str)=[] by decide +kernel)]at G
 exact q' l us H' s' hl u' G
abbrev nA:Stmt:=top 31
theorem gi:aE ["sheet","told","code","colour","side"] ["sheet"] (aq nA):={}
inductive ou  (vs:List V)(H:Hp)(Q:VK):Prop
 | mk (ps:Addr) (n:Nat) (v:V) (t:Tr) (h_0:vs=[.ref ps]) (h_1:H ps=some (.tup [.int (n:Int),v])) (h_2:bT H v t) (h_3:aP n t) (h_4:n≤40) (h_5:cnt t≤1500) (h_6:∀ l us H',ak H H'→H l=none→H' l=some (.lst us)→eE H' us (jt (sqs [] t 0 0 n))→Q (.ref l) H'):ou  vs H Q
def pV:Sp:=fun vs H Q _=>ou  vs H Q
theorem xl (T:Tx K mg)(Y:Yx K mg)(q:bZ (CXe P w))(F:bu K "touches" "touches" nA f fd .none)(J:Fok P w K mg base (CXe P w) 43 "leaves" ["sheet"] [] kg)(B:Fok P w K mg base (CXe P w) 43 "beyond_leaf" ["sheet","code","side"] [] (gg Y)):
  bA P w K mg base (CXe P w) 44 f fd ["sheet"] pV:=by
 refine F.ok gi (fun vs H Q E h =>?_) (fun d2 A outer s H vs Q E hr h =>?_)
 ·obtain⟨_,_,_,_,rfl,_⟩:=h;rfl
 obtain⟨ps,n,v,t,rfl,a5,ht,gt,hn,hc,q'⟩:=h;refine⟨_,(ac (av (i:=1) gi (aK am)) (ac (aN HK rfl (bU (aj J q hr (aa (pv 0) af))) (iV rfl (aV (o_ (i:=2) gi.nd rfl (Or.inr rfl)) (aV (aR (i:=3) gi) d8))) (ag (aN HK rfl (tJ (aD (ap cq (ap cq am)))) (aR (i:=4) gi) (ag (aW (rZ PySem.F.plainAttrs_list PySem.F.slot_list_extend PySem.F.type_list_extend nO (pv 1) (aa (qu (N':=["other","code"]) ["code"] ["code"] [2] 1 {} (bU (aj B q hr (aa (pv 0) (aa (pv 2) (aa (pv 4) af))))) (fun _ _ _ _ _=>(jM (i:=0))) (fun _ _ _ _ _=>(aD (ap (pv 1) (ap (pv 0) am))))) af))))))) (ag (aA (aB (xK rfl) rfl T.b_sorted sF (aa (pv 1) af)))))),?_⟩
 refine⟨(leZ rfl),nw fun lt H1 b7 s1 u1 =>?_⟩;refine⟨.ref ps,t,n,rfl,⟨ps,v,rfl,s1 _ _ a5,ht.up s1.tups⟩,gt,hn,by lia,fun l us H2 s2 hl u2 a2 =>?_⟩;have ll:=a2.len;have b8:l≠lt:=fun z=>by rw[z,u1]at hl;cases hl
 obtain⟨L,eL⟩:∃ L,L=sqs [] t 0 0 n:=⟨_,rfl⟩;have lc:L.length=cnt t:=by rw[eL];exact fe t [] 0 0 n
 have eS:lvs [] t=L.map fun q=>(q.z,q.c):=by rw[eL];exact gM t [] 0 0 n
 rw[← eL]at q';rw[eS]at a2 ll;rw[Hw]at ll;refine⟨l,rfl,⟨_,SqL.of u2⟩,cE (xs:=us) (fun i σ U=>ak H U∧(∀ b o,b≠lt→H2 b=some o→U b=some o)∧(∃ ts,U lt=some (.lst ts)∧eE U ts ((L.take i).flatMap (gR L))∧ts.length≤i * 3000∧i≤us.length)∧∃ o2 o3 o4:Option V,σ=[some (.ref ps),some (.ref lt),o2,o3,o4]) ⟨s1.trans s2,fun _ _ _ e=>e,⟨[],s2 _ _ u1,.nil,by simp,HE _⟩,none,none,none,rfl⟩ (fun i σ U _ h=>SqL.of (h.2.1 _ _ b8 u2)) ?_ ?_⟩
 ·rintro i u σ U hu ⟨s3,k3,⟨ts,ut,a0,tl,hi⟩,o2,o3,o4,rfl⟩;obtain⟨d3,_⟩:=Hx.mp hu;obtain⟨pq,eq,r,z,rfl,a3,hz,ez,lz,d4⟩:=a2.get hu;rw[Ir]at eq;obtain⟨sq,a6,b9⟩:=Iw.mp eq;have c0:uP sq [] t 0 0 n:=fY t [] 0 0 n gt sq (by rw[← eL];exact HH a6);have c5:r≠lt:=fun q=>by rw[q,s2 _ _ u1]at a3;cases a3
  have c6:dig z=sq.z:=by rw[ez,← b9]
  have c7:txt sq.z=z:=by rw[← c6,oQ hz]
  have eT:(L.take (i + 1)).flatMap (gR L)=(L.take i).flatMap (gR L)++gR L sq:=by
   rw[Ic,a6,Jl];simp
  refine⟨r,_,rfl,SqT.of (k3 _ _ c5 a3),rfl,_,_,rfl,_,_,rfl,rfl,?_⟩;refine⟨(leZ rfl),fun pt a4 =>?_⟩;generalize e4:upd U pt _=H4;have s4:ak U H4:=e4▸ak.new a4 _;have w4:H4 pt=some (.tup [.str "right",.str "down"]):=by rw[← e4];exact ah
  have a7:pt≠lt:=fun q=>by rw[q,ut]at a4;cases a4
  refine⟨pt,rfl,⟨_,SqT.of w4⟩,pF (xs:=[.str "right",.str "down"]) (fun j σ H5=>ak H H5∧(∀ b o,b≠lt→H4 b=some o→H5 b=some o)∧(∃ ts,H5 lt=some (.lst ts)∧eE H5 ts ((L.take i).flatMap (gR L)++(List.range j).flatMap (oD L sq))∧ts.length≤i * 3000 + j * 1500∧j≤2)∧∃ o4:Option V,σ=[some (.ref ps),some (.ref lt),some (.str z),some (.int pq.2),o4]) ⟨s3.trans s4,fun _ _ _ e=>e,⟨ts,s4 _ _ ut,by rw[show (List.range 0).flatMap (oD L sq)=[] from rfl,II];exact a0.up s4.tups,by omega,by decide⟩,_,rfl⟩ (fun j σ H5 _ h=>SqT.of (h.2.1 _ _ a7 w4)) ?_ ?_⟩
  ·rintro j x σ H5 hx ⟨s5,k5,⟨G,a1,O,a8,hj⟩,o4,rfl⟩;obtain⟨d5,a9,b1,b2,dx,dy,rfl,hd,e2,ex,ey⟩:=CV hx;have b0:=s5 _ _ a5;have c8:=ht.up s5.tups;refine⟨.inl ⟨rfl,_,SqL.of a1⟩,[.str z],rfl,ps,n,v,.str a9,t,z,rfl,b0,c8,gt,hn,by lia,hz,by lia,c7▸Cw (K:=K) gt c0 hd e2 ex ey fun lb H6 s6 d6 u6 =>?_⟩;obtain⟨zs,b3⟩:∃ zs,zs=fl (fo (decide (j=1)) false sq) [] t 0 0 n:=⟨_,rfl⟩;rw[← b3]at u6;have ep:zs.map (fun o=>(sq.z,o))=oD L sq j:=by
    rw[b3,nY,IK,← eL];rfl
   have d7:zs.length≤1500:=by
    have h1:=Ij List.length ep;rw[Hw]at h1;have h2:=vC L sq j
    lia
   refine⟨lb,rfl,⟨_,SqL.of u6⟩,lV (zs.map sV) (fun D (k:Nat) ys H'=>ak H6 H'∧H' D=some (.lst ys)∧k≤zs.length∧eE H' ys ((zs.take k).map fun o=>(sq.z,o))) (by rw[Hw];exact big (by lia)) (fun D k ys H' h=>SqL.of (h.1 _ _ u6))
    (fun D k ys H' h=>⟨h.2.1,by rw[h.2.2.2.len,Hw,IC];lia⟩) (fun D hD=>⟨ak.new hD _,ah,HE _,.nil⟩) ?_ ?_ (fun _ _ _ _ _ k h=>k _ _ h) ?_⟩
   ·rintro D k y ys H7 hy hD ⟨c1,c2,c3,c4⟩;rw[Ir]at hy;obtain⟨o,eo,rfl⟩:=Iw.mp hy;refine⟨rfl,(leZ rfl),fun pn c9 =>?_⟩;generalize e8:upd H7 pn _=H8;have s8:ak H7 H8:=e8▸ak.new c9 _;have w8:H8 pn=some (.tup [sV sq.z,sV o]):=by rw[← e8];exact ah
    have uD:=s8 _ _ c2;have b4:=bS.lst (ys:=ys++[V.ref pn]) uD;refine⟨uD,ak.set (c1.trans s8) hD _,ah,(Hx.mp eo).1,?_⟩;rw[Ic,eo,Im];exact (c4.up (s8.tups.trans b4)).app (.cons ⟨pn,rfl,b4 _ _ w8⟩ .nil)
   ·rintro D ys H7 hD ⟨c1,c2,c3,c4⟩;rw[Hw,Jh,ep]at c4;have b5:=(s6.trans c1) _ _ a1;have b6:=bS.lst (ys:=G++ys) b5;have n1:=c4.len;have n2:=vC L sq j;refine⟨lt,D,G,ys,rfl,rfl,b5,c2,He (by lia),ak.set (s5.trans (s6.trans c1)) b7 _,fun b o hb e=>by rw[aH hb];exact (s6.trans c1) _ _ (k5 b o hb e),⟨G++ys,ah,?_,by rw[Hs];lia,by assumption⟩,_,rfl⟩;rw[zK,← HW];exact (O.up ((s6.trans c1).tups.trans b6)).app (c4.up b6)
   ·intro σ H7 R R' k h_;obtain⟨_,g1,h_⟩:=aM h_;obtain⟨_,g2,h_⟩:=aM h_;obtain⟨h3,h4⟩:=h_;exact (bc g1 (bc g2 ⟨h3,fun p hp=>k _ _ (h4 p hp)⟩))
  ·rintro σ H5 ⟨s5,k5,⟨G,a1,O,a8,hj⟩,o4,rfl⟩;have hts5':eE H5 G ((L.take i).flatMap (gR L)++(List.range 2).flatMap (oD L sq)):=O;rw[Bx,← eT]at hts5';have tl5':G.length≤i * 3000 + 2 * 1500:=a8;exact⟨s5,fun b o hb e=>k5 b o hb (s4 _ _ (k3 b o hb e)),⟨G,a1,hts5',by lia,by assumption⟩,_,_,_,rfl⟩
 ·rintro σ U ⟨s3,k3,⟨ts,ut,a0,tl,hi⟩,o2,o3,o4,rfl⟩;rw[HM (by lia)]at a0;obtain⟨as,e1,e2,e3⟩:=vz a0;subst e1;have d0:Prs U true as:=fun b hb=>by
   obtain⟨d,hd⟩:=e3 b hb;exact⟨_,_,hd,_,rfl⟩
  refine⟨lt,true,as,rfl,SqL.of ut,d0,fun S d1 hS pm pw =>?_⟩;have tS:=(ak.new hS (.lst (d1.map V.ref))).tups;have bf:L.Pairwise fS:=eL▸dG t [] 0 0 n gt;have hw:∀ q∈L,0 < q.w:=fun q hq=>(fZ t [] 0 0 n gt q (eL▸hq)).2.2.2.2;have tp:=rT L [] bf hw;exact q' S _ _ (s3.trans (ak.new hS _)) (ak.free s3 hS) ah ((wP e2 e3 pm pw tp (wd bf)).up tS)
end
theorem AD (h:txt a=txt b):a=b:=by
 have:=Ij dig h
 rwa [fQ,fQ]at this
abbrev ky (z:List Nat):Key:=Sum.inr (txt z)
theorem qH (h:ky a=ky b):a=b:=AD (Sum.inr.inj h)
theorem Az {kvs:List (Key × V)}{k:Key}{v:V}:(kvs.map (·.1)).Nodup→(k,v)∈kvs→cm kvs k=some v:=by
 induction kvs with
 | nil=>intro _ h;cases h
 | cons p r ih =>
  intro nd h;rw[Ig,IZ]at nd;rcases HZ.mp h with rfl | h
  ·exact cN rfl
  ·rw[cO fun e=>nd.1 (e▸Hz.mpr ⟨_,h,rfl⟩)];exact ih nd.2 h
def cM (L:List Sq):List (Key × V):=L.map fun q=>(ky q.z,V.int q.c)
theorem sN {L:List Sq}(h:L.Pairwise fS):(L.map (·.z)).Nodup:=by
 unfold List.Nodup;rw[IG];exact h.imp fun h e=>absurd (e▸h.2) (JQ _)
theorem lW {L:List Sq}(h:L.Pairwise fS):((cM L).map (·.1)).Nodup:=by
 unfold cM;rw[IK];have h2:=sN h;unfold List.Nodup at *;rw[IG]at *;exact h2.imp fun h e=>h (qH e)
theorem cj {L:List Sq}(h:L.Pairwise fS){q:Sq}(B:q∈L):cm (cM L) (ky q.z)=some (V.int q.c):=Az (lW h) (Hz.mpr ⟨q,B,rfl⟩)
theorem rO {L:List Sq}(h:L.Pairwise fS){q r:Sq}(O:q∈L)(U:r∈L)(e:q.z=r.z):q=r:=by
 induction L with
 | nil=>cases O
 | cons p L ih =>
  obtain⟨h1,h2⟩:=JF.mp h;rcases HZ.mp O with Y|G
  ·rcases HZ.mp U with J|B
   ·rw[Y,J]
   ·have:=(h1 r B).2
    rw[← Y,e]at this;exact absurd this (JQ _)
  ·rcases HZ.mp U with J|B
   ·have:=(h1 q G).2
    rw[← J,e]at this;exact absurd this (JQ _)
   ·exact ih h2 G B
theorem kw:∀ {L:List Sq} {d:Pr},d∈jt L→∃ q∈L,∃ r∈L,d=(q.z,r.z)∧bp q r=true
 | [],d,h=>by cases h
 | q::L,d,h=>by
  rcases HD.mp h with h|h
  ·obtain⟨r,B,rfl⟩:=Hz.mp h;obtain⟨h1,h2⟩:=Ip.mp B;exact⟨q,HP,r,HF _ h1,rfl,h2⟩
  ·obtain⟨G,J,r,B,e,O⟩:=kw h;exact⟨G,HF _ J,r,HF _ B,e,O⟩
theorem mT:∀ {L:List Sq} {i j:Nat} {q r:Sq},L[i]? = some q→L[j]? = some r→i < j→bp q r=true→(q.z,r.z)∈jt L
 | [],_,_,_,_,h,_,_,_=>by simp at h
 | p::L,0,j + 1,q,r,h1,h2,_,ht=>by
  have e:p=q:=by simpa using h1
  subst e;refine Iv _ (Hz.mpr ⟨r,Ip.mpr ⟨HH (by simpa using h2),ht⟩,rfl⟩)
 | p::L,i + 1,j + 1,q,r,h1,h2,hij,ht=>Ia _ (mT (i:=i) (j:=j) (by simpa using h1) (by simpa using h2) (by lia) ht)
 | p::L,_ + 1,0,_,_,_,_,h,_=>by lia
 | p::L,0,0,_,_,_,_,h,_=>by lia
theorem nK:∀ {us:List V} {M:List (List Nat × Int)},bz H n us M→∃ as:List Addr,us=as.map V.ref∧mZ H as (M.map fun p=>(ky p.1,V.int p.2))
 | _,_,.nil=>⟨[],rfl,.nil⟩
 | _,_,.cons h t=>by
  obtain⟨as,e,k⟩:=nK t;obtain⟨r,z,rfl,B,G,J,O,U⟩:=h;refine⟨r::as,by rw[e];rfl,.cons ?_ k⟩;show H r=some (.tup [.str (txt _),.int _]);rw[← J,oQ G];exact B
structure Aro (H:Hp)(d:Addr)(zs:List (List Nat))(lo:List Nat→Addr)(A:List Nat→List (List Nat)):Prop where
 ex:∃ kvs,H d=some (.dK kvs)∧kvs.length≤zs.length∧(∀ z∈zs,cm kvs (ky z)=some (.ref (lo z)))∧∀ z,z∉zs→cm kvs (ky z)=none
 at_:∀ z∈zs,H (lo z)=some (.lst ((A z).map sV))
 inj:∀ z∈zs,∀ y∈zs,lo z=lo y→z=y
theorem Aro.ne {lo:List Nat→Addr}(h:Aro H d zs lo A)(B:z∈zs):lo z≠d:=fun e=>by
 obtain⟨kvs,h1,_⟩:=h.ex;have h2:=h.at_ z B
 rw[e,h1]at h2;cases h2
theorem Aro.up {lo:List Nat→Addr}(h:Aro H d zs lo A)(s:ak H H'):Aro H' d zs lo A:=by
 obtain⟨kvs,h1,h2,B,G⟩:=h.ex;exact⟨⟨kvs,s _ _ h1,h2,B,G⟩,fun z J=>s _ _ (h.at_ z J),h.inj⟩
theorem Aro.get {lo:List Nat→Addr}(h:Aro H d zs lo A)(B:z∈zs):n8 H d (sV z) (some (.ref (lo z))):=by
 obtain⟨kvs,h1,_,h2,_⟩:=h.ex;rw[← h2 z B];exact n8.k (k:=ky z) h1
def uO (A:List Nat→List (List Nat))(a b:List Nat):List Nat→List (List Nat):=fun z=>if z=a then A z++[b] else A z
theorem Aro.add {lo:List Nat→Addr}(h:Aro H d zs lo A)(B:a∈zs)(b:List Nat):Aro (upd H (lo a) (.lst ((A a).map sV++[sV b]))) d zs lo (uO A a b):=by
 obtain⟨kvs,h1,h2,J,O⟩:=h.ex;refine⟨⟨kvs,by rw[aH (Ne.symm (h.ne B))];exact h1,h2,J,O⟩,fun z G =>?_,h.inj⟩;unfold uO;by_cases e:z=a
 ·subst e;rw[ah,if_pos rfl,Im];rfl
 ·rw[aH fun q=>e (h.inj z G a B q),if_neg e];exact h.at_ z G
theorem Aro.new {lo:List Nat→Addr}(h:Aro H d zs lo (fun _=>[]))(U:H d=some (.dK kvs))(hz:z∉zs)(J:H l=some (.lst []))(Y:∀ y∈zs,lo y≠l):
  Aro (upd H d (.dK (fI kvs (ky z) (.ref l)))) d (zs++[z]) (fun y=>if y=z then l else lo y) (fun _=>[]):=by
 obtain⟨G,h1,h2,h3,h4⟩:=h.ex;have e:G=kvs:=by
  rw[U]at h1;injection h1 with h1;injection h1 with h1;exact h1.symm
 subst e;have O:l≠d:=fun q=>by rw[q,U]at J;cases J
 have a0:∀ y∈zs,y≠z:=fun y B q=>hz (q▸B);refine⟨⟨_,ah,?_,fun y B =>?_,fun y B =>?_⟩,fun y B =>?_,fun y B x hx q =>?_⟩
 ·have:=fq G (ky z) (.ref l)
  rw[Hs,IH]
  lia
 ·rw[pQ];by_cases q:y=z
  ·rw[if_pos (by rw[q]),if_pos q]
  ·rw[if_neg fun c=>q (qH c),if_neg q];rcases HD.mp B with B | B
   ·exact h3 y B
   ·exact absurd (Hv.mp B) q
 ·rw[pQ,if_neg fun c=>B (by rw[qH c];simp)];exact h4 y fun c=>B (Iv _ c)
 ·show upd _ _ _ (if y=z then l else lo y)=_;by_cases q:y=z
  ·rw[if_pos q,aH O];exact J
  ·rw[if_neg q];have hy':y∈zs:=(HD.mp B).elim id fun c=>absurd (Hv.mp c) q;rw[aH (h.ne hy')];exact h.at_ y hy'
 ·by_cases q1:y=z<;>by_cases q2:x=z
  ·rw[q1,q2]
  ·have hx':x∈zs:=(HD.mp hx).elim id fun c=>absurd (Hv.mp c) q2;have q':l=lo x:=by simpa[q1,q2] using q
   exact absurd q'.symm (Y x hx')
  ·have hy':y∈zs:=(HD.mp B).elim id fun c=>absurd (Hv.mp c) q1;have q':lo y=l:=by simpa[q1,q2] using q
   exact absurd q' (Y y hy')
  ·have hx':x∈zs:=(HD.mp hx).elim id fun c=>absurd (Hv.mp c) q2;have hy':y∈zs:=(HD.mp B).elim id fun c=>absurd (Hv.mp c) q1;exact h.inj y hy' x hx' (by simpa[q1,q2] using q)
def gE (kvs:List (Key × V))(d:Pr):Bool:=decide (cm kvs (ky d.1)=cm kvs (ky d.2))
def kJ (B:Pr→Bool)(A:List Nat→List (List Nat))(d:Pr):List Nat→List (List Nat):=if B d=true then uO (uO A d.1 d.2) d.2 d.1 else A
def kT (B:Pr→Bool)(D:List Pr):List Nat→List (List Nat):=D.foldl (kJ B) fun _=>[]
theorem lT (B:Pr→Bool)(D:List Pr)(d:Pr):kT B (D++[d])=kJ B (kT B D) d:=by
 unfold kT;rw[Jy];rfl
def Au (B:Pr→Bool)(D:List Pr)(z z':List Nat):Prop:=∃ d∈D,B d=true∧((z=d.1∧z'=d.2)∨(z=d.2∧z'=d.1))
theorem vQ:z'∈uO A a b z↔z'∈A z∨(z=a∧z'=b):=by
 unfold uO;by_cases e:z=a
 ·rw[if_pos e,HD,Hv];simp[e]
 ·rw[if_neg e];simp[e]
theorem zW:z'∈kJ B A d z↔z'∈A z∨(B d=true∧((z=d.1∧z'=d.2)∨(z=d.2∧z'=d.1))):=by
 unfold kJ;by_cases h:B d=true
 ·rw[if_pos h,vQ,vQ];simp[h,or_assoc]
 ·rw[if_neg h];simp[h]
theorem r9 (B:Pr→Bool):∀ (D:List Pr) (A:List Nat→List (List Nat)) (z z':List Nat),z'∈D.foldl (kJ B) A z↔z'∈A z∨Au B D z z'
 | [],A,z,z'=>by
  unfold Au;simp
 | d::D,A,z,z'=>by
  rw[Kn,r9 B D,zW];unfold Au;simp only[HZ,exists_eq_or_imp,or_assoc]
theorem xu (B:Pr→Bool)(D:List Pr)(z G:List Nat):G∈kT B D z↔Au B D z G:=by
 unfold kT;rw[r9];simp
theorem qZ (A:List Nat→List (List Nat))(a b z:List Nat):(uO A a b z).length≤(A z).length + 1:=by
 unfold uO
 split
 ·rw[Hs,IH];simp
 ·simp
theorem zk (B:Pr→Bool)(A:List Nat→List (List Nat))(d:Pr)(z:List Nat):(kJ B A d z).length≤(A z).length + 2:=by
 unfold kJ
 split
 ·have h1:=qZ (uO A d.1 d.2) d.2 d.1 z;have h2:=qZ A d.1 d.2 z
  lia
 ·simp
section
variable {P:Program}{w:World}{K:PySem.W.Frag}{mg:Str→Option Value}{base:Heap}{CX:CXT}{f:Addr}{fd:FuncData}
abbrev gB:Stmt:=top 33
theorem cA:aE ["sheet","colours","around","code","other"] ["sheet"] (aq gB):={}
inductive iI  (vs:List V)(H:Hp)(Q:VK):Prop
 | mk (ps:Addr) (n:Nat) (v:V) (t:Tr) (h_0:vs=[.ref ps]) (h_1:H ps=some (.tup [.int (n:Int),v])) (h_2:bT H v t) (h_3:aP n t) (h_4:n≤40) (h_5:cnt t≤1500) (h_6:∀ d lo A H',ak H H'→H d=none→Aro H' d ((sqs [] t 0 0 n).map (·.z)) lo A→(∀ z,(A z).length≤4500000)→(∀ z z',z'∈A z↔Au (gE (cM (sqs [] t 0 0 n))) (jt (sqs [] t 0 0 n)) z z')→Q (.ref d) H'):iI  vs H Q
def jh:Sp:=fun vs H Q _=>iI  vs H Q
theorem oI (T:Tx K mg)(q:bZ (CXe P w))(F:bu K "alike_around" "alike_around" gB f fd .none)(U:Fok P w K mg base (CXe P w) 43 "leaves" ["sheet"] [] kg)(J:Fok P w K mg base (CXe P w) 44 "touches" ["sheet"] [] pV):
  bA P w K mg base (CXe P w) 45 f fd ["sheet"] jh:=by
 refine F.ok cA (fun vs H Q E h =>?_) (fun c2 A outer s H vs Q E hr h =>?_)
 ·obtain⟨_,_,_,_,rfl,_⟩:=h;rfl
 obtain⟨ps,n,v,t,rfl,a6,ht,gt,hn,hc,q'⟩:=h;refine⟨_,(ac (av (i:=1) cA (bI (qW rfl) rfl T.b_dict yY (aa (aj U q hr (aa (pv 0) af)) af))) (ac (av (i:=2) cA Bt) (ac (aN HK rfl (Dj (pv 1)) (aR (i:=3) cA) (ag (yk hr.dic (pv 2) (pv 3) (aK am) (ma rfl)))) (ac (aN HK rfl (bU (aj J q hr (aa (pv 0) af))) (iV rfl (aV (aR (i:=3) cA) (aV (aR (i:=4) cA) d8))) (ag (aQ (aF dS (iW hr.dic (pv 1) (pv 3) (fun _ _=>rfl)) (iW hr.dic (pv 1) (pv 4) (fun _ _=>rfl))) (ac (aW (a_ (iW hr.dic (pv 2) (pv 3) (fun _ _=>rfl)) (aa (pv 4) af))) (ag (aW (a_ (iW hr.dic (pv 2) (pv 4) (fun _ _=>rfl)) (aa (pv 3) af))))) aG))) (ag (aA (pv 2))))))),?_⟩;obtain⟨L,eL⟩:∃ L,L=sqs [] t 0 0 n:=⟨_,rfl⟩;have hB:L.Pairwise fS:=by rw[eL];exact dG t [] 0 0 n gt
 have lc:L.length=cnt t:=by rw[eL];exact fe t [] 0 0 n
 have eS:lvs [] t=L.map fun q=>(q.z,q.c):=by rw[eL];exact gM t [] 0 0 n
 refine⟨.ref ps,t,n,rfl,⟨ps,v,rfl,a6,ht⟩,gt,hn,by lia,fun l us H1 s1 hl u1 a7 =>?_⟩;rw[eS]at a7;obtain⟨as,b4,a8⟩:=nK a7;have hpr':mZ H1 as (cM L):=by
  unfold cM;rw[IK]at a8;exact a8
 refine⟨l,as,cM L,rfl,SqL.of (by rw[u1,b4]),hpr',lW hB,nw fun dc H2 b5 s2 u2 =>?_⟩;refine fun Y a3 =>?_;have s3:=ak.new a3 (.dK []);have u3:upd H2 Y (.dK []) Y=some (.dK []):=ah;have u2':=s3 _ _ u2;generalize upd H2 Y (.dK [])=H3 at *;have a9:H Y=none:=(s1.trans s2).free a3;have b6:H dc=none:=s1.free b5;have b0:dc≠Y:=fun q=>by rw[q,a3]at u2;cases u2
 have cl:(cM L).length=L.length:=by unfold cM;rw[Hw]
 obtain⟨zs,a0⟩:∃ zs,zs=L.map (·.z):=⟨_,rfl⟩;have zl:zs.length=L.length:=by rw[a0,Hw]
 have b7:zs.Nodup:=by rw[a0];exact sN hB
 rw[← eL,← a0]at q';refine⟨dc,cM L,rfl,u2',fun ob=>B8 (fun (i:Nat) σ H4=>ak H H4∧H4 dc=some (.frz ob (.dK (cM L)))∧(∃ lo,Aro H4 Y (zs.take i) lo (fun _=>[])∧∀ z∈zs.take i,H (lo z)=none)∧∃ o3:Option V,σ=[some (.ref ps),some (.ref dc),some (.ref Y),o3,none]) ?_ (fun i σ H _ h=>h.2.1) ?_ ?_⟩
 ·refine⟨ak.set ((s1.trans s2).trans s3) b6 _,ah,⟨fun _=>0,⟨⟨[],?_,Ht _,fun z O =>?_,fun z _=>rfl⟩,fun z O =>?_,fun z O =>?_⟩,fun z O =>?_⟩,none,rfl⟩
  ·rw[aH (Ne.symm b0)];exact u3
  all_goals (rw[List.take_zero]at O;cases O)
 ·rintro i k v' σ H4 hk ⟨s4,f4,⟨lo,ar,nw⟩,o3,rfl⟩;unfold cM at hk;rw[Ir]at hk;obtain⟨sq,b8,e⟩:=Iw.mp hk;obtain rfl:k=ky sq.z:=(Ij Prod.fst e).symm;have ez:zs[i]? = some sq.z:=by rw[a0,Ir,b8];rfl
  have et:zs.take (i + 1)=zs.take i++[sq.z]:=by rw[Ic,ez];rfl
  have nz:sq.z∉zs.take i:=fun c=>by
   have h1:=JL.mp (et▸(Ky (i + 1) zs).nodup b7);exact h1.2.2 _ c _ (Hv.mpr rfl) rfl
  refine⟨(leZ rfl),fun l0 a4 =>?_⟩;have s5:=ak.new a4 (.lst []);have u5:upd H4 l0 (.lst []) l0=some (.lst []):=ah;have nl:∀ y∈zs.take i,lo y≠l0:=fun y hy q=>by
   have:=ar.at_ y hy
   rw[q,a4]at this;cases this
  generalize upd H4 l0 (.lst [])=H5 at *;have a1:=ar.up s5;obtain⟨kvs,d5,c1,_⟩:=a1.ex;have c3:kvs.length≤1500:=by
   have:=List.length_take_le i zs
   have:=List.length_take_le' i zs
   lia
  refine⟨Y,_,rfl,Av.k (k:=ky sq.z) d5 (HS (by lia:kvs.length < 5000) (by decide)),?_⟩;refine⟨ak.set (s4.trans s5) a9 _,by rw[aH b0];exact s5 _ _ f4,⟨fun y=>if y=sq.z then l0 else lo y,?_,fun z O =>?_⟩,_,rfl⟩
  ·rw[et];exact a1.new d5 nz u5 nl
  ·rw[et]at O;by_cases q:z=sq.z
   ·show H (if z=sq.z then l0 else lo z)=none;rw[if_pos q];exact s4.free a4
   ·show H (if z=sq.z then l0 else lo z)=none;rw[if_neg q];exact nw z ((HD.mp O).elim id fun c=>absurd (Hv.mp c) q)
 ·rintro σ H4 ⟨s4,f4,⟨lo,ar,nw⟩,o3,rfl⟩;rw[cl,← zl,Jh]at ar nw;refine⟨ps,n,v,t,rfl,s4 _ _ a6,ht.up s4.tups,gt,hn,hc,fun l2 b1 H5 s5 b9 u5 hD=>⟨l2,rfl,⟨_,SqL.of u5⟩,?_⟩⟩;rw[← eL]at hD;have lD:=hD.len;have c4:=wc L;have lq:L.length * L.length≤1500 * 1500:=Jr (by lia) (by lia);have a1:=ar.up s5;have c0:∀ z∈zs,lo z≠l2:=fun z O q=>by
   have:=ar.at_ z O
   rw[q,b9]at this;cases this
  refine cE (xs:=b1) (fun (j:Nat) σ H6=>j≤b1.length∧ak H H6∧(∀ b o,(∀ z∈zs,lo z≠b)→H5 b=some o→H6 b=some o)∧Aro H6 Y zs lo (kT (gE (cM L)) ((jt L).take j))∧(∀ z,(kT (gE (cM L)) ((jt L).take j) z).length≤2 * j)∧∃ o3 o4:Option V,σ=[some (.ref ps),some (.ref dc),some (.ref Y),o3,o4]) ⟨HE _,s4.trans s5,fun _ _ _ e=>e,a1,fun z=>Ht _,_,_,rfl⟩ (fun i σ H6 hi h=>SqL.of (h.2.2.1 _ _ c0 u5)) ?_ ?_
  ·rintro j u σ H6 hu ⟨_,s6,k6,G,B,o3,o4,rfl⟩;obtain⟨d,ed,p,rfl,hp⟩:=hD.get hu;obtain⟨b2,_⟩:=Hx.mp hu;obtain⟨q,hq,r,a5,rfl,tq⟩:=kw (HH ed);have et:(jt L).take (j + 1)=(jt L).take j++[(q.z,r.z)]:=by rw[Ic,ed];rfl
   have b3:∀ {b:Addr} {xs:List V},H5 b=some (.tup xs)→∀ z∈zs,lo z≠b:=fun {b xs} hb z O c=>by
    have:=a1.at_ z O
    rw[c,hb]at this;cases this
   have zq:q.z∈zs:=by rw[a0];exact Hz.mpr ⟨q,hq,rfl⟩
   have zr:r.z∈zs:=by rw[a0];exact Hz.mpr ⟨r,a5,rfl⟩
   have f6:H6 dc=some (.frz ob (.dK (cM L))):=k6 _ _ (fun z O c=>by
    have:=a1.at_ z O
    rw[c,s5 _ _ f4]at this;cases this) (s5 _ _ f4)
   have gq:∀ {x:Sq},x∈L→n8 H6 dc (sV x.z) (some (.int x.c)):=fun {x} hx=>.inl ⟨cM L,ky x.z,.inr ⟨ob,f6⟩,rfl,(cj hB hx).symm⟩;have lk:gE (cM L) (q.z,r.z)=decide (V.int q.c=V.int r.c):=by
    unfold gE;rw[cj hB hq,cj hB a5];simp
   refine⟨p,_,rfl,SqT.of (k6 _ _ (b3 hp) hp),rfl,_,_,rfl,_,_,rfl,rfl,?_⟩;have sl:∀ z,(kJ (gE (cM L)) (kT (gE (cM L)) ((jt L).take j)) (q.z,r.z) z).length≤2 * (j + 1):=fun z=>by
    have h1:=zk (gE (cM L)) (kT (gE (cM L)) ((jt L).take j)) (q.z,r.z) z;have h2:=B z
    lia
   rw[← lT,← et]at sl;refine⟨dc,.int q.c,rfl,gq hq,dc,.int r.c,rfl,gq a5,rfl,az (aY (fun c =>?_) (fun c =>?_))⟩
   ·have c':gE (cM L) (q.z,r.z)=true:=lk.trans c;have l1:=B q.z;refine⟨Y,_,rfl,G.get zq,.inl ⟨rfl,_,SqL.of (G.at_ _ zq)⟩,lo q.z,_,_,rfl,rfl,G.at_ _ zq,?_,?_⟩
    ·rw[Hw];exact HS (by lia:_ < 5000000) (by decide)
    have a2:=G.add zq r.z;have l2:=qZ (kT (gE (cM L)) ((jt L).take j)) q.z r.z r.z;have l3:=B r.z;refine⟨Y,_,rfl,a2.get zr,.inl ⟨rfl,_,SqL.of (a2.at_ _ zr)⟩,lo r.z,_,_,rfl,rfl,a2.at_ _ zr,?_,?_⟩
    ·rw[Hw];exact HS (by lia:_ < 5000000) (by decide)
    refine⟨b2,ak.set (ak.set s6 (nw _ zq) _) (nw _ zr) _,fun b o hb h5 =>?_,?_,sl,_,_,rfl⟩
    ·rw[aH (Ne.symm (hb _ zr)),aH (Ne.symm (hb _ zq))];exact k6 b o hb h5
    ·rw[et,lT];unfold kJ;rw[if_pos c'];exact a2.add zr q.z
   ·have c':¬ gE (cM L) (q.z,r.z)=true:=fun h=>c (lk.symm.trans h);refine⟨b2,s6,k6,?_,sl,_,_,rfl⟩;rw[et,lT];unfold kJ;rw[if_neg c'];exact G
  ·rintro σ H6 ⟨_,s6,k6,G,B,o3,o4,rfl⟩;rw[HM (by lia)]at G B;refine (q' Y lo _ H6 s6 a9 G (fun z =>?_) fun z z'=>xu _ _ z z')
   have:=B z
   lia
end
abbrev Mem:Type:=List Nat × Option (List Nat)
def add1 (c:List Nat)(M:List Mem)(o:List Nat):List Mem:=if o∈M.map (·.1) then M else M++[(o,some c)]
def rM (A:List Nat→List (List Nat))(M:List Mem)(c:List Nat):List Mem:=(A c).foldl (add1 c) M
def aZ (A:List Nat→List (List Nat))(z:List Nat):Nat→List Mem
 | 0=>[(z,none)]
 | k + 1=>match (aZ A z k)[k]? with
  | none=>aZ A z k
  | some m=>rM A (aZ A z k) m.1
theorem xY:∀ {l m:List (List Nat)},l.Nodup→(∀ x∈l,x∈m)→l.length≤m.length
 | [],_,_,_=>HE _
 | a::l,m,nd,h=>by
  obtain⟨h1,h2⟩:=IZ.mp nd;have B:=h a HP;have J:=xY (l:=l) (m:=m.erase a) h2 fun x G=>(List.mem_erase_of_ne (fun e:x=a=>h1 (by rw[← e];exact G))).mpr (h x (HF _ G))
  have:=List.length_erase_of_mem B
  have:=J0 B
  rw[HX]
  lia
structure BI (zs:List (List Nat))(M:List Mem):Prop where
 nd:(M.map (·.1)).Nodup
 sub:∀ m∈M,m.1∈zs
theorem BI.len (h:BI zs M):M.length≤zs.length:=by
 have:=xY h.nd (m:=zs) fun x B=>by
  obtain⟨m,G,rfl⟩:=Hz.mp B;exact h.sub m G
 rwa [Hw]at this
theorem BI.add1 (h:BI zs M)(J:o∈zs):BI zs (add1 c M o):=by
 unfold Qs.add1
 split
 ·exact h
 ·rename_i hn
  refine⟨?_,fun m B =>?_⟩
  ·rw[Im];exact JL.mpr ⟨h.nd,by simp,fun a O b U e=>hn (by
    have G:b=o:=Hv.mp U;rw[← G,← e];exact O)⟩
  ·rcases HD.mp B with B|B
   ·exact h.sub m B
   ·rw[Hv.mp B];exact J
theorem BI.fold:∀ {os:List (List Nat)} {M:List Mem},BI zs M→(∀ o∈os,o∈zs)→BI zs (os.foldl (Qs.add1 c) M)
 | [],_,h,_=>h
 | o::os,M,h,ho=>BI.fold (os:=os) (h.add1 (c:=c) (ho o HP)) fun x B=>ho x (HF _ B)
theorem BI.bfs (J:∀ z∈zs,∀ y∈A z,y∈zs)(O:z∈zs):∀ k,BI zs (aZ A z k)
 | 0=>⟨by simp[aZ],fun m B=>by rw[Hv.mp B];exact O⟩
 | k + 1=>by
  have G:=BI.bfs J O k;unfold aZ
  split
  ·exact G
  ·rename_i m B
   exact G.fold (J _ (G.sub m (HH B)))
theorem Bn (c:List Nat)(M:List Mem)(o:List Nat):M <+: add1 c M o:=by
 unfold add1
 split
 ·exact KL
 ·exact List.prefix_append _ _
theorem BQ (c:List Nat)(M:List Mem)(o:List Nat):o∈(add1 c M o).map (·.1):=by
 unfold add1
 split
 ·assumption
 ·simp
theorem qr (c:List Nat):∀ (os:List (List Nat)) (M:List Mem),M <+: os.foldl (add1 c) M
 | [],M=>KL
 | o::os,M=>(Bn c M o).trans (qr c os _)
theorem v9 (c:List Nat):∀ (os:List (List Nat)) (M:List Mem),∀ o∈os,o∈(os.foldl (add1 c) M).map (·.1)
 | [],_,o,h=>by cases h
 | p::os,M,o,h=>by
  rcases HZ.mp h with rfl|h
  ·exact (List.IsPrefix.subset ((qr c os (add1 c M o)).map _)) (BQ c M o)
  ·exact v9 c os _ o h
theorem uK (A:List Nat→List (List Nat))(z:List Nat)(k:Nat):aZ A z k <+: aZ A z (k + 1):=by
 show _ <+: match (aZ A z k)[k]? with | none=>aZ A z k | some m=>rM A (aZ A z k) m.1
 split
 ·exact KL
 ·exact qr _ _ _
theorem qY (A:List Nat→List (List Nat))(z:List Nat):∀ (k i:Nat) (m:Mem),i < k→(aZ A z k)[i]? = some m→∀ y∈A m.1,y∈(aZ A z k).map (·.1)
 | 0,i,m,h,_,_,_=>by lia
 | k + 1,i,m,h,hm,y,hy=>by
  have pre:=uK A z k;have sub:=List.IsPrefix.subset (pre.map (·.1));by_cases hi:i < k
  ·cases e:(aZ A z k)[i]? with
   | some m' =>
    have:(aZ A z (k + 1))[i]? = some m':=by
     obtain⟨t,G⟩:=pre;rw[← G,Iq (Hx.mp e).1];exact e
    rw[this]at hm;cases hm;exact sub (qY A z k i m hi e y hy)
   | none =>
    have O:(aZ A z k).length≤i:=Jt.mp e;have U:(aZ A z k)[k]? = none:=Jt.mpr (by lia);have B:aZ A z (k + 1)=aZ A z k:=by
     show (match (aZ A z k)[k]? with | none=>aZ A z k | some m=>rM A (aZ A z k) m.1)=_;rw[U]
    rw[B,e]at hm;cases hm
  ·have J:i=k:=by lia
   subst J;cases e:(aZ A z i)[i]? with
   | none =>
    have B:aZ A z (i + 1)=aZ A z i:=by
     show (match (aZ A z i)[i]? with | none=>aZ A z i | some m=>rM A (aZ A z i) m.1)=_;rw[e]
    rw[B,e]at hm;cases hm
   | some m' =>
    have B:aZ A z (i + 1)=rM A (aZ A z i) m'.1:=by
     show (match (aZ A z i)[i]? with | none=>aZ A z i | some m=>rM A (aZ A z i) m.1)=_;rw[e]
    have:(aZ A z (i + 1))[i]? = some m':=by
     obtain⟨t,G⟩:=pre;rw[← G,Iq (Hx.mp e).1];exact e
    rw[this]at hm;cases hm;rw[B];exact v9 _ _ _ y hy
theorem sK (A:List Nat→List (List Nat))(z:List Nat)(S:List Nat→Prop)(U:S z)(Y:∀ x y,S x→y∈A x→S y):∀ k,∀ m∈aZ A z k,S m.1
 | 0,m,B=>by rw[Hv.mp B];exact U
 | k + 1,m,B=>by
  have O:=sK A z S U Y k;have hm':m∈match (aZ A z k)[k]? with | none=>aZ A z k | some m=>rM A (aZ A z k) m.1:=B
  cases e:(aZ A z k)[k]? with
  | none=>rw[e]at hm';exact O m hm'
  | some c =>
   rw[e]at hm';have hc:=O c (HH e);have go:∀ (os:List (List Nat)) (M:List Mem),(∀ m∈M,S m.1)→(∀ o∈os,S o)→∀ m∈os.foldl (add1 c.1) M,S m.1:=by
    intro os
    induction os with
    | nil=>intro M G _;exact G
    | cons o os ihh =>
     intro M G J;refine ihh _ (fun m B =>?_) fun x hx=>J x (HF _ hx);unfold add1 at B
     split at B
     ·exact G m B
     ·rcases HD.mp B with B|B
      ·exact G m B
      ·rw[Hv.mp B];exact J o HP
   exact go (A c.1) _ O (fun o J=>Y _ _ hc J) m hm'
theorem wA (A:List Nat→List (List Nat))(z:List Nat):∀ k,(aZ A z k)[0]? = some (z,none)
 | 0=>rfl
 | k + 1=>by
  obtain⟨t,G⟩:=uK A z k;have B:=wA A z k;rw[← G,Iq (Hx.mp B).1];exact B
def G7:Option (List Nat)→V
 | none=>.non
 | some c=>sV c
def Hk (H:Hp)(u:V)(m:Mem):Prop:=∃ p,u=.ref p∧H p=some (.tup [sV m.1,G7 m.2])
abbrev q_ (H:Hp):List V→List Mem→Prop:=Paired (Hk H)
theorem q_.up (h:q_ H us M)(s:bS H H'):q_ H' us M:=Paired.mapP h fun _ _ ⟨p,e,B⟩=>⟨p,e,s _ _ B⟩
theorem bJ:∀ {l:List α} {r:List β} {i:Nat} {x:α},Paired F l r→l[i]? = some x→∃ y,r[i]? = some y∧F x y
 | _::_,_::_,0,_,.cons h _,e=>⟨_,rfl,by cases e;exact h⟩
 | _::_,_::_,i + 1,_,.cons _ h,e=>bJ (i:=i) h e
 | [],[],i,_,.nil,e=>by simp at e
theorem cI (h:Paired F l1 r1)(k:Paired F l2 r2):Paired F (l1++l2) (r1++r2):=by
 induction h with
 | nil=>exact k
 | cons p _ ih=>exact .cons p ih
theorem cZ (h:H a=some o)(n:∀ xs,o≠.tup xs):bS H (upd H a o'):=fun b xs e=>by
 rw[aH fun q=>n xs (by rw[q,h]at e;exact Option.some.inj e)];exact e
def Met (H:Hp)(d:Addr)(S:List (List Nat)):Prop:=∃ kvs,H d=some (.dK kvs)∧kvs.length≤S.length∧∀ y,(cm kvs (ky y)).isSome=true↔y∈S
theorem Met.up (h:Met H d S)(s:ak H H'):Met H' d S:=by
 obtain⟨kvs,h1,h2⟩:=h;exact⟨kvs,s _ _ h1,h2⟩
theorem Met.put (B:kvs.length≤S.length)(h:∀ y,(cm kvs (ky y)).isSome=true↔y∈S)(z:List Nat)(v:V):Met (upd H d (.dK (fI kvs (ky z) v))) d (S++[z]):=by
 refine⟨_,ah,?_,fun y =>?_⟩
 ·have:=fq kvs (ky z) v
  rw[Hs,IH]
  lia
 ·rw[pQ,HD,Hv];by_cases q:y=z
  ·rw[if_pos (by rw[q])];simp[q]
  ·rw[if_neg fun c=>q (qH c),h y];simp[q]
section
variable {P:Program}{w:World}{K:PySem.W.Frag}{mg:Str→Option Value}{base:Heap}{CX:CXT}{f:Addr}{fd:FuncData}
abbrev gw:Stmt:=top 34
theorem bY:aE ["around","first","members","met","at","code","other"] ["around","first"] (aq gw):={}
inductive iE  (vs:List V)(H:Hp)(Q:VK):Prop
 | mk (d:Addr) (z:List Nat) (zs:List (List Nat)) (lo:List Nat→Addr) (A:List Nat→List (List Nat)) (h_0:vs=[.ref d,sV z]) (h_1:Aro H d zs lo A) (h_2:z∈zs) (h_3:zs.length≤1500) (h_4:(∀ z∈zs,∀ y∈A z,y∈zs)) (h_5:(∀ z,(A z).length≤4500000)) (h_6:∀ l us k H',ak H H'→H l=none→H' l=some (.lst us)→q_ H' us (aZ A z k)→(aZ A z k).length=k→Q (.ref l) H'):iE  vs H Q
def jf:Sp:=fun vs H Q _=>iE  vs H Q
theorem oG (T:Tx K mg)(F:bu K "members_from" "members_from" gw f fd .none):bA P w K mg base CX 1 f fd ["around","first"] jf:=by
 refine F.ok bY (fun vs H Q E h =>?_) (fun b7 A outer s H vs Q E hr h =>?_)
 ·obtain⟨_,_,_,_,_,rfl,_⟩:=h;rfl
 obtain⟨d,z,zs,lo,A,rfl,ar,hz,zl,hA,b8,q'⟩:=h;refine⟨_,(ac (av (i:=2) bY (aK (ap (aD (ap (pv 1) (ap xi am))) am))) (ac (av (i:=3) bY (Bu (pv 1) dC)) (ac (av (i:=4) bY ae) (ac (jL HK (aF eK (pv 4) (aB bC rfl T.b_len cR (aa (pv 2) af))) (ac (av (i:=5) bY (au aw (au bj (pv 2) (pv 4)) ae)) (ac (aN HK rfl (bU (iW hr.dic (pv 0) (pv 5) (fun _ _=>rfl))) (aR (i:=6) bY) (ag (aQ (aF (zM hr.dic) (pv 6) (pv 3) (by with_unfolding_all rfl)) (ac (yk hr.dic (pv 3) (pv 6) dC (ma rfl)) (ag (aW (a_ (pv 2) (aa (aD (ap (pv 6) (ap (pv 5) am))) af))))) aG))) (ag (av (i:=4) bY (ai aI (pv 4) ae)))))) (ag (aA (pv 2))))))),?_⟩;refine⟨(leZ rfl),fun p0 a8 =>?_⟩;generalize e1:upd H p0 _=H1;have s1:ak H H1:=e1▸ak.new a8 _;have w1:H1 p0=some (.tup [sV z,.non]):=by rw[← e1];exact ah
 refine⟨(leZ rfl),fun U a1 =>?_⟩;generalize e2:upd H1 U _=H2;have s2:ak H1 H2:=e2▸ak.new a1 _;have w2:H2 U=some (.lst [.ref p0]):=by rw[← e2];exact ah
 have a2:H U=none:=s1.free a1;have a3:=s1.trans s2;refine fun J a0=>⟨ah,[(ky z,.bl true)],rfl,(by show 1≤15;decide),?_⟩;generalize e3:upd (upd H2 J _) J _=H3;have s3:ak H2 H3:=e3▸ak.set (ak.new a0 _) a0 _;have w3:H3 J=some (.dK [(ky z,.bl true)]):=by rw[← e3];exact ah
 have a9:H J=none:=a3.free a0;have b0:=a3.trans s3;refine⟨fun m σ H4=>∃ (k:Nat) (us:List V) (o5 o6:Option V),m=1501 - k∧ak H H4∧H4 U=some (.lst us)∧q_ H4 us (aZ A z k)∧Met H4 J ((aZ A z k).map (·.1))∧k≤us.length∧σ=[some (.ref d),some (sV z),some (.ref U),some (.ref J),some (.int (k:Int)),o5,o6],⟨_,0,[.ref p0],none,none,rfl,b0,s3 _ _ w2,.cons ⟨p0,rfl,(s2.trans s3) _ _ w1⟩ .nil,⟨_,w3,Ht _,fun y =>?_⟩,HE _,rfl⟩,?_⟩
 ·show (cm [(ky z,V.bl true)] (ky y)).isSome=true↔y∈[z];rw[Hv];by_cases q:z=y
  ·rw[cN (by rw[q])];simp[q]
  ·rw[cO fun c=>q (qH c),Ay];simp[Ne.symm q]
 rintro m σ H4 ⟨k,us,o5,o6,rfl,s4,u4,hM,hm,hk,rfl⟩;have bi:=BI.bfs hA hz k;have lM:=Paired.length hM;have ll:=bi.len;refine⟨_,_,rfl,.inl ⟨_,SqL.of u4,rfl⟩,bE (az (aY (fun c =>?_) (fun c =>?_)))⟩
 rotate_left
 ·have c':¬ (k:Int) < (us.length:Int):=fun h=>c (Hr h);exact (q' U us k H4 s4 a2 u4 hM (by lia))
 have c':(k:Int) < (us.length:Int):=HG c;have b1:k < us.length:=by lia
 obtain⟨u,hu⟩:∃ u,us[k]? = some u:=⟨us[k],HU b1⟩;obtain⟨B,em,p,rfl,hp⟩:=bJ hM hu;have hc:=bi.sub B (HH em);have eb:aZ A z (k + 1)=rM A (aZ A z k) B.1:=by
  show (match (aZ A z k)[k]? with | none=>aZ A z k | some m=>rM A (aZ A z k) m.1)=_;rw[em]
 refine⟨fun σ' O=>∃ (us:List V) (o5 o6:Option V),ak H O∧O U=some (.lst us)∧q_ O us (aZ A z (k + 1))∧Met O J ((aZ A z (k + 1)).map (·.1))∧k + 1≤us.length∧σ'=[some (.ref d),some (sV z),some (.ref U),some (.ref J),some (.int ((k + 1:Nat):Int)),o5,o6],fun σ' O ⟨b2,o5,o6,h1,h2,h3,h4,h5,h6⟩=>⟨1501 - (k + 1),by lia,k + 1,b2,o5,o6,rfl,h1,h2,h3,h4,h5,h6⟩,?_⟩;refine⟨U,us,_,_,rfl,rfl,SqL.of u4,bD hu,p,_,0,_,rfl,rfl,SqT.of hp,rfl,?_⟩;have a4:∀ {H':Hp},ak H H'→H' (lo B.1)=some (.lst ((A B.1).map sV)):=fun s=>s _ _ (ar.at_ _ hc);refine⟨d,_,rfl,(ar.up s4).get hc,lo B.1,rfl,⟨_,SqL.of (a4 s4)⟩,cE (xs:=(A B.1).map sV) (fun (j:Nat) σ O=>j≤(A B.1).length∧ak H O∧∃ (G:List V) (o6:Option V),O U=some (.lst G)∧q_ O G (((A B.1).take j).foldl (add1 B.1) (aZ A z k))∧Met O J ((((A B.1).take j).foldl (add1 B.1) (aZ A z k)).map (·.1))∧us.length≤G.length∧σ=[some (.ref d),some (sV z),some (.ref U),some (.ref J),some (.int (k:Int)),some (sV B.1),o6])
  ⟨HE _,s4,us,_,u4,hM,hm,Ht _,rfl⟩ (fun i σ O _ h=>SqL.of (a4 h.2.1)) ?_ ?_⟩
 ·rintro j x σ O hx ⟨_,s5,G,o6,u5,Y,⟨kvs,d5,l5,m5⟩,a5,rfl⟩;rw[Ir]at hx;obtain⟨o,eo,rfl⟩:=Iw.mp hx;obtain⟨hj,_⟩:=Hx.mp eo;have et:(A B.1).take (j + 1)=(A B.1).take j++[o]:=by rw[Ic,eo];rfl
  have ef:((A B.1).take (j + 1)).foldl (add1 B.1) (aZ A z k)=add1 B.1 (((A B.1).take j).foldl (add1 B.1) (aZ A z k)) o:=by rw[et,Jy];rfl
  have b3:BI zs (((A B.1).take j).foldl (add1 B.1) (aZ A z k)):=bi.fold fun o ho=>hA _ hc o (I9 ho);have b9:=b3.len;have c0:=Paired.length Y;rw[Hw]at l5;rw[ef];generalize ((A B.1).take j).foldl (add1 B.1) (aZ A z k)=M5 at *;refine⟨J,_,rfl,n8.k (k:=ky o) d5,az (aY (fun c1 =>?_) (fun c1 =>?_))⟩
  ·have c1':(!(cm kvs (ky o)).isSome)=true:=c1;have b4:o∉M5.map (·.1):=fun h=>by
    rw[(m5 o).mpr h]at c1';cases c1'
   have ea:add1 B.1 M5 o=M5++[(o,some B.1)]:=by unfold add1;rw[if_neg b4]
   refine⟨J,_,rfl,Av.k (k:=ky o) d5 (HS (by lia:kvs.length < 5000) (by decide)),?_⟩;have a6:U≠J:=fun q=>by rw[q,d5]at u5;cases u5
   have t6:bS O (upd O J (.dK (fI kvs (ky o) (.bl true)))):=cZ d5 (by intro xs q;cases q);have s6:ak H (upd O J (.dK (fI kvs (ky o) (.bl true)))):=ak.set s5 a9 _;have u6:upd O J (.dK (fI kvs (ky o) (.bl true))) U=some (.lst G):=by rw[aH a6];exact u5
   have m6:Met (upd O J (.dK (fI kvs (ky o) (.bl true)))) J (M5.map (·.1)++[o]):=Met.put (by rw[Hw];exact l5) m5 o _;generalize upd O J (.dK (fI kvs (ky o) (.bl true)))=H6 at *;refine⟨.inl ⟨rfl,_,SqL.of u6⟩,(leZ rfl),fun pn b5 =>?_⟩;generalize e7:upd H6 pn _=H7;have s7:ak H6 H7:=e7▸ak.new b5 _;have w7:H7 pn=some (.tup [sV o,sV B.1]):=by rw[← e7];exact ah
   have u7:=s7 _ _ u6;have m7:=m6.up s7;refine⟨U,G,_,rfl,rfl,u7,HS (by lia:G.length < 5000) (by decide),?_⟩;have t8:bS H7 (upd H7 U (.lst (G++[.ref pn]))):=cZ u7 (by intro xs q;cases q);rw[ea];refine⟨hj,ak.set (s6.trans s7) a2 _,G++[.ref pn],_,ah,cI (Y.up (t6.trans (s7.tups.trans t8))) (.cons ⟨pn,rfl,t8 _ _ w7⟩ .nil),?_,by rw[Hs];lia,rfl⟩;obtain⟨kv,g1,g2,g3⟩:=m7;refine⟨kv,by rw[aH (Ne.symm a6)];exact g1,?_,fun y =>?_⟩
   ·rw[Im];exact g2
   ·rw[g3,Im];rfl
  ·have c1':¬ (!(cm kvs (ky o)).isSome)=true:=c1;have b6:o∈M5.map (·.1):=(m5 o).mp (by
    cases hh:(cm kvs (ky o)).isSome with
    | true=>rfl
    | false=>rw[hh]at c1';exact absurd rfl c1')
   have ea:add1 B.1 M5 o=M5:=by unfold add1;rw[if_pos b6]
   rw[ea];exact⟨hj,s5,G,_,u5,Y,⟨kvs,d5,by rw[Hw];exact l5,m5⟩,a5,rfl⟩
 ·rintro σ O ⟨_,s5,G,o6,u5,Y,a7,a5,rfl⟩;rw[Hw,Jh]at Y a7;refine⟨G,_,_,s5,u5,?_,?_,by lia,rfl⟩
  ·rw[eb];exact Y
  ·rw[eb];exact a7
theorem Eb (h:∀ k,(aZ A z k).length≤N):∃ k,k≤N∧(aZ A z k).length=k:=by
 have go:∀ j,(∃ k,k≤j∧(aZ A z k).length=k)∨j < (aZ A z j).length:=by
  intro j
  induction j with
  | zero=>exact .inr Nat.zero_lt_one
  | succ j B =>
   rcases B with⟨k,G,e⟩|B
   ·exact .inl ⟨k,by lia,e⟩
   ·have:=(uK A z j).length_le
    by_cases e:(aZ A z (j + 1)).length=j + 1
    ·exact .inl ⟨j + 1,Ht _,e⟩
    ·exact .inr (by lia)
 rcases go N with h1|h1
 ·exact h1
 ·have:=h N
  lia
theorem wz (h:(aZ A z k).length=k):∀ j,aZ A z (k + j)=aZ A z k
 | 0=>rfl
 | j + 1=>by
  have B:=wz h j;show (match (aZ A z (k + j))[k + j]? with | none=>aZ A z (k + j) | some m=>rM A (aZ A z (k + j)) m.1)=_;rw[B,Jt.mpr (by lia)]
@[irreducible] def nQ (A:List Nat→List (List Nat)) (z:List Nat):List Mem:=aZ A z 1500
theorem yw (h:(aZ A z k).length=k)(B:k≤1500):nQ A z=aZ A z k:=by
 unfold nQ
 have:=wz h (1500 - k)
 rwa [show k + (1500 - k)=1500 by lia]at this
end
def suf (z:Str)(k:Nat):Str:=⟨(z.cps.toList.drop k).toArray⟩
theorem zn {z:Str}{k:Nat}(h:k≤z.length):Txt.slice z (some (k:Int)) none=suf z k:=by
 have e:=PyProof.Rows.slice_closes_from (x:=z) (i:=(k:Int)) ⟨by simp,by rw[← de];lia⟩;rw[beq_iff_eq]at e;rw[e];unfold suf
 congr 2
 rw[Iy,HM];rw[Ji,← de];simp
theorem CO (z:Str)(k:Nat):(suf z k).length=z.length - k:=by rw[de,de];simp[suf]
theorem CP (h:IsC z)(k:Nat):IsC (suf z k):=fun c B=>h c (by
 have hc':c∈z.cps.toList.drop k:=by simpa[suf] using B
 exact JN hc')
theorem wR (z:Str)(k:Nat):Txt.slice z (some (k:Int)) none=suf z k:=by
 by_cases h:k≤z.length
 ·exact zn h
 ·have e:Builtin.Str.strSliceIndices (some (k:Int)) none 1 z.length=[]:=by
   unfold Builtin.Str.strSliceIndices;dsimp only;unfold sliceRange;have h1:¬ (k:Int) < 0:=by simp
   have h2:max (0:Int) (min (k:Int) (z.length:Int))=(z.length:Int):=by lia
   simp only[show (1:Int) > 0 by decide,if_true,h1,if_false,h2];rw[if_neg (by simp)]
   first | rfl | simp
  unfold Txt.slice;rw[e];refine ke ?_;unfold suf;rw[Jm (by rw[← de];lia)];by_cases h0:z.length=0
  ·rw[pT.mpr h0];decide +kernel
  ·first | rw[if_neg (by simp;lia)] | skip
   first | rfl | simp
theorem E9 (ds:List Nat):((ds.map one).map (·.length)).sum=ds.length:=by
 induction ds with
 | nil=>rfl
 | cons d r ih =>
  rw[Ig,Ig,KA,ih,HX];show 1 + _=_
  lia
def mw (ds:List Nat):List V:=ds.map fun d=>V.str (one d)
section
variable {P:Program}{w:World}{K:PySem.W.Frag}{mg:Str→Option Value}{base:Heap}{CX:CXT}{f:Addr}{fd:FuncData}
abbrev qf:Stmt:=top 43
theorem zC:aE ["_law_script","_law_k"] ["_law_script","_law_k"] (aq qf):={}
inductive re  (K:PySem.W.Frag)(vs:List V)(H:Hp)(Q:VK):Prop
 | mk (a:Addr) (ns:List Int) (k:Nat) (h_0:vs=[.ref a,.int k]) (h_1:SqL K H a (ns.map V.int)) (h_2:ns.length≤63) (h_3:Q (.int (cell ns k)) H):re K vs H Q
def iq  (K:PySem.W.Frag):Sp:=fun vs H Q _=>re K vs H Q
theorem zP (T:Tx K mg)(F:bu K "_law_at" "_law_at" qf f fd .none):bA P w K mg base CX 1 f fd ["_law_script","_law_k"] (iq K):=by
 refine F.ok zC (fun vs H Q E h =>?_) (fun O A outer s H vs Q E Y h =>?_)
 ·obtain⟨_,_,_,rfl,_⟩:=h;rfl
 obtain⟨a,B,k,rfl,J,hl,G⟩:=h;refine⟨_,(ac (aQ (aF eK (pv 1) (aB bC rfl T.b_len cR (aa (pv 0) af))) (ag (aA (au bj (pv 0) (pv 1)))) aG) (ag (aA ae))),?_⟩;refine⟨_,_,rfl,.inl ⟨_,J,rfl⟩,bE (az (aY (fun c =>?_) (fun c =>?_)))⟩
 ·have c':(k:Int) < (((B.map V.int).length:Nat):Int):=HG c;rw[Hw]at c';have U:k < B.length:=by lia
  have e:(B.map V.int)[k]? = some (.int (cell B k)):=by simp[cell,U]
  exact⟨a,_,_,_,rfl,rfl,J,bD e,G⟩
 ·have c':¬ (k:Int) < (((B.map V.int).length:Nat):Int):=fun z=>c (Hr z);rw[Hw]at c';have e:cell B k=0:=by
   have:B[k]? = none:=List.getElem?_eq_none (by lia)
   simp[cell,this]
  rw[e]at G;exact G
abbrev lJ:Stmt:=top 44
theorem fj:aE ["_law_cell","_law_size","_law_signs","_law_rest","_law_k"] ["_law_cell","_law_size"] (aq lJ):={}
inductive ng  (vs:List V)(H:Hp)(Q:VK):Prop
 | mk (c:Int) (n:Nat) (h_0:vs=[.int c,.int n]) (h_1:n≤64) (h_2:∀ ds H',ds.length=n→(∀ d∈ds,d < 4)→ak H H'→Q (.str (txt ds)) H'):ng  vs H Q
def og:Sp:=fun vs H Q _=>ng  vs H Q
theorem zt (ds:List Nat):(mw ds).length=ds.length:=Hw _
theorem vJ (T:Tx K mg)(F:bu K "_law_code" "_law_code" lJ f fd .none):bA P w K mg base CX 1 f fd ["_law_cell","_law_size"] og:=by
 refine F.ok fj (fun vs H Q E h =>?_) (fun U A outer s H vs Q E hr h =>?_)
 ·obtain⟨_,_,rfl,_⟩:=h;rfl
 obtain⟨c,n,rfl,hn,Y⟩:=h;refine⟨_,(ac (av (i:=2) fj (aK am)) (ac (av (i:=3) fj (pv 0)) (ac (aN HK rfl (bQ rfl T.b_range (aa (pv 1) af)) (aR (i:=4) fj) (ac (aW (a_ (pv 2) (aa (au jR cq (ai aL (ai aI (pv 3) (ai cQ (pv 4) (ai aL (pv 0) ae))) ae)) af))) (ag (av (i:=3) fj (ai aJ (pv 3) ae))))) (ag (aA (rZ PySem.F.plainAttrs_str PySem.F.slot_str_join PySem.F.type_str_join DC cq (aa (pv 2) af))))))),?_⟩;refine⟨(leZ rfl),fun l hl =>?_⟩;refine ?_;refine⟨_,rfl,by simp,by lia,bV (fun i σ H2=>∃ (ds:List Nat) (rest:Int) (v:Option V),ds.length=i∧(∀ d∈ds,d < 4)∧σ=[some (.int c),some (.int n),some (.ref l),some (.int rest),v]∧H2=upd H l (.lst (mw ds)))
  ⟨[],c,none,rfl,(fun _ z=>by cases z),rfl,rfl⟩ ?_ ?_⟩
 ·rintro i σ H2 hi ⟨ds,rest,v,B,J,rfl,rfl⟩;obtain⟨d,O,ed⟩:=yH (rest + (0 + (i:Int)) * (c % 5));refine⟨.inl ⟨rfl,_,SqL.of ah⟩,?_⟩;refine⟨(by show (0:Int) < 5;decide),.inl ⟨by lia,by lia⟩,(by show (0:Int) < 4;decide),_,_,48 + d,rfl,rfl,Bg,by rw[ed];exact FH O,?_⟩;refine⟨l,mw ds,_,rfl,rfl,ah,cz (by rw[zt];lia),?_⟩;refine⟨ci (by decide) (by decide),?_⟩;refine⟨ds++[d],_,_,by rw[Hs,B];rfl,fun e G =>?_,rfl,?_⟩
  ·rcases HD.mp G with G|G
   ·exact J e G
   ·rw[Hv.mp G];exact O
  ·rw[xR];unfold mw;rw[Im];rfl
 ·rintro σ H2 ⟨ds,rest,v,B,J,rfl,rfl⟩;have hds':ds.length=n:=by rw[B];exact Iy n
  refine⟨rfl,("" : Str),l,ds.map one,rfl,rfl,SqL.of (by rw[ah];unfold mw;simp[IK];try rfl),?_,?_⟩
  ·have e0:("" : Str).length=0:=by decide +kernel
   have e1:=E9 ds;rw[e0,e1];lia
  ·rw[B3];exact Y ds _ hds' J (ak.new hl _)
end
def At (H:Hp)(u:V)(n:Nat):Prop:=∃ p z c,u=.ref p∧H p=some (.tup [.str z,.int c])∧IsC z∧z.length≤n∧(0≤c∧c≤35)
theorem At.up (h:At H u n)(s:bS H H'):At H' u n:=by
 obtain⟨p,z,c,e,O,B,G,J⟩:=h;exact⟨p,z,c,e,s _ _ O,B,G,J⟩
theorem F3 (J:0≤M)(h1:M≤63):∃ n:Nat,Builtin.Range.small 1 M 2=true∧Builtin.Range.rangeSize 1 M 2=(n:Int)∧n≤31∧2 * (n:Int)≤M:=by
 have e:∀ m:Nat,m < 64→Builtin.Range.small 1 (m:Int) 2=true∧Builtin.Range.rangeSize 1 (m:Int) 2=((m / 2:Nat):Int):=by decide +kernel
 obtain⟨m,rfl⟩:∃ m:Nat,M=(m:Int):=⟨M.toNat,by lia⟩;obtain⟨B,G⟩:=e m (by lia);exact⟨m / 2,B,G,by lia,by lia⟩
section
variable {P:Program}{w:World}{K:PySem.W.Frag}{mg:Str→Option Value}{base:Heap}{CX:CXT}{f:Addr}{fd:FuncData}
abbrev iS:Stmt:=top 46
theorem rA:aE ["_law_cell"] ["_law_cell"] (aq iS):={}
inductive j8  (vs:List V)(H:Hp)(Q:VK):Prop
 | mk (c:Int) (h_0:vs=[.int c]) (h_1:∀ i:Int,0≤i→i≤35→Q (.int i) H):j8  vs H Q
def gW:Sp:=fun vs H Q _=>j8  vs H Q
theorem rG (T:Tx K mg)(F:bu K "_law_colour" "_law_colour" iS f fd .none):bA P w K mg base CX 1 f fd ["_law_cell"] gW:=by
 refine F.ok rA (fun vs H Q E h =>?_) (fun G A outer s H vs Q E J h =>?_)
 ·obtain⟨_,rfl,_⟩:=h;rfl
 obtain⟨c,rfl,B⟩:=h;refine⟨_,(ac (aQ (aF eK (ai aL (pv 0) ae) ae) (ag (aA (ai aL (ai aJ (pv 0) ae) ae))) aG) (ag (aA (ai aL (ai aJ (pv 0) ae) ae)))),?_⟩;refine⟨(by show (0:Int) < 3;decide),bE (az (aY (fun _ =>?_) (fun _ =>?_)))⟩
 ·exact⟨ci (by decide) (by decide),(by show (0:Int) < 2;decide),B _ (by show 0≤c / 3 % 2;lia) (by show c / 3 % 2≤35;lia)⟩
 ·exact⟨ci (by decide) (by decide),(by show (0:Int) < 36;decide),B _ (by show 0≤c / 3 % 36;lia) (by show c / 3 % 36≤35;lia)⟩
inductive j6  (K:PySem.W.Frag)(vs:List V)(H:Hp)(Q:VK):Prop
 | mk (a:Addr) (ns:List Int) (most n:Nat) (h_0:vs=[.ref a,.int 1,.int most,.int n]) (h_1:SqL K H a (ns.map V.int)) (h_2:ns.length≤63) (h_3:most≤31) (h_4:n≤40) (h_5:∀ l xs H',ak H H'→H l=none→H' l=some (.lst xs)→xs.length≤most→(∀ u∈xs,At H' u n)→Q (.ref l) H'):j6 K vs H Q
def kL  (K:PySem.W.Frag):Sp:=fun vs H Q _=>j6 K vs H Q
abbrev iQ:Stmt:=top 45
theorem bG:aE ["_law_script","_law_first","_law_most","_law_level","_law_paints_here","_law_code_here","_law_at_here","_law_cell","_law_keep"] ["_law_script","_law_first","_law_most","_law_level"] (aq iQ):={}
theorem rF (T:Tx K mg)(q:bZ CX)(F:bu K "_law_paints" "_law_paints" iQ f fd .none)(B:Fok P w K mg base CX 1 "_law_at" ["_law_script","_law_k"] [] (iq K))(J:Fok P w K mg base CX 1 "_law_code" ["_law_cell","_law_size"] [] og)(G:Fok P w K mg base CX 1 "_law_colour" ["_law_cell"] [] gW):
  bA P w K mg base CX 3 f fd ["_law_script","_law_first","_law_most","_law_level"] (kL K):=by
 refine F.ok bG (fun vs H Q E h =>?_) (fun b0 A outer s H vs Q E hr h =>?_)
 ·obtain⟨_,_,_,_,rfl,_⟩:=h;rfl
 obtain⟨a,O,U,n,rfl,hS,a1,a3,hn,q'⟩:=h;refine⟨_,(ac (av (i:=4) bG (aK am)) (ac (av (i:=5) bG cq) (ac (aN HK rfl (kj rfl T.b_range (aa (pv 1) (aa (aB (fV rfl) rfl T.b_min lY (aa (aB bC rfl T.b_len cR (aa (pv 0) af)) (aa (ai aI (pv 1) (ai cQ ae (pv 2))) af))) (aa ae af)))) (aR (i:=6) bG) (ac (av (i:=7) bG (aj B q hr (aa (pv 0) (aa (pv 6) af)))) (ac (av (i:=8) bG (ai aL (ai aJ (pv 7) ae) (ai aI (aB bC rfl T.b_len cR (aa (pv 5) af)) ae))) (ac (Bk (aQ (aF dS (ai aL (pv 7) ae) ae) (ag (av (i:=5) bG (c_ iL (pv 5) fJ (dq (pv 8))))) (ag (aQ (aF dS (ai aL (pv 7) ae) ae) (ag (av (i:=5) bG (ai cJ (ai cJ (c_ iL (pv 5) fJ (dq (pv 8))) (au jR cq (ai aL (ai aJ (pv 7) ae) ae))) (c_ iL (pv 5) (dq (ai aI (pv 8) ae)) fJ)))) (ag (av (i:=5) bG (ai cJ (c_ iL (pv 5) fJ (dq (pv 8))) (aj J q hr (aa (ai aJ (pv 7) ae) (aa (ai aL (ai aJ (pv 7) ae) (ai aI (pv 3) ae)) af)))))))))) (ac (av (i:=5) bG (c_ iL (pv 5) fJ (dq (pv 3)))) (ag (aW (a_ (pv 4) (aa (aD (ap (pv 5) (ap (aj G q hr (aa (aj B q hr (aa (pv 0) (aa (ai aI (pv 6) ae) af))) af)) am))) af))))))))) (ag (aA (pv 4)))))),?_⟩;refine⟨(leZ rfl),nw fun l H1 hl s1 u1 =>?_⟩;refine⟨_,_,rfl,.inl ⟨_,s1.seq hS,rfl⟩,.inl ⟨by decide,by decide⟩,_,_,rfl,?_⟩;obtain⟨M,eM,hM⟩:∃ M:Int,M=(if 1 + 2 * (U:Int) < (((O.map V.int).length:Nat):Int) then 1 + 2 * (U:Int) else (((O.map V.int).length:Nat):Int))∧(0≤M∧M≤63∧M≤1 + 2 * (U:Int)):=⟨_,rfl,by rw[Hw];split<;>lia⟩;obtain⟨N,sm,sz,hN,b1⟩:=F3 hM.1 hM.2.1;have b2:=hM.2.2;refine⟨1,M,2,N,(by show [V.int 1,V.int _,V.int 2]=[V.int 1,V.int M,V.int 2];rw[eM]),by decide,by decide,sm,sz,fO (fun i σ H2=>ak H H2∧∃ (xs:List V) (z:Str) (o6 o7 o8:Option V),H2 l=some (.lst xs)∧xs.length=i∧(∀ u∈xs,At H2 u n)∧IsC z∧z.length≤n∧σ=[some (.ref a),some (.int 1),some (.int U),some (.int n),some (.ref l),some (.str z),o6,o7,o8]) ⟨s1,[],_,_,_,_,u1,rfl,fun u Y=>absurd Y (by simp),dE▸IsC.nil,(by rw[show ("" : Str).length=0 by decide +kernel];simp),rfl⟩ ?_ ?_⟩
 ·rintro k σ H2 hk ⟨s2,xs,z,o6,o7,o8,u2,lx,a0,hz,lz,rfl⟩;have a2:=s2.seq hS;have zs:z.length≤sizeLine:=small (by lia);refine⟨a,O,1 + k * 2,rfl,a2,a1,?_⟩;have pI:(0:Int) < (z.length:Int) + 1:=by simp
  refine⟨ci (by decide) (by decide),_,_,rfl,⟨zs,rfl⟩,pI,?_⟩;obtain⟨kp,b3,a4⟩:∃ kp:Nat,kp≤z.length∧cell O (1 + k * 2) / 4 % ((z.length:Int) + 1)=(kp:Int):=by
   have h1:=JA (cell O (1 + k * 2) / 4) (show (z.length:Int) + 1≠0 by lia);have h2:=Jf (cell O (1 + k * 2) / 4) pI;exact⟨(cell O (1 + k * 2) / 4 % ((z.length:Int) + 1)).toNat,by lia,by lia⟩
  rw[show V.int _=V.int (kp:Int) from Ij V.int a4];refine⟨fun σ H3=>ak H2 H3∧∃ z:Str,IsC z∧z.length≤200∧σ=[some (.ref a),some (.int 1),some (.int U),some (.int n),some (.ref l),some (.str z),some (.int (1 + (k:Int) * 2)),some (.int (cell O (1 + k * 2))),some (.int (kp:Int))],?_,?_⟩
  ·have lp:=oZ z kp;have hp:=o0 hz kp;refine⟨(by show (0:Int) < 4;decide),rfl,az (aY (fun _ =>?_) (fun _=>⟨(by show (0:Int) < 4;decide),rfl,az (aY (fun _ =>?_) (fun _ =>?_))⟩))⟩
   ·refine⟨_,rfl,z,rfl,zs,ak.refl _,pre z kp,hp,by lia,?_⟩;rw[dQ];rfl
   ·obtain⟨d,hd,ed⟩:=yH (cell O (1 + k * 2) / 164);refine⟨_,rfl,z,rfl,zs,ci (by decide) (by decide),(by show (0:Int) < 4;decide),_,_,48 + d,rfl,rfl,Bg,by rw[ed];exact FH hd,?_⟩;rw[dQ];refine⟨_,_,rfl,rfl,(by show (pre z kp).length + 1≤sizeLine;exact small (by lia)),_,rfl,z,rfl,zs,?_⟩;have es:Txt.slice z (some ((kp:Int) + 1)) none=suf z (kp + 1):=wR z (kp + 1);dsimp only;rw[es];have ls:=CO z (kp + 1);have l1:(pre z kp++(one d)).length=(pre z kp).length + 1:=by rw[gP];rfl
    refine⟨_,_,rfl,rfl,(by show (pre z kp++(one d)).length + (suf z (kp + 1)).length≤sizeLine;exact small (by lia)),ak.refl _,pre z kp++one d++suf z (kp + 1),IsC.app (IsC.app hp (IsC.one hd)) (CP hz _),by rw[gP];lia,rfl⟩
   ·have pn:(0:Int) < (n:Int) + 1:=by simp
    obtain⟨sg,b4,a5⟩:∃ sg:Nat,sg≤n∧cell O (1 + k * 2) / 7 % ((n:Int) + 1)=(sg:Int):=by
     have h1:=JA (cell O (1 + k * 2) / 7) (show (n:Int) + 1≠0 by lia);have h2:=Jf (cell O (1 + k * 2) / 7) pn;exact⟨(cell O (1 + k * 2) / 7 % ((n:Int) + 1)).toNat,by lia,by lia⟩
    refine⟨_,rfl,z,rfl,zs,ci (by decide) (by decide),ci (by decide) (by decide),pn,cell O (1 + k * 2) / 164,sg,(by show [V.int _,V.int (cell O (1 + k * 2) / 7 % ((n:Int) + 1))]=[V.int _,V.int _];rw[a5]),by lia,fun ds H4 ld h4 s4 =>?_⟩;rw[dQ];have lt:=e_ ds;exact⟨_,_,rfl,rfl,small (by lia),s4,pre z kp++txt ds,IsC.app hp (sQ h4),by rw[gP];lia,rfl⟩
  ·rintro σ H3 ⟨s3,z',a6,b5,rfl⟩;have u3:=s3 _ _ u2;have a7:=s3.seq a2;refine⟨_,rfl,z',rfl,small (by lia),?_⟩;rw[dQ];have lp:=oZ z' n;have hp':=o0 a6 n;generalize pre z' n=zz at *;refine⟨.inl ⟨rfl,_,SqL.of u3⟩,a,O,1 + k * 2 + 1,rfl,a7,a1,cell O (1 + k * 2 + 1),rfl,fun c a8 a9=>⟨(leZ rfl),fun p hp =>?_⟩⟩;have s5:=ak.new hp (.tup [.str zz,.int c]);have p5:upd H3 p (.tup [.str zz,.int c]) p=some (.tup [.str zz,.int c]):=ah;have u5:=s5 _ _ u3;have tl:=bS.lst (ys:=xs++[V.ref p]) u5;refine⟨l,xs,_,rfl,rfl,u5,cz (by lia),ak.set (s2.trans (s3.trans s5)) hl _,xs++[V.ref p],zz,_,_,_,ah,by rw[Hs,lx];rfl,fun u Y =>?_,hp',by lia,rfl⟩;rcases HD.mp Y with Y | Y
   ·exact (a0 u Y).up ((s3.trans s5).tups.trans tl)
   ·rw[Hv.mp Y];exact⟨p,zz,c,rfl,tl _ _ p5,hp',by lia,a8,a9⟩
 ·rintro σ H2 ⟨s2,xs,z,o6,o7,o8,u2,lx,a0,hz,lz,rfl⟩;exact (q' l xs H2 s2 hl u2 (by lia) a0)
end
theorem PaV.ok (h:PaV H n u q):POk n q:=by
 obtain⟨p,z,_,_,B,e,G,J⟩:=h;rw[POk,← e,cF];exact⟨Co B,G,J⟩
theorem bz.ok (h:bz H n us L):∀ p∈L,POk n p:=by
 induction h with
 | nil=>intro p G;cases G
 | cons p _ ih =>
  intro q B;rcases HZ.mp B with rfl | B
  ·exact p.ok
  ·exact ih q B
theorem bz.of:∀ {us:List V},(∀ u∈us,At H u n)→∃ L,bz H n us L
 | [],_=>⟨[],.nil⟩
 | u::us,h=>by
  obtain⟨L,B⟩:=bz.of (us:=us) (fun v G=>h v (HF _ G));obtain⟨p,z,c,e,J,O,U,Y⟩:=h u HP;exact⟨(dig z,c)::L,.cons ⟨p,z,e,J,O,rfl,U,Y⟩ B⟩
def jN (q:Str × Int):PyData:=.tuple [.str q.1,.int q.2]
theorem zj (h:IsC z):PyData.strOk z=true:=by
 unfold PyData.strOk;rw[← Array.all_toList,KG];intro c B
 have:=h c B
 exact Hr (by lia)
theorem bz.dats (h:bz H n us L):∃ ds:List (Str × Int),ds.length=L.length∧(∀ q∈ds,PyData.strOk q.1=true)∧Dats H us (ds.map jN):=by
 induction h with
 | nil=>exact⟨[],rfl,fun q G=>(by cases G),.nil⟩
 | @cons u q us L p _ ih =>
  obtain⟨ds,e,J,k⟩:=ih;obtain⟨a,z,rfl,O,U,_⟩:=p;refine⟨(z,q.2)::ds,by simp[e],fun r B =>?_,.cons (.tup O (.cons (.str z) (.cons (.int _) .nil))) k⟩;rcases HZ.mp B with rfl|B
  ·exact zj U
  ·exact J r B
theorem rC {ds:List (Str × Int)}(h:∀ q∈ds,PyData.strOk q.1=true):SeqAt.shaped (.list (ds.map jN))=true:=by
 have e:PyData.canLayAll0 (ds.map jN)=true∧PyData.depthAll (ds.map jN)≤1:=by
  induction ds with
  | nil=>exact⟨rfl,HE _⟩
  | cons q r ih =>
   obtain⟨B,J⟩:=ih (fun p G=>h p (HF _ G));refine⟨?_,?_⟩
   ·show ((PyData.strOk q.1 && (true && true)) && PyData.canLayAll0 (r.map jN))=true;rw[h q HP,B];rfl
   ·show max (max 0 (max 0 0) + 1) (PyData.depthAll (r.map jN))≤1
    lia
 unfold SeqAt.shaped;show (PyData.canLayAll0 (ds.map jN) && decide (PyData.depthAll (ds.map jN) + 1≤64))=true;rw[e.1,Hr (by lia)];rfl
theorem Ak (l:List α):l=[]∨∃ a r,l=a::r:=match l with | []=>.inl rfl | a::r=>.inr ⟨a,r,rfl⟩
theorem Ah:eJ (qk (.col c) 0) (qk (.col c) 1) (qk (.col c) 2) (qk (.col c) 3)=.col c:=by
 show eJ (.col c) (.col c) (.col c) (.col c)=.col c;unfold eJ;rw[if_pos (mE.mpr ⟨rfl,rfl,rfl,rfl⟩)]
section
variable {P:Program}{w:World}{K:PySem.W.Frag}{mg:Str→Option Value}{base:Heap}{CX:CXT}{f:Addr}{fd:FuncData}
abbrev gY:Stmt:=top 47
theorem qb:aE ["_law_a","_law_b","_law_c","_law_d"] ["_law_a","_law_b","_law_c","_law_d"] (aq gY):={}
inductive jm  (vs:List V)(H:Hp)(Q:VK):Prop
 | mk (a b c d:V) (ta tb tc td:Tr) (h_0:vs=[a,b,c,d]) (h_1:bT H a ta) (h_2:bT H b tb) (h_3:bT H c tc) (h_4:bT H d td) (h_5:(ta.deep≤60∧tb.deep≤60∧tc.deep≤60∧td.deep≤60)) (h_6:∀ v H',ak H H'→bT H' v (eJ ta tb tc td)→Q v H'):jm  vs H Q
def gf:Sp:=fun vs H Q _=>jm  vs H Q
theorem qx (T:Tx K mg)(F:bu K "_law_tree_of" "_law_tree_of" gY f fd .none):bA P w K mg base CX 1 f fd ["_law_a","_law_b","_law_c","_law_d"] gf:=by
 refine F.ok qb (fun vs H Q E h =>?_) (fun a0 A outer s H vs Q E O h =>?_)
 ·obtain⟨_,_,_,_,_,_,_,_,rfl,_⟩:=h;rfl
 obtain⟨a,b,c,d,ta,tb,tc,td,rfl,B,hb,hc,hd,⟨da,db,dc,dd⟩,q'⟩:=h;refine⟨_,(ac (aQ (PW.pt (qm (cH (cG (aB (bW "tuple") rfl T.b_isinstance aU (aa (pv 0) (aa (d9 T.b_tuple gI) af))))) (qm (aF (tO O) (pv 0) (pv 1)) (qm (aF (tO O) (pv 0) (pv 2)) (tI (aF (tO O) (pv 0) (pv 3))))))) (ag (aA (pv 0))) aG) (ag (aA (aD (ap (pv 0) (ap (pv 1) (ap (pv 2) (ap (pv 3) am)))))))),?_⟩
 have ty:=B.ty (K:=K);have fin:eJ ta tb tc td=.four ta tb tc td→∀ p,H p=none→Q (.ref p) (upd H p (.tup [a,b,c,d])):=fun hg p hp=>by
  refine q' _ _ (ak.new hp _) ?_;rw[hg];have sn:=(ak.new hp (.tup [a,b,c,d])).tups;exact .four ah (B.up sn) (hb.up sn) (hc.up sn) (hd.up sn)
 have G:4≤sizeLine:=by decide
 have J:¬ (ta.isCol=true∧tb=ta∧tc=ta∧td=ta)→eJ ta tb tc td=.four ta tb tc td:=fun h=>by
  unfold eJ;rw[if_neg (fun z=>h (mE.mp z))]
 cases hta:ta.isCol with
 | false =>
  rw[hta]at ty;refine⟨_,_,_,rfl,ty,lU,az (js (js ?_))⟩;exact⟨G,fin (J fun z=>by rw[hta]at z;cases z.1)⟩
 | true =>
  rw[hta]at ty;refine⟨_,_,_,rfl,ty,nV,az (mK ?_)⟩;have U:∀ {u:Tr},PyData.eqv ta.data u.data=true→u=ta:=fun z=>by rw[Tr.eqv]at z;exact (HG z).symm
  have Y:∀ {u:Tr},¬ PyData.eqv ta.data u.data=true→u≠ta:=fun z h=>z (by rw[Tr.eqv];exact Hr h.symm);refine⟨_,_,B.dat,hb.dat,Tr.shaped (by lia),Tr.shaped (by lia),az (aY (fun z1 =>?_) (fun z1=>js ?_))⟩
  ·refine⟨_,_,B.dat,hc.dat,Tr.shaped (by lia),Tr.shaped (by lia),az (aY (fun z2 =>?_) (fun z2=>js ?_))⟩
   ·refine⟨_,_,B.dat,hd.dat,Tr.shaped (by lia),Tr.shaped (by lia),az (aY (fun z3 =>?_) (fun z3 =>?_))⟩
    ·refine (q' _ _ (ak.refl H) ?_);unfold eJ;rw[if_pos (mE.mpr ⟨hta,U z1,U z2,U z3⟩)];exact B
    ·exact⟨G,fin (J fun z=>Y z3 z.2.2.2)⟩
   ·exact⟨G,fin (J fun z=>Y z2 z.2.2.1)⟩
  ·exact⟨G,fin (J fun z=>Y z1 z.2.1)⟩
abbrev gZ:Stmt:=top 48
theorem bh:aE ["_law_paints_here","_law_base","_law_later","_law_code_here","_law_colour_here","_law_trees","_law_sign","_law_some"] ["_law_paints_here"] (aq gZ):={}
inductive jn  (m:Nat)(vs:List V)(H:Hp)(Q:VK):Prop
 | mk (l:Addr) (xs:List V) (L:List (List Nat × Int)) (n:Nat) (h_0:vs=[.ref l]) (h_1:H l=some (.lst xs)) (h_2:bz H n xs L) (h_3:n < m) (h_4:m≤41) (h_5:xs.length + n≤200) (h_6:∀ v H',ak H H'→bT H' v (bn (.col 0) L)→Q v H'):jn m vs H Q
def dX  (m:Nat):Sp:=fun vs H Q _=>jn m vs H Q
theorem jO (T:Tx K mg)(q:bZ CX)(F:bu K "_law_tree_by" "_law_tree_by" gZ f fd .none)(B:Fok P w K mg base CX 1 "_law_tree_of" ["_law_a","_law_b","_law_c","_law_d"] [] gf)(b:eF K fd ["_law_paints_here"] [])(m:mg "_law_tree_by" = some (.ref f)):
  ∀ n,bA P w K mg base CX (2 + n) f fd ["_law_paints_here"] (dX n)
 | 0=>by
  refine F.ok bh (fun vs H Q E h =>?_) (fun c7 A outer s H vs Q E hr h =>?_)
  ·obtain⟨_,_,_,_,rfl,_⟩:=h;rfl
  obtain⟨_,_,_,_,_,_,_,h,_⟩:=h;exact absurd h (JV _)
 | m' + 1=>by
  have G:Fok P w K mg base CX (2 + m') "_law_tree_by" ["_law_paints_here"] [] (dX m'):=fok F (jO T q F B b m m') b m
  refine F.ok bh (fun vs H Q E h =>?_) (fun c7 A outer s H vs Q E hr h =>?_)
  ·obtain⟨_,_,_,_,rfl,_⟩:=h;rfl
  obtain⟨l,xs,L,n,rfl,hl,hL,hn,hm,hb,q'⟩:=h;refine⟨_,(ac (av (i:=1) bh ae) (ac (av (i:=2) bh (aK am)) (ac (aN HK rfl (bU (pv 0)) (iV rfl (aV (aR (i:=3) bh) (aV (aR (i:=4) bh) d8))) (ag (aQ (aF dS (pv 3) cq) (ac (av (i:=1) bh (pv 4)) (ag (av (i:=2) bh (aK am)))) (ag (aW (a_ (pv 2) (aa (aD (ap (pv 3) (ap (pv 4) am))) af))))))) (ac (aQ (aF (tO hr) (pv 2) (aK am)) (ag (aA (pv 1))) aG) (ac (av (i:=5) bh (aK am)) (ac (aN HK rfl (nJ cq) (o_ (i:=6) bh.nd rfl (Or.inr rfl)) (ac (av (i:=7) bh (ai tP (aK (ap (aD (ap cq (ap (pv 1) am))) am)) (rY (N':=["_law_code_here","_law_colour_here","_law_sign"]) ["_law_sign"] ["_law_sign"] [6] 2 {} (bU (pv 2)) (fun _ _ _ _ _=>(tK (K:=K) (n:=2) rfl (aV (jM (i:=0)) (aV (jM (i:=1)) d8)))) (fun _ _ _ _ _=>(aF dS (au jR (pv 0) ae) (pv 2))) (fun _ _ _ _ _=>(aD (ap (c_ iL (pv 0) (dq ae) fJ) (ap (pv 1) am))))))) (ag (aW (a_ (pv 5) (aa (aj G q hr (aa (pv 7) af) (hj:=by first | decide | simp | (simp only[KO];lia))) af)))))) (ag (aA (aj B q hr (aa (au bj (pv 5) ae) (aa (au bj (pv 5) ae) (aa (au bj (pv 5) ae) (aa (au bj (pv 5) ae) af)))) (hj:=by first | decide | lia | (simp only[KO];lia))))))))))),?_⟩
  refine⟨(leZ rfl),nw fun c8 H1 b3 s1 u1 =>?_⟩;refine⟨l,rfl,⟨_,SqL.of (s1 _ _ hl)⟩,cE (xs:=xs) (fun i σ H2=>ak H H2∧∃ (b:Int) (lt:Addr) (U:List V) (M:List (List Nat × Int)) (o3 o4:Option V),H2 lt=some (.lst U)∧H lt=none∧bz H2 n U M∧(∀ p∈M,p.1≠[])∧U.length≤i∧bn (.col 0) (L.take i)=bn (.col b) M∧(0≤b∧b≤35)∧σ=[some (.ref l),some (.int b),some (.ref lt),o3,o4,none,none,none]) ⟨s1,0,c8,[],[],none,none,u1,b3,.nil,fun p Y=>(by cases Y),Ht _,rfl,⟨by decide,by decide⟩,rfl⟩ (fun i σ H2 _ h=>SqL.of (h.1 _ _ hl)) ?_ ?_⟩
  ·rintro i u σ H2 hu ⟨s2,b0,lt,U,M,o3,o4,u2,a8,hM,a2,lm,ep,a4,rfl⟩;obtain⟨J,eq,p,z,rfl,Y,hz,ez,lz,hc⟩:=hL.get hu;have et:L.take (i + 1)=L.take i++[J]:=by rw[Ic,eq];rfl
   refine⟨p,_,rfl,SqT.of (s2 _ _ Y),rfl,_,_,rfl,_,_,rfl,rfl,?_⟩;refine⟨rfl,az (aY (fun c =>?_) (fun c =>?_))⟩
   ·have e:z=("" : Str):=by simpa using c
    have ed:J.1=[]:=by rw[← ez,e];exact iz
    refine⟨(leZ rfl),fun lt' a7 =>?_⟩;refine⟨ak.trans s2 (ak.new a7 _),J.2,lt',[],[],_,_,ah,ak.none s2 a7,.nil,fun p Y=>(by cases Y),HE _,?_,hc,rfl⟩;rw[et,hZ,ed];rfl
   ·have nz:J.1≠[]:=fun h=>by
     have h0:z.length=0:=by rw[← cF,ez,h];rfl
     exact c (by simp[pT.mpr h0])
    refine⟨.inl ⟨rfl,_,SqL.of u2⟩,(leZ rfl),fun p' c9 =>?_⟩;have s3:=ak.new c9 (.tup [.str z,.int J.2]);have p3:upd H2 p' (.tup [.str z,.int J.2]) p'=some (.tup [.str z,.int J.2]):=ah;have u3:=s3 _ _ u2;generalize upd H2 p' (.tup [.str z,.int J.2])=H3 at *;have tl:=bS.lst (ys:=U++[V.ref p']) u3;have hi:i < xs.length:=(Hx.mp hu).1;refine⟨lt,U,_,rfl,rfl,u3,cz (by lia),ak.set (s2.trans s3) a8 _,b0,lt,U++[V.ref p'],M++[J],_,_,ah,a8,(hM.up (s3.tups.trans tl)).app (.cons ⟨p',z,rfl,tl _ _ p3,hz,ez,lz,hc⟩ .nil),fun r hr =>?_,by rw[Hs];show U.length + 1≤i + 1;lia,?_,a4,rfl⟩
    ·rcases HD.mp hr with hr|hr
     ·exact a2 r hr
     ·rw[Hv.mp hr];exact nz
    ·rw[et,hZ,hZ,ep]
  ·rintro σ H2 ⟨s2,b0,lt,U,M,o3,o4,u2,a8,hM,a2,lm,ep,a4,rfl⟩;have eL:L.take xs.length=L:=HM (by rw[hL.len];exact Ht _);rw[eL]at ep;rw[ep]at q';obtain⟨ds,ld,b4,b5⟩:=hM.dats;refine⟨(leZ rfl),fun le a9 =>?_⟩;have s3:=s2.trans (ak.new a9 (.lst []));have u3:=(ak.new a9 (.lst [])) _ _ u2;have ue:upd H2 le (.lst []) le=some (.lst []):=ah;have b6:=hM.up (ak.new a9 (.lst [])).tups;obtain⟨ds,ld,b4,b5⟩:=b6.dats;generalize upd H2 le (.lst [])=H3 at *;refine⟨_,_,.lst u3 b5,.lst ue .nil,rC b4,by decide,?_⟩;rcases Ak ds with rfl | ⟨d0,dr,rfl⟩
   ·have eM:M=[]:=Ie ld.symm;rw[eM]at q';exact (az (mK (q' _ _ s3 (.col b0))))
   have pm:0 < M.length:=by rw[← ld];show 0 < dr.length + 1;simp
   refine (az (js ?_));refine⟨(leZ rfl),nw fun lw H4 b7 s4 w4 =>?_⟩;have d1:=b6.up s4.tups;have u4:=s4 _ _ u3;have b8:H lw=none:=ak.none s3 b7;have d2:=s3.trans s4;have d3:lt≠lw:=bH u3 b7;have e8:0 < n:=by
    rcases JE n with h0|h0
    ·obtain⟨p0,b1⟩:∃ p0,M[0]? = some p0:=⟨_,HU pm⟩;have h1:=(hM.ok p0 (HH b1)).2.1;exact absurd (Ie (by lia)) (a2 p0 (HH b1))
    ·exact h0
   refine⟨_,rfl,fO (fun j σ H5=>ak H H5∧H5 lt=some (.lst U)∧bz H5 n U M∧∃ (ts:List V) (o6 o7:Option V),H5 lw=some (.lst ts)∧ts.length=j∧(∀ k v,ts[k]? = some v→bT H5 v (bn (.col b0) (eG k M)))∧σ=[some (.ref l),some (.int b0),some (.ref lt),o3,o4,some (.ref lw),o6,o7]) ⟨d2,u4,d1,[],none,none,w4,rfl,fun k v h=>(by simp at h),rfl⟩ ?_ ?_⟩
   ·rintro j σ H5 hj ⟨s5,u5,a5,ts,o6,o7,w5,a6,a1,rfl⟩;have d4:j < 4:=by rw[show ("0123" : Str).length=4 by decide +kernel]at hj;exact hj
    have ej:sgn ("0123" : Str) j=one j:=four (P:=fun d=>sgn ("0123" : Str) d=one d) (by decide +kernel) (by decide +kernel) (by decide +kernel) (by decide +kernel) d4
    rw[ej];refine⟨(leZ rfl),nw fun p0 H6 b1 s6 v6 =>?_⟩;refine⟨(leZ rfl),nw fun la H7 e9 s7 w7 =>?_⟩;have v7:=s7 _ _ v6;have b2:=s6.trans s7;have u7:=b2 _ _ u5;have d5:=a5.up b2.tups;have f0:U.length≤200:=by lia
    refine⟨[.str (one j)],rfl,lt,rfl,⟨_,SqL.of u7⟩,jV U (fun D i ys H'=>ak H7 H'∧H' D=some (.lst ys)∧ys.length≤i∧bz H' (n - 1) ys (eG j (M.take i))) (small (by lia)) (fun D i ys H' h=>SqL.of (h.1 _ _ u7)) (fun D i ys H' h=>⟨h.2.1,h.2.2.1⟩) (fun D hD=>⟨ak.new hD _,ah,Ht _,.nil⟩) ?_ ?_ ?_ ?_ ?_⟩
    ·rintro D i x ys H' hx hD ⟨c1,c2,c3,c4⟩;obtain⟨J,b9,p,z,rfl,Y,hz,ez,lz,hc⟩:=d5.get hx;have et:M.take (i + 1)=M.take i++[J]:=by rw[Ic,b9];rfl
     have nz:=a2 J (HH b9);have pz:0 < z.length:=by
      rcases JE z.length with h0|h0
      ·exact absurd (Ie (by rw[← ez,cF];exact h0)) nz
      ·exact h0
     have hs:z.length≤sizeLine:=small (by lia);obtain⟨e,he,e1,e2⟩:=kh hz pz;have c0:J=(e::dig (rst z),J.2):=by rw[← e2,← DZ pz,ez]
     have a0:eG j [J]=if e=j then [(dig (rst z),J.2)] else []:=by rw[c0];rfl
     refine⟨p,_,rfl,SqT.of (c1 _ _ Y),rfl,_,_,rfl,_,_,rfl,rfl,rfl,?_⟩;refine⟨z,0,z.cps.getD 0 0,rfl,rfl,hs,Ec pz,rfl,az (aY (fun c =>?_) (fun c =>?_))⟩
     ·have c':V.str (sgn z 0)=V.str (one j):=HG c;have c2':sgn z 0=one j:=by injection c'
      rw[e1]at c2';have d6:=Dw c2';rw[if_pos d6]at a0;refine⟨_,rfl,z,rfl,hs,(leZ rfl),fun pn d7 =>?_⟩;have er:Txt.slice z (some 1) none=rst z:=zo pz;dsimp only;rw[er];have sn:=ak.new d7 (.tup [.str (rst z),.int J.2]);have uD:=sn _ _ c2;have un:upd H' pn (.tup [.str (rst z),.int J.2]) pn=some (.tup [.str (rst z),.int J.2]):=ah;have tl:=bS.lst (ys:=ys++[V.ref pn]) uD;have rl:=C3 z;refine⟨uD,ak.set (c1.trans sn) hD _,ah,by rw[Hs];show ys.length + 1≤i + 1;lia,?_⟩;rw[et,jv,a0];exact (c4.up (sn.tups.trans tl)).app (.cons ⟨pn,rst z,rfl,tl _ _ un,C4 hz,rfl,by lia,hc⟩ .nil)
     ·have d9:¬ e=j:=fun h=>c (Hr (by show V.str (sgn z 0)=V.str (one j);rw[e1,h]));rw[if_neg d9]at a0;refine⟨c1,c2,by lia,?_⟩;rw[et,jv,a0,II];exact c4
    ·rintro D ys H' hD ⟨c1,c2,c3,c4⟩;have eM:M.take U.length=M:=HM (by rw[hM.len];exact Ht _);rw[eM]at c4;refine⟨la,D,_,_,rfl,rfl,c1 _ _ w7,c2,small (by show 1 + ys.length≤_;lia),fun lc e0 =>?_⟩;have s8:=ak.new e0 (.lst ([V.ref p0]++ys));have w8:upd H' lc (.lst ([V.ref p0]++ys)) lc=some (.lst ([V.ref p0]++ys)):=ah;generalize upd H' lc (.lst ([V.ref p0]++ys))=H8 at *;have c5:=b2.trans (c1.trans s8);have k8:bz H8 (n - 1) ([V.ref p0]++ys) ([([],b0)]++eG j M):=bz.app (.cons ⟨p0,("" : Str),rfl,(c1.trans s8) _ _ v7,dE▸IsC.nil,iz,by rw[show ("" : Str).length=0 by decide +kernel];simp,a4⟩ .nil) (c4.up s8.tups)
     refine⟨.inl ⟨rfl,_,SqL.of (c5 _ _ w5)⟩,lc,_,_,n - 1,rfl,w8,k8,by lia,by lia,by rw[Hs];show 1 + ys.length + (n - 1)≤200;lia,fun v H9 s9 hv =>?_⟩;have a3:=c5.trans s9;have w9:=a3 _ _ w5;have tl:=bS.lst (ys:=ts++[v]) w9;refine⟨lw,ts,_,rfl,rfl,w9,cz (by lia),ak.set (s5.trans a3) b8 _,by rw[aH d3];exact a3 _ _ u5,a5.up (a3.tups.trans tl),ts++[v],_,_,ah,by rw[Hs,a6];rfl,fun k g hg =>?_,rfl⟩;rcases Jj k ts.length with hk | hk
     ·rw[Iq hk]at hg;exact (a1 k g hg).up (a3.tups.trans tl)
     ·rw[IA hk]at hg;have e7:k - ts.length=0:=by
       rcases h:k - ts.length with _|k
       ·rfl
       ·rw[h]at hg;simp at hg
      rw[e7]at hg;have ek:k=j:=by lia
      rw[ek,← Option.some.inj hg];exact hv.up tl
    ·rintro x σ H' R R' k ⟨a,xs,e1,h1,h2,y1,r1,f1,y2,r2,f2,f6,h⟩;exact⟨a,xs,e1,h1,h2,y1,r1,f1,y2,r2,f2,f6,k _ _ h⟩
    ·intro σ H' R R' k O;obtain⟨_,e1,O⟩:=aM O;obtain⟨lo,e2,z,e3,hs,O⟩:=O;obtain⟨_,e4,O⟩:=aM O;obtain⟨h1,h2⟩:=O;exact (bc e1 (⟨lo,e2,z,e3,hs,bc e4 ⟨h1,fun p Y=>k _ _ (h2 p Y)⟩⟩))
    ·intro σ H' R R' k O;obtain⟨_,e1,O⟩:=aM O;obtain⟨z,i,c,e2,e3,hs,ha,O⟩:=O;obtain⟨_,e4,O⟩:=aM O;obtain⟨e5,O⟩:=O;obtain⟨_,e6,h⟩:=ff O;exact (bc e1 (⟨z,i,c,e2,e3,hs,ha,bc e4 ⟨e5,lS e6 (k _ _ h)⟩⟩))
   ·rintro σ H5 ⟨s5,u5,a5,ts,o6,o7,w5,a6,a1,rfl⟩;obtain⟨va,vb,vc,vd,rfl⟩:∃ a b c d,ts=[a,b,c,d]:=by
     rw[show ("0123" : Str).length=4 by decide +kernel]at a6
     match ts,a6 with
     | [a,b,c,d],_=>exact⟨a,b,c,d,rfl⟩
    have ka:=a1 0 va rfl;have kb:=a1 1 vb rfl;have kc:=a1 2 vc rfl;have kd:=a1 3 vd rfl;have c6:=a5.ok;have dg:∀ k,(bn (.col b0) (eG k M)).deep≤60:=fun k=>by
     have:=(mM (n:=40) (eG k M) (.col b0) (fun p Y=>(sW k M c6 p Y).le (by lia)) (aP.col a4)).deep
     lia
    refine⟨lw,_,_,_,rfl,rfl,SqL.of w5,rfl,lw,_,_,_,rfl,rfl,SqL.of w5,rfl,lw,_,_,_,rfl,rfl,SqL.of w5,rfl,lw,_,_,_,rfl,rfl,SqL.of w5,rfl,va,vb,vc,vd,_,_,_,_,rfl,ka,kb,kc,kd,⟨dg 0,dg 1,dg 2,dg 3⟩,fun v H6 s6 hv=>q' v H6 (s5.trans s6) ?_⟩;rw[kO M (.col b0) (fun p Y=>⟨a2 p Y,(c6 p Y).1⟩) Ah];exact hv
end
def iA (H:Hp)(lw:Addr)(r:V)(m j:Nat):Prop:=∃ (lr:Addr) (xs:List V),r=.ref lr∧lr≠lw∧H lr=some (.lst xs)∧xs.length=m∧∀ x∈xs,∃ t,bT H x t∧aP j t∧cnt t≤4 ^ j
theorem iA.up (h:iA H lw r m j)(s:ak H H'):iA H' lw r m j:=by
 obtain⟨B,xs,e,n,G,J,O⟩:=h;refine⟨B,xs,e,n,s _ _ G,J,fun x h =>?_⟩;obtain⟨t,h1,h2⟩:=O x h;exact⟨t,h1.up s.tups,h2⟩
theorem iA.set (h:iA H lw r m j)(e:H lw=some (.lst xs)):iA (upd H lw (.lst ys)) lw r m j:=by
 obtain⟨B,zs,G,n,J,O,U⟩:=h;refine⟨B,zs,G,n,by rw[aH n];exact J,O,fun x h =>?_⟩;obtain⟨t,h1,h2⟩:=U x h;exact⟨t,h1.up (bS.lst e),h2⟩
def xO (H:Hp)(l:Addr)(m j:Nat):Prop:=∃ rs,H l=some (.lst rs)∧rs.length=m∧∀ r∈rs,iA H l r m j
theorem GD {xs:List V}{b:Nat}{v B:V}(h1:xs[b]? = some v)(h2:xs[b + 1]? = some B):wn xs (some (b:Int)) (some ((b + 2:Nat):Int))=[v,B]:=by
 have Y:=(Hx.mp h2).1;unfold wn;have G:HT.sIx xs.length 0 (some (b:Int))=b:=by
  unfold HT.sIx
  first | (simp;lia) | (dsimp only;split<;>lia)
 have J:HT.sIx xs.length xs.length (some ((b + 2:Nat):Int))=b + 2:=by
  unfold HT.sIx
  first | (simp;lia) | (dsimp only;split<;>lia)
 rw[G,J,show b + 2 - b=2 by simp];rw[Ix (by lia),Ix (by omega)];obtain⟨_,O⟩:=Hx.mp h1;obtain⟨_,U⟩:=Hx.mp h2;rw[O,U];rfl
theorem GY:∀ k:Nat,k < 4→Builtin.Range.small 0 ((2 ^ (k + 1):Nat):Int) 2=true∧Builtin.Range.rangeSize 0 ((2 ^ (k + 1):Nat):Int) 2=((2 ^ k:Nat):Int):=by decide +kernel
theorem Fv:∀ s:Nat,s < 5→∃ m:Nat,atI [V.int 2,V.int 2,V.int 3,V.int 4,V.int 4] (s:Int)=some (V.int (m:Int))∧0 < m∧m≤4:=by
 intro s B;rcases s with _ | _ | _ | _ | _ | s
 ·exact⟨2,rfl,by decide,by decide⟩
 ·exact⟨2,rfl,by decide,by decide⟩
 ·exact⟨3,rfl,by decide,by decide⟩
 ·exact⟨4,rfl,by decide,by decide⟩
 ·exact⟨4,rfl,by decide,by decide⟩
 ·lia
theorem uI:∀ (L:List (List Nat × Int)) (t:Tr),(∀ p∈L,POk n p)→cnt (bn t L)≤cnt t + (3 * n + 1) * L.length
 | [],t,_=>KC _ _
 | p::L,t,h=>by
  obtain⟨h1,h2,_⟩:=h p HP;have G:=uI L (ji t p.1 (.col p.2)) (fun q B=>h q (HF _ B));have c:=sE p.1 t (.col p.2) h1;have J:cnt (Tr.col p.2)=1:=rfl;show cnt (bn (ji t p.1 (.col p.2)) L)≤cnt t + (3 * n + 1) * (L.length + 1);rw[Nat.mul_succ]
  lia
section
variable {P:Program}{w:World}{K:PySem.W.Frag}{mg:Str→Option Value}{base:Heap}{CX:CXT}{f:Addr}{fd:FuncData}
abbrev lI:Stmt:=top 49
theorem bK:aE ["_law_script","_law_first","_law_level","_law_wide","_law_share","_law_few","_law_rows","_law_y","_law_cell","_law_row","_law_x","_law_k","_law_value"] ["_law_script","_law_first","_law_level"] (aq lI):={}
inductive m_  (K:PySem.W.Frag)(vs:List V)(H:Hp)(Q:VK):Prop
 | mk (a:Addr) (ns:List Int) (n:Nat) (h_0:vs=[.ref a,.int 1,.int n]) (h_1:SqL K H a (ns.map V.int)) (h_2:ns.length≤63) (h_3:n≤3) (h_4:∀ l H',ak H H'→xO H' l (2 ^ n) 0→Q (.ref l) H'):m_ K vs H Q
def n_  (K:PySem.W.Frag):Sp:=fun vs H Q _=>m_ K vs H Q
theorem vI (T:Tx K mg)(q:bZ CX)(F:bu K "_law_grid" "_law_grid" lI f fd .none)(B:Fok P w K mg base CX 1 "_law_at" ["_law_script","_law_k"] [] (iq K)):bA P w K mg base CX 2 f fd ["_law_script","_law_first","_law_level"] (n_ K):=by
 refine F.ok bK (fun vs H Q E h =>?_) (fun c7 A outer s H vs Q E hr h =>?_)
 ·obtain⟨_,_,_,rfl,_⟩:=h;rfl
 obtain⟨a,ns,n,rfl,hS,a0,hn,q'⟩:=h;refine⟨_,(ac (av (i:=3) bK (ai tN ae (pv 2))) (ac (av (i:=4) bK (ai aL (aj B q hr (aa (pv 0) (aa (pv 1) af))) ae)) (ac (av (i:=5) bK (aK (ap ae (ap ae (ap (ai aL (ai aJ (aj B q hr (aa (pv 0) (aa (pv 1) af))) ae) ae) (ap (ai aL (ai aJ (aj B q hr (aa (pv 0) (aa (pv 1) af))) ae) ae) am)))))) (ac (av (i:=6) bK (aK am)) (ac (aN HK rfl (bQ rfl T.b_range (aa (pv 3) af)) (aR (i:=7) bK) (ac (av (i:=8) bK (ai aI (aj B q hr (aa (pv 0) (aa (ai aI (ai aI (pv 1) ae) (ai aJ (pv 7) ae)) af))) (ai cQ ae (ai aL (pv 7) ae)))) (ac (av (i:=9) bK (aK am)) (ac (aN HK rfl (bQ rfl T.b_range (aa (pv 3) af)) (aR (i:=10) bK) (ac (av (i:=11) bK (ai aJ (pv 10) (ai aI ae (ai aL (pv 4) ae)))) (ac (av (i:=12) bK (ai cQ (ai aI (ai aI (ai aI (ai aL (pv 8) ae) (ai cQ ae (pv 11))) (ai cQ (ai cQ ae (pv 11)) (pv 11))) ae) ae)) (ac (av (i:=12) bK (ai aJ (ai aL (ai cQ (ai aI (ai aJ (ai aL (pv 12) ae) ae) (pv 11)) ae) ae) ae)) (ag (aW (a_ (pv 9) (aa (au bj (pv 5) (ai aL (pv 12) (au bj (aK (ap ae (ap ae (ap ae (ap ae (ap ae am)))))) (pv 4)))) af)))))))) (ag (aW (a_ (pv 6) (aa (pv 9) af)))))))) (ag (aA (pv 6)))))))),?_⟩;have a4:Aw 1 (n:Int):=⟨by simp,by lia,by decide⟩;have ew:(1:Int) * 2 ^ ((n:Int)).toNat=((2 ^ n:Nat):Int):=by rw[Iy];simp
 have a9:2 ^ n≤8:=H_ (IU (by decide) hn) (by decide);refine⟨a4,?_⟩;generalize 2 ^ n=W at ew a9 q';rw[show V.int _=V.int ((W:Nat):Int) from Ij V.int ew];refine⟨a,ns,1,rfl,hS,a0,(by show (0:Int) < 5;decide),?_⟩;obtain⟨sh,b0,b1⟩:∃ sh:Nat,sh < 5∧cell ns 1 % 5=(sh:Int):=⟨(cell ns 1 % 5).toNat,by lia,by lia⟩;rw[show V.int _=V.int (sh:Int) from Ij V.int b1];refine⟨a,ns,1,rfl,hS,a0,ci (by decide) (by decide),(by show (0:Int) < 36;decide),?_⟩;refine⟨a,ns,1,rfl,hS,a0,ci (by decide) (by decide),(by show (0:Int) < 36;decide),(leZ rfl),fun lf b2 =>?_⟩;obtain⟨Y,b3,b4⟩:∃ Y:Int,cell ns 1 / 5 % 36=Y∧(0≤Y∧Y≤35):=⟨_,rfl,by lia⟩;obtain⟨c3,b5,b6⟩:∃ c3:Int,cell ns 1 / 180 % 36=c3∧(0≤c3∧c3≤35):=⟨_,rfl,by lia⟩;rw[show V.int _=V.int Y from Ij V.int b3,show V.int _=V.int c3 from Ij V.int b5];have s1:=ak.new b2 (.lst [.int 0,.int 1,.int Y,.int c3]);have u1:upd H lf (.lst [.int 0,.int 1,.int Y,.int c3]) lf=some (.lst [.int 0,.int 1,.int Y,.int c3]):=ah;generalize upd H lf (.lst [.int 0,.int 1,.int Y,.int c3])=H1 at *;refine⟨(leZ rfl),nw fun lw H2 b7 s2 w2 =>?_⟩;have u2:=s2 _ _ u1;have b8:=s1.seq hS;refine⟨_,rfl,by simp,by lia,bV (fun i σ H3=>ak H1 H3∧∃ (rs:List V) (o7 o8 o9 G J O:Option V),H3 lw=some (.lst rs)∧rs.length=i∧(∀ r∈rs,iA H3 lw r W 0)∧σ=[some (.ref a),some (.int 1),some (.int (n:Int)),some (.int ((W:Nat):Int)),some (.int (sh:Int)),some (.ref lf),some (.ref lw),o7,o8,o9,G,J,O]) ⟨s2,[],none,none,none,none,none,none,w2,rfl,fun r h=>(by cases h),rfl⟩ ?_ ?_⟩
 ·rintro i σ H3 hi ⟨s3,rs,o7,o8,o9,G,J,O,w3,a5,a2,rfl⟩;have hi':i < W:=by assumption
  rw[show (0:Int) + (i:Int)=(i:Int) from JK _];have ed:(1:Int) + 1 + (i:Int) / 2=((1 + 1 + i / 2:Nat):Int):=by rfl
  refine⟨ci (by decide) (by decide),a,ns,1 + 1 + i / 2,(by show [V.ref a,V.int ((1:Int) + 1 + (i:Int) / 2)]=_;rw[ed]),s3.seq b8,a0,?_⟩;refine⟨(by show (0:Int) < 2;decide),.inl ⟨by decide,by decide⟩,bE ?_⟩;obtain⟨cl,b9⟩:∃ cl:Int,cell ns (1 + 1 + i / 2) + 7 * ((i:Int) % 2)=cl:=⟨_,rfl⟩;rw[show V.int _=V.int cl from Ij V.int b9];refine⟨(leZ rfl),nw fun U H4 a1 s4 w4 =>?_⟩;have c0:lw≠U:=bH w3 a1;refine⟨_,rfl,by simp,by lia,bV (fun x σ H5=>ak H3 H5∧∃ (xs:List V) (G J O:Option V),H5 U=some (.lst xs)∧xs.length=x∧(∀ x∈xs,∃ t,bT H5 x t∧aP 0 t∧cnt t≤4 ^ 0)∧σ=[some (.ref a),some (.int 1),some (.int (n:Int)),some (.int ((W:Nat):Int)),some (.int (sh:Int)),some (.ref lf),some (.ref lw),some (.int (i:Int)),some (.int cl),some (.ref U),G,J,O]) ⟨s4,[],G,J,O,w4,rfl,fun r h=>(by cases h),rfl⟩ ?_ ?_⟩
  ·rintro x σ H5 hx ⟨s5,xs,G,J,O,w5,a6,a3,rfl⟩;rw[show (0:Int) + (x:Int)=(x:Int) from JK _];have pd:(0:Int) < 1 + (sh:Int) % 3:=by lia
   refine⟨(by show (0:Int) < 3;decide),ci pd (by show 1 + (sh:Int) % 3 < _;lia),?_⟩;obtain⟨kk,c8,c1⟩:∃ kk:Int,(0≤kk∧kk≤8)∧(x:Int) / (1 + (sh:Int) % 3)=kk:=by
    refine⟨_,⟨Int.ediv_nonneg (by simp) (by lia),?_⟩,rfl⟩;exact Kt (Int.ediv_le_self _ (by simp)) (by lia)
   rw[show V.int _=V.int kk from Ij V.int c1];refine⟨(by show (0:Int) < 999983;decide),.inl ⟨by decide,by decide⟩,.inl ⟨by decide,by decide⟩,.inr ⟨by lia,by lia⟩,.inr ⟨by decide,by decide⟩,?_⟩;dsimp only;generalize (cl % 999983 + 31 * kk + 7 * kk * kk + 3) * 48271=a7;refine⟨(by show (0:Int) < 2147483647;decide),ci (by decide) (by decide),.inr ⟨by decide,by decide⟩,(by show (0:Int) < 2147483629;decide),ci (by decide) (by decide),?_⟩;dsimp only;generalize ((a7 % 2147483647 / 7 + kk) * 69621 % 2147483629) / 11=val;obtain⟨m,em,c9,d0⟩:=Fv sh b0;refine⟨.inl ⟨rfl,_,SqL.of w5⟩,(leZ rfl),nw fun l5 H6 d1 s6 u6 =>?_⟩;have w6:=s6 _ _ w5;have a8:=s5.trans s6;have pm:(0:Int) < (m:Int):=by lia
   refine⟨l5,_,_,_,rfl,rfl,SqL.of u6,em,pm,?_⟩;obtain⟨d,hd,ed⟩:∃ d:Nat,d < 4∧val % (m:Int)=(d:Int):=by
    have h1:=JA val (show (m:Int)≠0 by lia);have h2:=Jf val pm;exact⟨(val % (m:Int)).toNat,by lia,by lia⟩
   have key:∃ c:Int,atI [V.int 0,V.int 1,V.int Y,V.int c3] (d:Int)=some (.int c)∧(0≤c∧c≤35):=by
    rcases d with _|_|_|_|d
    ·exact⟨0,rfl,by decide,by decide⟩
    ·exact⟨1,rfl,by decide,by decide⟩
    ·exact⟨Y,rfl,b4⟩
    ·exact⟨c3,rfl,b6⟩
    ·lia
   obtain⟨c,ec,hc⟩:=key;have tl:=bS.lst (ys:=xs++[V.int c]) w6;refine⟨lf,_,_,.int c,rfl,rfl,SqL.of ((s3.trans a8) _ _ u1),by rw[ed];exact ec,U,xs,_,rfl,rfl,w6,cz (by lia),ak.set a8 a1 _,xs++[V.int c],_,_,_,ah,by rw[Hs,a6];rfl,fun y hy =>?_,rfl⟩;rcases HD.mp hy with hy|hy
   ·obtain⟨t,h1,h2⟩:=a3 y hy;exact⟨t,h1.up (s6.tups.trans tl),h2⟩
   ·rw[Hv.mp hy];exact⟨.col c,.col c,aP.col hc,Ht _⟩
  ·rintro σ H5 ⟨s5,xs,c4,c5,c6,w5,a6,a3,rfl⟩;have w5':=s5 _ _ w3;refine⟨.inl ⟨rfl,_,SqL.of w5'⟩,lw,rs,_,rfl,rfl,w5',cz (by lia),ak.set (s3.trans s5) b7 _,rs++[V.ref U],_,_,_,_,_,_,ah,by rw[Hs,a5];rfl,fun r hr =>?_,rfl⟩;rcases HD.mp hr with hr | hr
   ·exact ((a2 r hr).up s5).set w5'
   ·rw[Hv.mp hr];exact iA.set ⟨U,xs,rfl,c0.symm,w5,by assumption,a3⟩ w5'
 ·rintro σ H3 ⟨s3,rs,o7,o8,o9,G,J,O,w3,a5,a2,rfl⟩;exact (q' lw H3 (s1.trans s3) ⟨rs,w3,by assumption,a2⟩)
abbrev dM:Stmt:=top 50
theorem bo:aE ["_law_rows","_law_above","_law_y","_law_row","_law_x","_law_some"] ["_law_rows"] (aq dM):={}
inductive fA  (vs:List V)(H:Hp)(Q:VK):Prop
 | mk (l:Addr) (n:Nat) (h_0:vs=[.ref l]) (h_1:xO H l (2 ^ n) 0) (h_2:n≤3) (h_3:∀ v t H',ak H H'→bT H' v t→aP n t→cnt t≤4 ^ n→Q v H'):fA  vs H Q
def dv:Sp:=fun vs H Q _=>fA  vs H Q
theorem kE (T:Tx K mg)(q:bZ CX)(F:bu K "_law_tree_of_rows" "_law_tree_of_rows" dM f fd .none)(B:Fok P w K mg base CX 1 "_law_tree_of" ["_law_a","_law_b","_law_c","_law_d"] [] gf):bA P w K mg base CX 2 f fd ["_law_rows"] dv:=by
 refine F.ok bo (fun vs H Q E h =>?_) (fun c4 A outer s H vs Q E hr h =>?_)
 ·obtain⟨_,_,rfl,_⟩:=h;rfl
 obtain⟨l0,n,rfl,b3,hn,q'⟩:=h;refine⟨_,(ac (jL HK (aF kP (aB bC rfl T.b_len cR (aa (pv 0) af)) ae) (ac (av (i:=1) bo (aK am)) (ac (aN HK rfl (kj rfl T.b_range (aa ae (aa (aB bC rfl T.b_len cR (aa (pv 0) af)) (aa ae af)))) (aR (i:=2) bo) (ac (av (i:=3) bo (aK am)) (ac (aN HK rfl (kj rfl T.b_range (aa ae (aa (aB bC rfl T.b_len cR (aa (pv 0) af)) (aa ae af)))) (aR (i:=4) bo) (ac (av (i:=5) bo (ai tP (c_ x_ (au bj (pv 0) (pv 2)) (dq (pv 4)) (dq (ai aI (pv 4) ae))) (c_ x_ (au bj (pv 0) (ai aI (pv 2) ae)) (dq (pv 4)) (dq (ai aI (pv 4) ae))))) (ag (aW (a_ (pv 3) (aa (aj B q hr (aa (au bj (pv 5) ae) (aa (au bj (pv 5) ae) (aa (au bj (pv 5) ae) (aa (au bj (pv 5) ae) af))))) af)))))) (ag (aW (a_ (pv 1) (aa (pv 3) af))))))) (ag (av (i:=0) bo (pv 1)))))) (ag (aA (au bj (au bj (pv 0) ae) ae)))),?_⟩;refine pP (fun σ H2=>ak H H2∧∃ (l:Addr) (k j:Nat) (o1 o2 o3 U Y:Option V),xO H2 l (2 ^ k) j∧j + k=n∧σ=[some (.ref l),o1,o2,o3,U,Y]) (fun σ H2=>match σ with|some (.ref l)::_=>(match H2 l with|some (.lst J)=>J.length|_=>0)|_=>0) ⟨ak.refl H,l0,n,0,none,none,none,none,none,b3,by simp,rfl⟩ ?_ ?_
 ·rintro σ H2 ⟨s2,l,k,j,o1,o2,o3,U,Y,hR,c5,rfl⟩;obtain⟨J,hl,a6,a8⟩:=id hR;have p8:2 ^ k≤8:=H_ (IU (by decide) (show k≤3 by lia)) (by decide);refine⟨_,_,rfl,.inl ⟨_,SqL.of hl,rfl⟩,bE (az (aY (fun hc =>?_) (fun hc =>?_)))⟩
  ·have hc':(1:Int) < ((J.length:Nat):Int):=HG hc;obtain⟨k,rfl⟩:∃ k',k=k' + 1:=by
    rcases k with _|k
    ·have e1:J.length=1:=a6
     lia
    ·exact⟨k,rfl⟩
   have e2:2 ^ (k + 1)=2 * 2 ^ k:=by rw[IR];lia
   obtain⟨sm,sz⟩:=GY k (by lia);have get:∀ a b,a < 2 ^ (k + 1)→b + 1 < 2 ^ (k + 1)→∃ lr xs v t v' t',J[a]? = some (V.ref lr)∧H2 lr=some (.lst xs)∧xs[b]? = some v∧xs[b + 1]? = some v'∧(bT H2 v t∧aP j t∧cnt t≤4 ^ j)∧(bT H2 v' t'∧aP j t'∧cnt t'≤4 ^ j):=fun a b ha hb=>by
    obtain⟨r,er⟩:∃ r,J[a]? = some r:=⟨_,HU (by lia)⟩;obtain⟨lr,xs,rfl,_,h1,h2,h3⟩:=a8 r (HH er);obtain⟨v,ev⟩:∃ v,xs[b]? = some v:=⟨_,HU (by lia)⟩;obtain⟨v',a9⟩:∃ v',xs[b + 1]? = some v':=⟨_,HU (by lia)⟩;obtain⟨t,h4⟩:=h3 v (HH ev);obtain⟨t',h5⟩:=h3 v' (HH a9);exact⟨lr,xs,v,t,v',t',er,h1,ev,a9,h4,h5⟩
   refine⟨(leZ rfl),nw fun la H3 b4 s3 w3 =>?_⟩;have el:((J.length:Nat):Int)=((2 ^ (k + 1):Nat):Int):=by rw[a6]
   refine⟨_,_,rfl,.inl ⟨_,SqL.of (s3 _ _ hl),rfl⟩,0,((2 ^ (k + 1):Nat):Int),2,2 ^ k,(by show [V.int 0,V.int ((J.length:Nat):Int),V.int 2]=_;rw[el]),by decide,by decide,sm,sz,fO (fun i σ H4=>ak H2 H4∧∃ (as:List V) (o2 o3 U Y:Option V),H4 la=some (.lst as)∧as.length=i∧(∀ r∈as,iA H4 la r (2 ^ k) (j + 1))∧σ=[some (.ref l),some (.ref la),o2,o3,U,Y]) ⟨s3,[],o2,o3,U,Y,w3,rfl,fun r h=>(by cases h),rfl⟩ ?_ ?_⟩
   ·rintro i σ H4 hi ⟨s4,as,o2,o3,U,Y,w4,a7,has,rfl⟩;refine⟨(leZ rfl),nw fun O H5 a5 s5 w5 =>?_⟩;have b5:la≠O:=bH w4 a5;refine⟨_,_,rfl,.inl ⟨_,SqL.of ((s4.trans s5) _ _ hl),rfl⟩,0,((2 ^ (k + 1):Nat):Int),2,2 ^ k,(by show [V.int 0,V.int ((J.length:Nat):Int),V.int 2]=_;rw[el]),by decide,by decide,sm,sz,fO (fun x σ H6=>ak H4 H6∧∃ (xs:List V) (U Y:Option V),H6 O=some (.lst xs)∧xs.length=x∧(∀ v∈xs,∃ t,bT H6 v t∧aP (j + 1) t∧cnt t≤4 ^ (j + 1))∧σ=[some (.ref l),some (.ref la),some (.int (0 + (i:Int) * 2)),some (.ref O),U,Y]) ⟨s5,[],U,Y,w5,rfl,fun r h=>(by cases h),rfl⟩ ?_ ?_⟩
    ·rintro x σ H6 hx ⟨s6,xs,U,Y,w6,b0,a0,rfl⟩;have G:=s4.trans s6;obtain⟨l0,x0,va,ta,vb,tb,ea,ua,fa,fb,⟨ka,ga,ca⟩,⟨kb,gb,cb⟩⟩:=get (2 * i) (2 * x) (by lia) (by lia);obtain⟨l2,x2,vc,tc,vd,td,ec,uc,fc,b6,⟨kc,gc,cc⟩,⟨kd,gd,cd⟩⟩:=get (2 * i + 1) (2 * x) (by lia) (by lia);have iy:(0:Int) + (i:Int) * 2=((2 * i:Nat):Int):=by lia
     have b7:(0:Int) + (i:Int) * 2 + 1=((2 * i + 1:Nat):Int):=by lia
     have ix:(0:Int) + (x:Int) * 2=((2 * x:Nat):Int):=by lia
     have b1:(0:Int) + (x:Int) * 2 + 2=((2 * x + 2:Nat):Int):=by lia
     have da:=ga.deep;have db:=gb.deep;have dc:=gc.deep;have dd:=gd.deep;have sl:=SqL.of (K:=K) (G _ _ hl);have cu:wn x0 (some ((0:Int) + (x:Int) * 2)) (some ((0:Int) + (x:Int) * 2 + 2))=[va,vb]:=by rw[b1,ix];exact GD fa fb
     have cv:wn x2 (some ((0:Int) + (x:Int) * 2)) (some ((0:Int) + (x:Int) * 2 + 2))=[vc,vd]:=by rw[b1,ix];exact GD fc b6
     refine⟨l,_,_,.ref l0,rfl,rfl,sl,(by rw[iy];exact bD ea),_,rfl,_,rfl,l0,x0,rfl,SqL.of (G _ _ ua),fun p1 b8 =>?_⟩;rw[cu];have sa:=ak.new b8 (.lst [va,vb]);have ub:upd H6 p1 (.lst [va,vb]) p1=some (.lst [va,vb]):=ah;generalize upd H6 p1 (.lst [va,vb])=HA at *;have b2:=G.trans sa;refine⟨l,_,_,.ref l2,rfl,rfl,SqL.of (b2 _ _ hl),(by rw[b7];exact bD ec),_,rfl,_,rfl,l2,x2,rfl,SqL.of (b2 _ _ uc),fun p2 b9 =>?_⟩;rw[cv];have sb:=ak.new b9 (.lst [vc,vd]);have ud:upd HA p2 (.lst [vc,vd]) p2=some (.lst [vc,vd]):=ah;have c0:=sb _ _ ub;generalize upd HA p2 (.lst [vc,vd])=HB at *;refine⟨p1,p2,_,_,rfl,rfl,c0,ud,(leZ rfl),fun p3 c1 =>?_⟩;have sc:=ak.new c1 (.lst ([va,vb]++[vc,vd]));have ue:upd HB p3 (.lst ([va,vb]++[vc,vd])) p3=some (.lst [va,vb,vc,vd]):=ah;generalize upd HB p3 (.lst ([va,vb]++[vc,vd]))=HC at *;have a1:=sa.trans (sb.trans sc);have c2:=G.trans a1;have w6:=a1 _ _ w6;have a4:=SqL.of (K:=K) ue;refine⟨.inl ⟨rfl,_,SqL.of w6⟩,p3,_,_,va,rfl,rfl,a4,bD (j:=0) rfl,p3,_,_,vb,rfl,rfl,a4,bD (j:=1) rfl,p3,_,_,vc,rfl,rfl,a4,bD (j:=2) rfl,p3,_,_,vd,rfl,rfl,a4,bD (j:=3) rfl,?_⟩
     replace s6:=s6.trans a1
     replace G:=c2
     replace a0:∀ v∈xs,∃ t,bT HC v t∧aP (j + 1) t∧cnt t≤4 ^ (j + 1):=fun v hv=>by
      obtain⟨t,h1,h2⟩:=a0 v hv;exact⟨t,h1.up a1.tups,h2⟩
     refine⟨va,vb,vc,vd,ta,tb,tc,td,rfl,ka.up G.tups,kb.up G.tups,kc.up G.tups,kd.up G.tups,⟨by lia,by lia,by lia,by lia⟩,fun v' H7 s7 c3 =>?_⟩;have w7:=s7 _ _ w6;have tl:=bS.lst (ys:=xs++[v']) w7;refine⟨O,xs,_,rfl,rfl,w7,cz (by lia),ak.set (s6.trans s7) a5 _,xs++[v'],_,_,ah,by rw[Hs,b0];rfl,fun y hy =>?_,rfl⟩;rcases HD.mp hy with hy | hy
     ·obtain⟨t,h1,h2⟩:=a0 y hy;exact⟨t,h1.up (s7.tups.trans tl),h2⟩
     ·rw[Hv.mp hy];have cg:=wu ta tb tc td;exact⟨_,c3.up tl,si ga gb gc gd,by rw[IR];lia⟩
    ·rintro σ H6 ⟨s6,xs,c6,c7,w6,b0,a0,rfl⟩;have w6':=s6 _ _ w4;refine⟨.inl ⟨rfl,_,SqL.of w6'⟩,la,as,_,rfl,rfl,w6',cz (by lia),ak.set (s4.trans s6) b4 _,as++[V.ref O],_,_,_,_,ah,by rw[Hs,a7];rfl,fun r hr =>?_,rfl⟩;rcases HD.mp hr with hr | hr
     ·exact ((has r hr).up s6).set w6'
     ·rw[Hv.mp hr];exact iA.set ⟨O,xs,rfl,b5.symm,w6,by omega,a0⟩ w6'
   ·rintro σ H4 ⟨s4,as,o2,o3,U,Y,w4,a7,has,rfl⟩;refine⟨⟨s2.trans s4,la,k,j + 1,_,_,_,_,_,⟨as,w4,a7,has⟩,by lia,rfl⟩,?_⟩;show (match H4 la with | some (.lst J)=>J.length | _=>0) < (match H2 l with | some (.lst J)=>J.length | _=>0);rw[w4,hl];show as.length < J.length
    lia
  ·have hc':¬ (1:Int) < ((J.length:Nat):Int):=fun z=>hc (Hr z);have k0:k=0:=by
    rcases k with _|k
    ·rfl
    ·have:2≤2 ^ (k + 1):=by rw[IR];have:=IX k;lia
     lia
   subst k0;obtain⟨r,er⟩:∃ r,J[0]? = some r:=⟨_,HU (by rw[a6];decide)⟩;obtain⟨lr,xs,rfl,_,h1,h2,h3⟩:=a8 r (HH er);obtain⟨v,ev⟩:∃ v,xs[0]? = some v:=⟨_,HU (by rw[h2];decide)⟩;obtain⟨t,h4,h5,h6⟩:=h3 v (HH ev);have ej:j=n:=by omega
   subst ej;exact⟨l,_,_,.ref lr,rfl,rfl,SqL.of hl,bD er,lr,_,_,v,rfl,rfl,SqL.of h1,bD ev,q' v t H2 s2 h4 h5 h6⟩
 ·intro σ H' Q1 Q2 hq h_;obtain⟨_,e1,h_⟩:=aM h_;obtain⟨a2,a3,e2,e3,h_⟩:=h_;obtain⟨_,_,e4,e5,h_⟩:=ko h_;obtain⟨_,e6,h⟩:=ff h_;exact (bc e1 ⟨a2,a3,e2,e3,xr e4 e5 (lS e6 (hq _ _ h))⟩)
end
theorem DD:∀ k:Nat,k < 4→∃ m:Nat,atI [V.int 2,V.int 3,V.int 4,V.int 36] (k:Int)=some (V.int (m:Int))∧0 < m∧m≤36:=by
 intro k B;rcases k with _ | _ | _ | _ | k
 ·exact⟨2,rfl,by decide,by decide⟩
 ·exact⟨3,rfl,by decide,by decide⟩
 ·exact⟨4,rfl,by decide,by decide⟩
 ·exact⟨36,rfl,by decide,by decide⟩
 ·lia
theorem u_ (a b:Bool):∃ m:Nat,atI [V.int 5,V.int 2,V.int 1] ((if a=true then (1:Int) else 0) + (if b=true then (1:Int) else 0))=some (V.int (m:Int))∧m≤5:=by
 cases a<;>cases b
 ·exact⟨5,rfl,by decide⟩
 ·exact⟨2,rfl,by decide⟩
 ·exact⟨2,rfl,by decide⟩
 ·exact⟨1,rfl,by decide⟩
section
variable {P:Program}{w:World}{K:PySem.W.Frag}{mg:Str→Option Value}{base:Heap}{CX:CXT}{f:Addr}{fd:FuncData}
abbrev cW:Stmt:=top 51
theorem ao:aE ["_law_cell","_law_rest","_law_level","_law_many","_law_base","_law_rows","_law_y","_law_row","_law_x","_law_paints_here","_law_k","_law_code_here","_law_size","_law_colour_here","_law_j"] ["_law_cell"] (aq cW):={}
inductive iB  (vs:List V)(H:Hp)(Q:VK):Prop
 | mk (c:Int) (h_0:vs=[.int c]) (h_1:∀ v n t H',ak H H'→CD H' v ((n:Nat):Int) t→n≤40→aP n t→cnt t≤1500→Q v H'):iB  vs H Q
def i9:Sp:=fun vs H Q _=>iB  vs H Q
theorem iY (T:Tx K mg)(q:bZ CX)(F:bu K "_law_sheet_by_digits" "_law_sheet_by_digits" cW f fd .none)(B:Fok P w K mg base CX 2 "_law_tree_of_rows" ["_law_rows"] [] dv)(G:Fok P w K mg base CX 43 "_law_tree_by" ["_law_paints_here"] [] (dX 41)):bA P w K mg base CX 44 f fd ["_law_cell"] i9:=by
 refine F.ok ao (fun vs H Q E h =>?_) (fun d0 A outer s H vs Q E hr h =>?_)
 ·obtain⟨_,rfl,_⟩:=h;rfl
 obtain⟨c,rfl,q'⟩:=h;refine⟨_,(ac (av (i:=1) ao (ai aJ (pv 0) ae)) (ac (aQ (aF dS (ai aL (pv 0) ae) ae) (ac (av (i:=2) ao (ai aL (pv 1) ae)) (ac (av (i:=3) ao (au aw (aD (ap ae (ap ae (ap ae (ap ae am))))) (ai aL (ai aJ (pv 1) ae) ae))) (ac (av (i:=4) ao (ai aL (ai aJ (pv 1) ae) ae)) (ac (av (i:=1) ao (ai aJ (pv 1) ae)) (ac (av (i:=5) ao (aK am)) (ac (aN HK rfl (bQ rfl T.b_range (aa (ai tN ae (pv 2)) af)) (aR (i:=6) ao) (ac (av (i:=7) ao (aK am)) (ac (aN HK rfl (bQ rfl T.b_range (aa (ai tN ae (pv 2)) af)) (aR (i:=8) ao) (ac (aW (a_ (pv 7) (aa (ai aL (ai aI (pv 4) (ai aL (pv 1) (pv 3))) ae) af))) (ag (av (i:=1) ao (ai aJ (pv 1) (pv 3)))))) (ag (aW (a_ (pv 5) (aa (pv 7) af))))))) (ag (aA (aD (ap (pv 2) (ap (aj B q hr (aa (pv 5) af)) am))))))))))) aG) (ac (av (i:=2) ao (ai aL (pv 1) ae)) (ac (av (i:=4) ao (ai aL (ai aJ (pv 1) ae) ae)) (ac (av (i:=1) ao (ai aJ (pv 1) ae)) (ac (av (i:=9) ao (aK (ap (aD (ap cq (ap (pv 4) am))) am))) (ac (aN HK rfl (bQ rfl T.b_range (aa (au bj (aK (ap ae (ap ae (ap ae am)))) (ai aI (bI eY rfl T.b_int eA (aa (dt kP (pv 2) ae) af)) (bI eY rfl T.b_int eA (aa (dt kP (pv 2) ae) af)))) af)) (aR (i:=10) ao) (ac (av (i:=11) ao cq) (ac (av (i:=12) ao (ai aL (pv 1) (ai aI (pv 2) ae))) (ac (av (i:=13) ao (ai aL (ai aJ (pv 1) (ai aI (pv 2) ae)) ae)) (ac (av (i:=1) ao (ai aJ (pv 1) (ai aI (ai cQ ae (pv 2)) ae))) (ac (aN HK rfl (bQ rfl T.b_range (aa (pv 12) af)) (aR (i:=14) ao) (ac (av (i:=11) ao (ai cJ (pv 11) (au jR cq (ai aL (pv 1) ae)))) (ag (av (i:=1) ao (ai aJ (pv 1) ae))))) (ag (aW (a_ (pv 9) (aa (aD (ap (pv 11) (ap (pv 13) am))) af)))))))))) (ag (aA (aD (ap (pv 2) (ap (aj G q hr (aa (pv 9) af)) am)))))))))))),?_⟩;have a0:2≤sizeLine:=by decide
 refine⟨ci (by decide) (by decide),?_⟩;dsimp only;generalize c / 2=r;refine⟨(by show (0:Int) < 2;decide),rfl,az (aY (fun _ =>?_) (fun _ =>?_))⟩
 ·obtain⟨n,hn,en⟩:∃ n:Nat,n≤3∧r % 4=(n:Int):=⟨(r % 4).toNat,by lia,by lia⟩;refine⟨(by show (0:Int) < 4;decide),?_⟩;rw[show V.int _=V.int (n:Int) from Ij V.int en];refine⟨(leZ rfl),nw fun p0 H1 b5 s1 u1 =>?_⟩;obtain⟨k,hk,ek⟩:∃ k:Nat,k < 4∧r / 4 % 4=(k:Int):=⟨(r / 4 % 4).toNat,by lia,by lia⟩;obtain⟨m,em,d1,hm⟩:=DD k hk;refine⟨ci (by decide) (by decide),(by show (0:Int) < 4;decide),p0,_,_,.int (m:Int),rfl,rfl,SqT.of u1,(by rw[ek];exact em),?_⟩;obtain⟨J,a3,a4⟩:∃ J:Int,r / 16 % 36=J∧(0≤J∧J≤35):=⟨_,rfl,by lia⟩;refine⟨ci (by decide) (by decide),(by show (0:Int) < 36;decide),?_⟩;rw[show V.int _=V.int J from Ij V.int a3];refine⟨ci (by decide) (by decide),?_⟩;dsimp only;generalize r / 576=r2;refine⟨(leZ rfl),nw fun lw H2 c0 s2 w2 =>?_⟩;have a1:Aw 1 (n:Int):=⟨by simp,by lia,by decide⟩;have ew:(1:Int) * 2 ^ ((n:Int)).toNat=((2 ^ n:Nat):Int):=by rw[Iy];simp
  have c2:2 ^ n≤8:=H_ (IU (by decide) hn) (by decide);have d2:4 ^ n≤64:=H_ (IU (by decide) hn) (by decide);obtain⟨W,eW⟩:∃ W,W=2 ^ n:=⟨_,rfl⟩;rw[← eW]at ew c2;refine⟨a1,(W:Int),(by show [V.int (1 * 2 ^ ((n:Int)).toNat)]=_;rw[ew]),by simp,by lia,bV (fun i σ H3=>ak H1 H3∧∃ (rs:List V) (rest:Int) (o6 o7 o8:Option V),H3 lw=some (.lst rs)∧rs.length=i∧(∀ r∈rs,iA H3 lw r W 0)∧σ=[some (.int c),some (.int rest),some (.int (n:Int)),some (.int (m:Int)),some (.int J),some (.ref lw),o6,o7,o8,none,none,none,none,none,none]) ⟨s2,[],r2,none,none,none,w2,rfl,fun r h=>(by cases h),rfl⟩ ?_ ?_⟩
  ·rintro i σ H3 hi ⟨s3,rs,rest,o6,o7,o8,w3,b6,a5,rfl⟩;refine⟨(leZ rfl),nw fun Y H4 a2 s4 w4 =>?_⟩;have c3:lw≠Y:=bH w3 a2;refine⟨a1,(W:Int),(by show [V.int (1 * 2 ^ ((n:Int)).toNat)]=_;rw[ew]),by simp,by lia,bV (fun x σ H5=>ak H3 H5∧∃ (xs:List V) (rest:Int) (o8:Option V),H5 Y=some (.lst xs)∧xs.length=x∧(∀ x∈xs,∃ t,bT H5 x t∧aP 0 t∧cnt t≤4 ^ 0)∧σ=[some (.int c),some (.int rest),some (.int (n:Int)),some (.int (m:Int)),some (.int J),some (.ref lw),some (.int (0 + (i:Int))),some (.ref Y),o8,none,none,none,none,none,none]) ⟨s4,[],rest,o8,w4,rfl,fun r h=>(by cases h),rfl⟩ ?_ ?_⟩
   ·rintro x σ H5 hx ⟨s5,xs,rest,o8,w5,b7,a6,rfl⟩;have pm:(0:Int) < (m:Int):=by lia
    refine⟨.inl ⟨rfl,_,SqL.of w5⟩,pm,(by show (0:Int) < 36;decide),?_⟩;obtain⟨O,a7,a8⟩:∃ O:Int,(J + rest % (m:Int)) % 36=O∧(0≤O∧O≤35):=⟨_,rfl,by lia⟩;rw[show V.int _=V.int O from Ij V.int a7];have tl:=bS.lst (ys:=xs++[V.int O]) w5;refine⟨Y,xs,_,rfl,rfl,w5,cz (by lia),?_⟩;refine⟨ci pm (by lia),ak.set s5 a2 _,xs++[V.int O],_,_,ah,by rw[Hs,b7];rfl,fun y hy =>?_,rfl⟩;rcases HD.mp hy with hy | hy
    ·obtain⟨t,h1,h2⟩:=a6 y hy;exact⟨t,h1.up tl,h2⟩
    ·rw[Hv.mp hy];exact⟨.col O,.col O,aP.col a8,Ht _⟩
   ·rintro σ H5 ⟨s5,xs,rest,o8,w5,b7,a6,rfl⟩;have w5':=s5 _ _ w3;refine⟨.inl ⟨rfl,_,SqL.of w5'⟩,lw,rs,_,rfl,rfl,w5',cz (by lia),ak.set (s3.trans s5) c0 _,rs++[V.ref Y],_,_,_,_,ah,by rw[Hs,b6];rfl,fun r hr =>?_,rfl⟩;rcases HD.mp hr with hr | hr
    ·exact ((a5 r hr).up s5).set w5'
    ·rw[Hv.mp hr];exact iA.set ⟨Y,xs,rfl,c3.symm,w5,by assumption,a6⟩ w5'
  ·rintro σ H3 ⟨s3,rs,rest,o6,o7,o8,w3,b6,a5,rfl⟩;refine⟨lw,n,rfl,⟨rs,w3,?_,fun r hr =>?_⟩,hn,fun v t H4 s4 hv gt ct=>⟨a0,fun p hp =>?_⟩⟩
   ·rw[← eW];assumption
   ·rw[← eW];exact a5 r hr
   have s5:=ak.new hp (.tup [.int (n:Int),v]);exact q' _ n t _ (s1.trans (s3.trans (s4.trans s5))) ⟨p,v,rfl,ah,hv.up s5.tups⟩ (by lia) gt (by lia)
 ·obtain⟨n,hn,en⟩:∃ n:Nat,n≤40∧r % 41=(n:Int):=⟨(r % 41).toNat,by lia,by lia⟩;refine⟨(by show (0:Int) < 41;decide),?_⟩;rw[show V.int _=V.int (n:Int) from Ij V.int en];obtain⟨J,a3,a4⟩:∃ J:Int,r / 41 % 36=J∧(0≤J∧J≤35):=⟨_,rfl,by lia⟩;refine⟨ci (by decide) (by decide),(by show (0:Int) < 36;decide),?_⟩;rw[show V.int _=V.int J from Ij V.int a3];refine⟨ci (by decide) (by decide),?_⟩;dsimp only;generalize r / 1476=r2;refine⟨a0,fun p0 b5 =>?_⟩;generalize e1:upd H p0 _=H1;have s1:ak H H1:=e1▸ak.new b5 _;have v1:H1 p0=some (.tup [.str ("" : Str),.int J]):=by rw[← e1];exact ah
  refine⟨(leZ rfl),nw fun la H2 c4 s2 w2 =>?_⟩;have v2:=s2 _ _ v1;refine⟨(leZ rfl),nw fun l3 H3 d3 s3 u3 =>?_⟩;have w3:=s3 _ _ w2;have v3:=s3 _ _ v2;obtain⟨m,em,hm⟩:=u_ (decide ((n:Int) > 8)) (decide ((n:Int) > 20));have c5:=s2.trans s3;refine (.inr ⟨_,rfl,.inr ⟨_,rfl,l3,_,_,.int (m:Int),rfl,rfl,SqL.of u3,em,(m:Int),rfl,by simp,by lia,bV (fun (i:Nat) σ H4=>ak H1 H4∧∃ (us:List V) (M:List (List Nat × Int)) (rest:Int) (a9 b1 b2 b3 U:Option V),H4 la=some (.lst us)∧bz H4 n us (([],J)::M)∧M.length=i∧i≤m∧σ=[some (.int c),some (.int rest),some (.int (n:Int)),none,some (.int J),none,none,none,none,some (.ref la),a9,b1,b2,b3,U])
   ⟨c5,[.ref p0],[],r2,none,none,none,none,none,w3,.cons ⟨p0,("" : Str),rfl,v3,dE▸IsC.nil,iz,by rw[show ("" : Str).length=0 by decide +kernel];simp,a4⟩ .nil,rfl,HE _,rfl⟩ ?_ ?_⟩⟩)
  ·rintro i σ H4 hi ⟨s4,us,M,rest,a9,b1,b2,b3,U,w4,hM,lM,c6,rfl⟩;have him':i < m:=by rw[Iy]at hi;exact hi
   have pn:(0:Int) < (n:Int) + 1:=by simp
   obtain⟨sz,hsz,c7⟩:∃ sz:Nat,sz≤n∧rest % ((n:Int) + 1)=(sz:Int):=by
    have h1:=JA rest (show (n:Int) + 1≠0 by lia);have h2:=Jf rest pn;exact⟨(rest % ((n:Int) + 1)).toNat,by lia,by lia⟩
   refine⟨pn,?_⟩;rw[show V.int _=V.int (sz:Int) from Ij V.int c7];obtain⟨O,a7,a8⟩:∃ O:Int,rest / ((n:Int) + 1) % 36=O∧(0≤O∧O≤35):=⟨_,rfl,by lia⟩;refine⟨ci pn (by lia),(by show (0:Int) < 36;decide),?_⟩;rw[show V.int _=V.int O from Ij V.int a7];refine⟨.inl ⟨by decide,by decide⟩,ci (by show (0:Int) < 36 * (n:Int) + 36;lia) (by show 36 * (n:Int) + 36 < _;lia),?_⟩;dsimp only;generalize rest / (36 * (n:Int) + 36)=r3;refine⟨(sz:Int),rfl,by simp,by lia,bV (fun (j:Nat) σ H5=>H5=H4∧∃ (z:Str) (rest:Int) (U:Option V),IsC z∧z.length=j∧σ=[some (.int c),some (.int rest),some (.int (n:Int)),none,some (.int J),none,none,none,none,some (.ref la),some (.int (0 + (i:Int))),some (.str z),some (.int (sz:Int)),some (.int O),U]) ⟨rfl,"",r3,U,dE▸IsC.nil,by decide +kernel,rfl⟩ ?_ ?_⟩
   ·rintro j σ H5 hj ⟨rfl,z,rest,U,hz,lz,rfl⟩;have hj':j < sz:=by rw[Iy]at hj;exact hj
    obtain⟨d,b8,ed⟩:∃ d:Nat,d < 4∧rest % 4=(d:Int):=⟨(rest % 4).toNat,by lia,by lia⟩;refine⟨(by show (0:Int) < 4;decide),_,_,48 + d,rfl,rfl,Bg,(by rw[ed];exact FH b8),_,_,rfl,rfl,?_,?_⟩
    ·show z.length + 1≤sizeLine;exact small (by lia)
    ·exact⟨ci (by decide) (by decide),rfl,z++one d,_,_,IsC.app hz (IsC.one b8),by rw[gP,lz];rfl,rfl⟩
   ·rintro σ H5 ⟨rfl,z,rest,U,hz,lz,rfl⟩;rw[Iy]at lz;have b4:=hM.len;rw[HX]at b4;refine⟨.inl ⟨rfl,_,SqL.of w4⟩,a0,fun pn c8 =>?_⟩;generalize e6:upd H5 pn _=H6;have s6:ak H5 H6:=e6▸ak.new c8 _;have w6:H6 pn=some (.tup [.str z,.int O]):=by rw[← e6];exact ah
    have u6:=s6 _ _ w4;have tl:=bS.lst (ys:=us++[V.ref pn]) u6;refine⟨la,us,_,rfl,rfl,u6,cz (by lia),ak.set (s4.trans s6) c4 _,us++[V.ref pn],M++[(dig z,O)],_,_,_,_,_,_,ah,?_,by rw[Hs,lM];rfl,him',rfl⟩;exact (hM.up (s6.tups.trans tl)).app (.cons ⟨pn,z,rfl,tl _ _ w6,hz,rfl,by lia,a8⟩ .nil)
  ·rintro σ H4 ⟨s4,us,M,rest,a9,b1,b2,b3,U,w4,hM,lM,c6,rfl⟩;have b4:=hM.len;rw[HX]at b4;refine⟨la,us,_,n,rfl,w4,hM,by lia,by decide,by lia,fun vd H5 s5 c9=>⟨a0,fun p hp =>?_⟩⟩;have hvd':bT H5 vd (bn (.col J) M):=c9;have e5:=ak.new hp (.tup [.int (n:Int),vd]);have b9:∀ p∈M,POk n p:=fun p hp=>hM.ok p (HF _ hp);have ca:=uI M (.col J) b9;have c1:cnt (Tr.col J)=1:=rfl;have cb:(3 * n + 1) * M.length≤121 * 5:=Jr (by lia) (by lia);exact q' _ n _ _ (s1.trans (s4.trans (s5.trans e5))) ⟨p,vd,rfl,ah,hvd'.up e5.tups⟩ hn (mM M _ b9 (aP.col a4)) (by lia)
theorem Hi {c A R:Prop}[Decidable c](h:A)(g:A→c→R):if c then R else A:=by
 by_cases hc:c
 ·rw[if_pos hc];exact g h hc
 ·rw[if_neg hc];exact h
abbrev jE:Stmt:=top 52
theorem di:aE ["_law_script","_law_level","_law_most","_law_paints_here"] ["_law_script"] (aq jE):={}
inductive kZ  (K:PySem.W.Frag)(vs:List V)(H:Hp)(Q:VK):Prop
 | mk (a:Addr) (ns:List Int) (h_0:vs=[.ref a]) (h_1:SqL K H a (ns.map V.int)) (h_2:ns.length≤63) (h_3:∀ v n t H',ak H H'→CD H' v ((n:Nat):Int) t→n≤40→aP n t→cnt t≤1500→Q v H'):kZ K vs H Q
def mi  (K:PySem.W.Frag):Sp:=fun vs H Q _=>kZ K vs H Q
theorem tV (T:Tx K mg)(q:bZ CX)(F:bu K "_law_sheet" "_law_sheet" jE f fd .none)(B:Fok P w K mg base CX 1 "_law_at" ["_law_script","_law_k"] [] (iq K))(G:Fok P w K mg base CX 44 "_law_sheet_by_digits" ["_law_cell"] [] i9)(J:Fok P w K mg base CX 2 "_law_tree_of_rows" ["_law_rows"] [] dv)(a1:Fok P w K mg base CX 2 "_law_grid" ["_law_script","_law_first","_law_level"] [] (n_ K))(Y:Fok P w K mg base CX 3 "_law_paints" ["_law_script","_law_first","_law_most","_law_level"] [] (kL K))(a0:Fok P w K mg base CX 1 "_law_colour" ["_law_cell"] [] gW)(U:Fok P w K mg base CX 43 "_law_tree_by" ["_law_paints_here"] [] (dX 41)):
  bA P w K mg base CX 45 f fd ["_law_script"] (mi K):=by
 refine F.ok di (fun vs H Q E h =>?_) (fun b8 A outer s H vs Q E hr h =>?_)
 ·obtain⟨_,_,rfl,_⟩:=h;rfl
 obtain⟨a,ns,rfl,hS,O,q'⟩:=h;refine⟨_,(ac (aQ (PW.pt (qm (aF dS (ai aL (ai aJ (aj B q hr (aa (pv 0) (aa ae af))) ae) ae) ae) (tI (cH (jK eK eK (yl sP (ai Bz ae ae)) (aj B q hr (aa (pv 0) (aa ae af))) (ai Bz ae ae)))))) (ag (aA (aj G q hr (aa (aj B q hr (aa (pv 0) (aa ae af))) af)))) aG) (ac (aQ (aF eK (ai aL (aj B q hr (aa (pv 0) (aa ae af))) ae) ae) (ac (av (i:=1) di (ai aL (ai aJ (aj B q hr (aa (pv 0) (aa ae af))) ae) ae)) (ag (aA (aD (ap (pv 1) (ap (aj J q hr (aa (aj a1 q hr (aa (pv 0) (aa ae (aa (pv 1) af)))) af)) am)))))) aG) (ac (av (i:=1) di (ai aL (ai aI (aj B q hr (aa (pv 0) (aa ae af))) ae) ae)) (ac (Bk (aQ (aF dS (ai aL (aj B q hr (aa (pv 0) (aa ae af))) ae) ae) (ag (av (i:=1) di (ai aI ae (ai aL (pv 1) ae)))) aG)) (ac (av (i:=2) di (au bj (aK (ap ae (ap ae (ap ae am)))) (ai aI (bI eY rfl T.b_int eA (aa (dt kP (pv 1) ae) af)) (bI eY rfl T.b_int eA (aa (dt kP (pv 1) ae) af))))) (ac (av (i:=3) di (aj Y q hr (aa (pv 0) (aa ae (aa (pv 2) (aa (pv 1) af)))))) (ag (aA (aD (ap (pv 1) (ap (aj U q hr (aa (ai tP (aK (ap (aD (ap cq (ap (aj a0 q hr (aa (ai aJ (aj B q hr (aa (pv 0) (aa ae af))) ae) af)) am))) am)) (pv 3)) af)) am))))))))))),?_⟩;have a2:2≤sizeLine:=by decide
 refine⟨a,ns,0,rfl,hS,O,ci (by decide) (by decide),(by show (0:Int) < 2;decide),rfl,Hi ?_ (fun hY _ =>?_)⟩
 rotate_left
 ·have cp:Aw 10 6:=⟨by decide,by decide,by decide⟩;have qd:∀ v n t H',ak H H'→CD H' v ((n:Nat):Int) t→n≤40→aP n t→cnt t≤1500→Q v H':=q';refine⟨cp,_,rfl,a,ns,1,rfl,hS,O,_,rfl,aY (fun _ =>?_) (fun _ =>?_)⟩
  ·refine⟨cp,bE (az (aY (fun _ =>?_) (fun _ =>?_)))⟩
   ·first
     | exact hY
     | exact⟨a,ns,1,rfl,hS,O,cell ns 1,rfl,qd⟩
   ·first
     | exact hY
     | exact⟨_,rfl,a,ns,1,rfl,hS,O,cell ns 1,rfl,qd⟩
  ·first
    | exact (az (mK ⟨a,ns,1,rfl,hS,O,cell ns 1,rfl,qd⟩))
    | exact⟨_,rfl,a,ns,1,rfl,hS,O,cell ns 1,rfl,qd⟩
 refine⟨a,ns,0,rfl,hS,O,(by show (0:Int) < 5;decide),bE (az (aY (fun _ =>?_) (fun _ =>?_)))⟩
 ·obtain⟨n,hn,en⟩:∃ n:Nat,n≤3∧cell ns 0 / 10 % 4=(n:Int):=⟨(cell ns 0 / 10 % 4).toNat,by lia,by lia⟩;refine⟨a,ns,0,rfl,hS,O,ci (by decide) (by decide),(by show (0:Int) < 4;decide),?_⟩;rw[show V.int _=V.int (n:Int) from Ij V.int en];refine⟨a,ns,n,rfl,hS,O,hn,fun l H1 s1 hR=>⟨l,n,rfl,hR,hn,fun v t H2 s2 hv gt ct=>⟨a2,fun p hp =>?_⟩⟩⟩;have s3:=ak.new hp (.tup [.int (n:Int),v]);have b9:4 ^ n≤64:=H_ (IU (by decide) hn) (by decide);exact q' _ n t _ (s1.trans (s2.trans s3)) ⟨p,v,rfl,ah,hv.up s3.tups⟩ (by lia) gt (by lia)
 obtain⟨n0,b0,b1⟩:∃ n:Nat,n≤40∧(cell ns 0 + 3) % 41=(n:Int):=⟨((cell ns 0 + 3) % 41).toNat,by lia,by lia⟩;refine⟨a,ns,0,rfl,hS,O,(by show (0:Int) < 41;decide),?_⟩;rw[show V.int _=V.int (n0:Int) from Ij V.int b1];refine⟨fun σ H1=>H1=H∧∃ n:Nat,n≤40∧σ=[some (.ref a),some (.int (n:Int)),none,none],?_,?_⟩
 ·refine⟨a,ns,0,rfl,hS,O,(by show (0:Int) < 5;decide),rfl,az (aY (fun _ =>?_) (fun _=>⟨rfl,n0,b0,rfl⟩))⟩;refine⟨(by show (0:Int) < 8;decide),rfl,1 + n0 % 8,by omega,?_⟩;rw[show ((1 + n0 % 8:Nat):Int)=1 + (n0:Int) % 8 by rfl];rfl
 rintro σ H1 ⟨rfl,n,hn,rfl⟩;refine⟨(leZ rfl),nw fun l3 H2 c2 s3 u3 =>?_⟩;have b2:=s3.seq hS;obtain⟨m,em,hm⟩:=u_ (decide ((n:Int) > 8)) (decide ((n:Int) > 20));refine (.inr ⟨_,rfl,.inr ⟨_,rfl,l3,_,_,.int (m:Int),rfl,rfl,SqL.of u3,em,?_⟩⟩);refine⟨a,ns,m,n,rfl,b2,O,by lia,hn,fun b3 a3 H3 s4 b6 u4 b7 a4 =>?_⟩;have a5:=s3.trans s4;obtain⟨L,hL⟩:=bz.of a4;refine⟨a,ns,0,rfl,a5.seq hS,O,ci (by decide) (by decide),cell ns 0 / 41,rfl,fun c0 a6 a7=>⟨a2,nw fun p0 H4 c3 e1 v1 =>?_⟩⟩;refine⟨(leZ rfl),nw fun la H5 c4 e2 w2 =>?_⟩;have v2:=e2 _ _ v1;have a8:=e1.trans e2;refine⟨la,b3,_,_,rfl,rfl,w2,a8 _ _ u4,small (by show 1 + a3.length≤_;lia),nw fun lc H6 c5 e3 w3 =>?_⟩;have v3:=e3 _ _ v2;have a9:=a8.trans e3;have b4:=hL.up a9.tups;have k8:bz H6 n ([V.ref p0]++a3) ([([],c0)]++L):=bz.app (.cons ⟨p0,("" : Str),rfl,v3,dE▸IsC.nil,iz,by rw[show ("" : Str).length=0 by decide +kernel];simp,⟨a6,a7⟩⟩ .nil) b4
 refine⟨lc,_,_,n,rfl,w3,k8,by lia,by decide,by rw[Hs];show 1 + a3.length + n≤200;lia,fun vd H7 e4 b5=>⟨a2,fun p hp =>?_⟩⟩;have hvd':bT H7 vd (bn (.col c0) L):=b5;have e5:=ak.new hp (.tup [.int (n:Int),vd]);have ca:=uI L (.col c0) hL.ok;have ll:=hL.len;have c1:cnt (Tr.col c0)=1:=rfl;have cb:(3 * n + 1) * L.length≤121 * 5:=Jr (by lia) (by lia);exact q' _ n _ _ (a5.trans (a9.trans (e4.trans e5))) ⟨p,vd,rfl,ah,hvd'.up e5.tups⟩ hn (mM L _ hL.ok (aP.col ⟨a6,a7⟩)) (by lia)
end
theorem Gr (h:d < 4):Builtin.Str.occurrences ("0123" : Str) (one d) 0 ("0123" : Str).length 1=[d] :=
 four (P:=fun d=>Builtin.Str.occurrences ("0123" : Str) (one d) 0 ("0123" : Str).length 1=[d]) (by decide +kernel) (by decide +kernel) (by decide +kernel) (by decide +kernel) h
theorem GF (h:n≤1000000):n < sizeLine:=Jp h (by decide)
theorem vm:∀ (ds:List Nat) (n d:Nat),sqX n (ds++[d])=sqX n ds + d % 2 * 2 ^ (n - ds.length - 1)
 | [],n,d=>by show d % 2 * 2 ^ (n - 1) + 0=0 + d % 2 * 2 ^ (n - 0 - 1);rw[Ke];simp
 | e::ds,n,d=>by
  show e % 2 * 2 ^ (n - 1) + sqX (n - 1) (ds++[d])=e % 2 * 2 ^ (n - 1) + sqX (n - 1) ds + d % 2 * 2 ^ (n - (ds.length + 1) - 1);rw[vm ds (n - 1) d,show n - 1 - ds.length - 1=n - (ds.length + 1) - 1 by lia];lia
theorem vk:∀ (ds:List Nat) (n d:Nat),sqY n (ds++[d])=sqY n ds + d / 2 * 2 ^ (n - ds.length - 1)
 | [],n,d=>by show d / 2 * 2 ^ (n - 1) + 0=0 + d / 2 * 2 ^ (n - 0 - 1);rw[Ke];simp
 | e::ds,n,d=>by
  show e / 2 * 2 ^ (n - 1) + sqY (n - 1) (ds++[d])=e / 2 * 2 ^ (n - 1) + sqY (n - 1) ds + d / 2 * 2 ^ (n - (ds.length + 1) - 1);rw[vk ds (n - 1) d,show n - 1 - ds.length - 1=n - (ds.length + 1) - 1 by lia];lia
theorem Hb {d:Nat}(h:d < 4):(!(Builtin.Str.occurrences ("13" : Str) (one d) 0 ("13" : Str).length 1).isEmpty)=decide (d % 2=1) :=
 four (P:=fun d=>(!(Builtin.Str.occurrences ("13" : Str) (one d) 0 ("13" : Str).length 1).isEmpty)=decide (d % 2=1)) (by decide +kernel) (by decide +kernel) (by decide +kernel) (by decide +kernel) h
theorem Ha {d:Nat}(h:d < 4):(!(Builtin.Str.occurrences ("23" : Str) (one d) 0 ("23" : Str).length 1).isEmpty)=decide (d / 2=1) :=
 four (P:=fun d=>(!(Builtin.Str.occurrences ("23" : Str) (one d) 0 ("23" : Str).length 1).isEmpty)=decide (d / 2=1)) (by decide +kernel) (by decide +kernel) (by decide +kernel) (by decide +kernel) h
theorem CY (n:Nat):(1:Int) * 2 ^ ((n:Int)).toNat=((2 ^ n:Nat):Int):=by rw[Iy];simp
theorem y_ {e:Nat}(h:e < 2):(if decide (e=1)=true then (1:Int) else 0)=(e:Int):=by
 rcases e with _|_|e
 ·rfl
 ·rfl
 ·lia
theorem zV:((a=0∨d=0)∧(if d > a then (if (0:Int) > d then 0 else d) else (if (0:Int) > a then 0 else a)) > 0)↔(min a d=0∧max a d > 0):=by
 split<;>split<;>lia
theorem nq (q r:Sq):bp q r=bp r q:=by
 rw[ID,eQ,eQ];unfold ie;rw[ii,ii,ii,ii,gD,gD,gD,gD];have B:min ((q.x:Int) + q.w) ((r.x:Int) + r.w)=min ((r.x:Int) + r.w) ((q.x:Int) + q.w):=Int.min_comm _ _;have G:min ((q.y:Int) + q.w) ((r.y:Int) + r.w)=min ((r.y:Int) + r.w) ((q.y:Int) + q.w):=Int.min_comm _ _;have J:max (q.x:Int) (r.x:Int)=max (r.x:Int) (q.x:Int):=Int.max_comm _ _;have O:max (q.y:Int) (r.y:Int)=max (r.y:Int) (q.y:Int):=Int.max_comm _ _;rw[B,G,J,O]
section
variable {P:Program}{w:World}{K:PySem.W.Frag}{mg:Str→Option Value}{base:Heap}{CX:CXT}{f:Addr}{fd:FuncData}
abbrev iR:Stmt:=top 53
theorem dB:aE ["_law_tree","_law_code_here","_law_found","_law_sign"] ["_law_tree","_law_code_here"] (aq iR):={}
inductive j7  (m:Nat)(vs:List V)(H:Hp)(Q:VK):Prop
 | mk (v:V) (t:Tr) (z:Str) (k n:Nat) (h_0:vs=[v,.str z]) (h_1:bT H v t) (h_2:aP k t) (h_3:IsC z) (h_4:z.length + k≤n) (h_5:n≤40) (h_6:k < m) (h_7:m≤41) (h_8:cnt t≤4000) (h_9:∀ l us H',ak H H'→H l=none→H' l=some (.lst us)→bz H' n us (lvs (dig z) t)→Q (.ref l) H'):j7 m vs H Q
def gU  (m:Nat):Sp:=fun vs H Q _=>j7 m vs H Q
theorem kR (T:Tx K mg)(q:bZ CX)(F:bu K "_law_leaves" "_law_leaves" iR f fd .none)(b:eF K fd ["_law_tree","_law_code_here"] [])(m:mg "_law_leaves" = some (.ref f)):
  ∀ n,bA P w K mg base CX (1 + n) f fd ["_law_tree","_law_code_here"] (gU n)
 | 0=>by
  refine F.ok dB (fun vs H Q E h =>?_) (fun a3 A outer s H vs Q E hr h =>?_)
  ·obtain⟨_,_,_,_,_,rfl,_⟩:=h;rfl
  obtain⟨_,_,_,_,_,_,_,_,_,_,_,h,_⟩:=h;exact absurd h (JV _)
 | m' + 1=>by
  have B:Fok P w K mg base CX (1 + m') "_law_leaves" ["_law_tree","_law_code_here"] [] (gU m'):=fok F (kR T q F b m m') b m
  refine F.ok dB (fun vs H Q E h =>?_) (fun a3 A outer s H vs Q E hr h =>?_)
  ·obtain⟨_,_,_,_,_,rfl,_⟩:=h;rfl
  obtain⟨v,t,z,k,n,rfl,ht,gt,hz,hl,hn,hk,hm,hc,q'⟩:=h;refine⟨_,(ac (aQ (cH (cG (aB (bW "tuple") rfl T.b_isinstance aU (aa (pv 0) (aa (d9 T.b_tuple gI) af))))) (ag (aA (aK (ap (aD (ap (pv 1) (ap (pv 0) am))) am)))) aG) (ac (av (i:=2) dB (aK am)) (ac (aN HK rfl (nJ cq) (aR (i:=3) dB) (ag (av (i:=2) dB (ai tP (pv 2) (aj B q hr (aa (au aw (pv 0) (rZ PySem.F.plainAttrs_str PySem.F.slot_str_index PySem.F.type_str_index BO cq (aa (pv 3) af))) (aa (ai cJ (pv 1) (pv 3)) af)) (hj:=by first | decide | simp | (simp only[KO];lia))))))) (ag (aA (pv 2)))))),?_⟩
  cases ht with
  | col i =>
   have g':0≤i∧i≤35:=by cases k<;>exact gt
   refine⟨_,_,_,rfl,.int _,nV,az (mK ?_)⟩;refine⟨(leZ rfl),nw fun p H1 hp s1 u1 =>?_⟩;refine⟨(leZ rfl),fun l J =>?_⟩;have Y:=ak.new J (.lst [.ref p]);exact q' l _ _ (s1.trans Y) (ak.none s1 J) ah (.cons ⟨p,z,rfl,Y _ _ u1,hz,rfl,by lia,g'⟩ .nil)
  | @four p xa xb xc xd ta tb tc td e ja jb jc jd =>
   rcases k with _|k
   ·exact gt.elim
   obtain⟨ga,gb,gc,gd,ho⟩:=gt;have hc':cnt ta + cnt tb + cnt tc + cnt td≤4000:=hc;refine⟨_,_,_,rfl,.tup e,lU,az (js ?_)⟩;refine⟨(leZ rfl),nw fun l0 H1 a4 s1 u1 =>?_⟩;obtain⟨tt,a5⟩:∃ tt:List Tr,tt=[ta,tb,tc,td]:=⟨_,rfl⟩;obtain⟨ps,a0⟩:∃ ps:List (List (List Nat × Int)),ps=[lvs (dig z++[0]) ta,lvs (dig z++[1]) tb,lvs (dig z++[2]) tc,lvs (dig z++[3]) td]:=⟨_,rfl⟩;have a6:ps.length=4:=by rw[a0];rfl
   have a7:ps.flatten.length≤4000:=by
    rw[a0];simp only[List.flatten_cons,List.flatten_nil,II,Hs,dU]
    lia
   refine⟨_,rfl,fO (fun j σ H2=>ak H H2∧∃ (l:Addr) (us:List V) (o3:Option V),H l=none∧H2 l=some (.lst us)∧j≤4∧bz H2 n us (ps.take j).flatten∧σ=[some (.ref p),some (.str z),some (.ref l),o3]) ⟨s1,l0,[],none,a4,u1,by decide,.nil,rfl⟩ ?_ ?_⟩
   ·rintro j σ H2 hj ⟨Y,l,us,o3,J,u2,G,O,rfl⟩;have G:j < 4:=by rw[show ("0123" : Str).length=4 by decide +kernel]at hj;exact hj
    have ej:sgn ("0123" : Str) j=one j:=four (P:=fun d=>sgn ("0123" : Str) d=one d) (by decide +kernel) (by decide +kernel) (by decide +kernel) (by decide +kernel) G
    rw[ej];have key:∃ x t',atI [xa,xb,xc,xd] (j:Int)=some x∧bT H x t'∧aP k t'∧cnt t'≤4000∧ps[j]? = some (lvs (dig z++[j]) t'):=by
     rw[a0];rcases j with _ | _ | _ | _ | j
     ·exact⟨xa,ta,rfl,ja,ga,by lia,rfl⟩
     ·exact⟨xb,tb,rfl,jb,gb,by lia,rfl⟩
     ·exact⟨xc,tc,rfl,jc,gc,by lia,rfl⟩
     ·exact⟨xd,td,rfl,jd,gd,by lia,rfl⟩
     ·lia
    obtain⟨x,t',k1,k2,k3,k4,k5⟩:=key;have l1:(one j).length=1:=rfl;refine⟨rfl,_,_,j,[],rfl,rfl,Gr G,p,_,_,x,rfl,rfl,SqT.of (Y _ _ e),k1,_,_,rfl,rfl,(by rw[l1];exact small (by lia)),x,t',z++one j,k,n,rfl,k2.up Y.tups,k3,IsC.app hz (IsC.one G),by rw[gP,l1];lia,hn,by lia,by lia,k4,fun l2 a1 H3 s3 a8 u3 U =>?_⟩;rw[mW,uC]at U;have u2':=s3 _ _ u2;have et:(ps.take (j + 1)).flatten=(ps.take j).flatten++lvs (dig z++[j]) t':=by rw[Ic,k5,JS];simp
    have n1:=O.len;have n2:=U.len;have n3:(ps.take j).flatten.length≤ps.flatten.length:=by
     conv=>rhs;rw[← IB j ps,JS,Hs]
     simp
    have n4:=dU t' (dig z++[j]);refine⟨l,l2,_,_,rfl,rfl,u2',u3,big (by lia),fun l3 a2 =>?_⟩;have s4:=ak.new a2 (.lst (us++a1));refine⟨Y.trans (s3.trans s4),l3,us++a1,_,ak.none (Y.trans s3) a2,ah,G,?_,rfl⟩;rw[et];exact (O.up (s3.trans s4).tups).app (U.up s4.tups)
   ·rintro σ H2 ⟨Y,l,us,o3,J,u2,G,O,rfl⟩;have e4:(ps.take ("0123" : Str).length).flatten=lvs (dig z) (.four ta tb tc td):=by
     rw[show ("0123" : Str).length=4 by decide +kernel,HM (by lia),a0]
     simp[lvs]
    rw[e4]at O;exact (q' l us H2 Y J u2 O)
abbrev iP:Stmt:=top 54
theorem cf:aE ["_law_code_here","_law_level","_law_x","_law_y","_law_wide","_law_sign"] ["_law_code_here","_law_level"] (aq iP):={}
inductive jZ  (vs:List V)(H:Hp)(Q:VK):Prop
 | mk (z:Str) (n:Nat) (h_0:vs=[.str z,.int n]) (h_1:IsC z) (h_2:z.length≤n) (h_3:n≤40) (h_4:∀ p H',ak H H'→H' p=some (.tup [.int ((sqX n (dig z):Nat):Int),.int ((sqY n (dig z):Nat):Int),.int ((2 ^ (n - z.length):Nat):Int)])→Q (.ref p) H'):jZ  vs H Q
def gT:Sp:=fun vs H Q _=>jZ  vs H Q
theorem rE (T:Tx K mg)(F:bu K "_law_square" "_law_square" iP f fd .none):bA P w K mg base CX 1 f fd ["_law_code_here","_law_level"] gT:=by
 refine F.ok cf (fun vs H Q E h =>?_) (fun a0 A outer s H vs Q E hr h =>?_)
 ·obtain⟨_,_,rfl,_⟩:=h;rfl
 obtain⟨z,n,rfl,hz,lz,hn,q'⟩:=h;refine⟨_,(ac (av (i:=2) cf ae) (ac (av (i:=3) cf ae) (ac (av (i:=4) cf (ai tN ae (pv 1))) (ac (aN HK rfl (nJ (pv 0)) (aR (i:=5) cf) (ac (av (i:=4) cf (ai aJ (pv 4) ae)) (ac (av (i:=2) cf (ai aI (pv 2) (ai cQ (pv 4) (bI eY rfl T.b_int eA (aa (dt kn (pv 5) cq (by with_unfolding_all rfl)) af))))) (ag (av (i:=3) cf (ai aI (pv 3) (ai cQ (pv 4) (bI eY rfl T.b_int eA (aa (dt kn (pv 5) cq (by with_unfolding_all rfl)) af))))))))) (ag (aA (aD (ap (pv 2) (ap (pv 3) (ap (pv 4) am)))))))))),?_⟩;have B:Aw 1 (n:Int):=⟨by simp,by lia,by decide⟩;refine⟨B,?_⟩;rw[show V.int _=V.int ((2 ^ n:Nat):Int) from Ij V.int (CY n)];refine⟨z,rfl,fO (fun i σ H2=>H2=H∧∃ (X Y W:Int) (J:Option V),X=((sqX n ((dig z).take i):Nat):Int)∧Y=((sqY n ((dig z).take i):Nat):Int)∧W=((2 ^ (n - i):Nat):Int)∧σ=[some (.str z),some (.int n),some (.int X),some (.int Y),some (.int W),J]) ⟨rfl,0,0,_,none,rfl,rfl,rfl,rfl⟩ ?_ ?_⟩
 ·rintro i σ H2 hi ⟨rfl,X,Y,W,J,rfl,rfl,rfl,rfl⟩;obtain⟨d,O,U,e2⟩:=kh hz hi;have en:n - i=(n - i - 1) + 1:=by lia
  have eW:((2 ^ (n - i):Nat):Int) / 2=((2 ^ (n - i - 1):Nat):Int):=by
   conv=>lhs;rw[en,IR]
   simp
  have lt:((dig z).take i).length=i:=by rw[IC,cF];lia
  have G:-(2 ^ 64) < ((2 ^ (n - i - 1):Nat):Int):=Int.lt_of_lt_of_le (by decide) (Int.natCast_nonneg _);have hW:((2 ^ (n - i - 1):Nat):Int) < 2 ^ 64:=by
   have h1:2 ^ (n - i - 1)≤2 ^ 40:=IU (by decide) (by lia);have h2:(2 ^ 40:Nat)=1099511627776:=by decide
   lia
  refine⟨ci (by decide) (by decide),?_⟩;rw[show V.int _=V.int ((2 ^ (n - i - 1):Nat):Int) from Ij V.int eW];refine⟨_,_,rfl,rfl,.inr ⟨_,rfl,.inl ⟨G,hW⟩,?_⟩⟩;refine⟨_,_,rfl,rfl,.inr ⟨_,rfl,.inl ⟨G,hW⟩,rfl,_,_,_,_,?_,?_,?_,rfl⟩⟩
  ·rw[mV hi,e2,vm,lt,U,Hb O,y_ (Nat.mod_lt _ (by decide)),Jz,Jd,Int.mul_comm]
  ·rw[mV hi,e2,vk,lt,U,Ha O,y_ (by lia),Jz,Jd,Int.mul_comm]
  ·rw[show n - i - 1=n - (i + 1) by rfl]
 ·rintro σ H2 ⟨rfl,X,Y,W,J,rfl,rfl,rfl,rfl⟩;have et:(dig z).take z.length=dig z:=HM (by rw[cF];exact Ht _);rw[et];exact⟨(leZ rfl),fun p hp=>q' p _ (ak.new hp _) ah⟩
abbrev nD:Stmt:=top 55
theorem lE:aE ["_law_one","_law_two","_law_across","_law_down"] ["_law_one","_law_two"] (aq nD):={}
def Ef (H:Hp)(p:Addr)(q:Sq):Prop:=H p=some (.tup [.int (q.x:Int),.int (q.y:Int),.int (q.w:Int)])
inductive oA  (vs:List V)(H:Hp)(Q:VK):Prop
 | mk (p r:Addr) (a b:Sq) (h_0:vs=[.ref p,.ref r]) (h_1:Ef H p a) (h_2:Ef H r b) (h_3:∀ (i:Int) H',ak H H'→(i > 0↔bp a b=true)→Q (.int i) H'):oA  vs H Q
def pY:Sp:=fun vs H Q _=>oA  vs H Q
theorem xo (T:Tx K mg)(F:bu K "_law_met" "_law_met" nD f fd .none):bA P w K mg base CX 1 f fd ["_law_one","_law_two"] pY:=by
 refine F.ok lE (fun vs H Q E h =>?_) (fun a0 A outer s H vs Q E hr h =>?_)
 ·obtain⟨_,_,_,_,rfl,_⟩:=h;rfl
 obtain⟨p,r,a,b,rfl,hp,J,O⟩:=h;refine⟨_,(ac (av (i:=2) lE (ai bM (aB (fV rfl) rfl T.b_min lY (aa (ai aI (au aw (pv 0) ae) (au aw (pv 0) ae)) (aa (ai aI (au aw (pv 1) ae) (au aw (pv 1) ae)) af))) (aB (fW rfl) rfl T.b_max lZ (aa (au aw (pv 0) ae) (aa (au aw (pv 1) ae) af))))) (ac (av (i:=3) lE (ai bM (aB (fV rfl) rfl T.b_min lY (aa (ai aI (au aw (pv 0) ae) (au aw (pv 0) ae)) (aa (ai aI (au aw (pv 1) ae) (au aw (pv 1) ae)) af))) (aB (fW rfl) rfl T.b_max lZ (aa (au aw (pv 0) ae) (aa (au aw (pv 1) ae) af))))) (ac (aQ (PW.pt (kN (aF dS (pv 2) ae) (hV (aF dS (pv 3) ae)))) (ag (aA (aB (Ao rfl) rfl T.b_max lZ (aa (pv 2) (aa (pv 3) (aa ae af)))))) aG) (ag (aA ae))))),?_⟩;have B:=SqT.of (K:=K) hp;have G:=SqT.of (K:=K) J;refine⟨p,_,_,_,rfl,rfl,B,rfl,p,_,_,_,rfl,rfl,B,rfl,r,_,_,_,rfl,rfl,G,rfl,r,_,_,_,rfl,rfl,G,rfl,_,_,rfl,p,_,_,_,rfl,rfl,B,rfl,r,_,_,_,rfl,rfl,G,rfl,_,_,rfl,?_⟩;refine⟨p,_,_,_,rfl,rfl,B,rfl,p,_,_,_,rfl,rfl,B,rfl,r,_,_,_,rfl,rfl,G,rfl,r,_,_,_,rfl,rfl,G,rfl,_,_,rfl,p,_,_,_,rfl,rfl,B,rfl,r,_,_,_,rfl,rfl,G,rfl,_,_,rfl,bE ?_⟩;dsimp only;have ex:((if (b.x:Int) + b.w < (a.x:Int) + a.w then (b.x:Int) + b.w else (a.x:Int) + a.w) - if (b.x:Int) > a.x then (b.x:Int) else a.x)=ie a.x a.w b.x b.w:=rfl;have ey:((if (b.y:Int) + b.w < (a.y:Int) + a.w then (b.y:Int) + b.w else (a.y:Int) + a.w) - if (b.y:Int) > a.y then (b.y:Int) else a.y)=ie a.y a.w b.y b.w:=rfl;rw[ex,ey];have mt:=zV (a:=ie a.x a.w b.x b.w) (d:=ie a.y a.w b.y b.w);have U:=eQ (q:=a) (r:=b);generalize ie a.x a.w b.x b.w=X at *;generalize ie a.y a.w b.y b.w=Y at *;refine⟨rfl,az (aY (fun c =>?_) (fun c =>?_))⟩
 ·have c':X=0:=V.int.inj (HG c);refine⟨X,Y,0,rfl,O _ H (ak.refl H) ?_⟩;rw[U,← mt];exact⟨fun h=>⟨.inl c',h⟩,fun h=>h.2⟩
 ·refine⟨rfl,az (aY (fun d =>?_) (fun d =>?_))⟩
  ·have d':Y=0:=V.int.inj (HG d);refine⟨X,Y,0,rfl,O _ H (ak.refl H) ?_⟩;rw[U,← mt];exact⟨fun h=>⟨.inr d',h⟩,fun h=>h.2⟩
  ·refine O 0 H (ak.refl H) ?_;rw[U,← mt];refine⟨fun h=>absurd h (by decide),fun h =>?_⟩;rcases h.1 with e | e
   ·exact absurd (Hr (Ij V.int e)) c
   ·exact absurd (Hr (Ij V.int e)) d
end
section
variable {P:Program}{w:World}{K:PySem.W.Frag}{mg:Str→Option Value}{base:Heap}{CX:CXT}{f:Addr}{fd:FuncData}
abbrev lK:Stmt:=top 10
theorem vo:aE ["thing"] ["thing"] (aq lK):={}
def jA (K:PySem.W.Frag):Sp:=fun vs H Q _=>∃ x,vs=[x]∧((∃ i,x=.int i∧Q (.bl true) H)∨(∃ b,x=.bl b∧Q (.bl false) H)∨∃ t,kG K H x t∧PySem.W.kitOne K t (.type "int")=some false∧Q (.bl false) H)
theorem vK (T:Tx K mg)(F:bu K "is_whole" "is_whole" lK f fd .none):bA P w K mg base CX 1 f fd ["thing"] (jA K):=by
 refine F.ok vo (fun vs H Q E h =>?_) (fun B A outer s H vs Q E J h =>?_)
 ·obtain⟨x,rfl,_⟩:=h;rfl
 obtain⟨x,rfl,h⟩:=h;refine⟨_,(ag (aA (xj (aB (bW "int") rfl T.b_isinstance aU (aa (pv 0) (aa (d9 T.b_int eA) af))) (xh (Bs (aB (bW "bool") rfl T.b_isinstance aU (aa (pv 0) (aa (d9 T.b_bool yZ) af)))))))),?_⟩
 rcases h with⟨i,rfl,q⟩|⟨b,rfl,q⟩|⟨t,ty,G,q⟩
 ·refine⟨_,_,_,rfl,.int i,BZ,_,rfl,mK ?_⟩;exact⟨_,_,_,rfl,.int i,B0,_,rfl,q⟩
 ·refine⟨_,_,_,rfl,.bl b,Fk,_,rfl,mK ?_⟩;exact⟨_,_,_,rfl,.bl b,Fl,_,rfl,q⟩
 ·exact⟨_,_,_,rfl,ty,G,_,rfl,js q⟩
abbrev lN:Stmt:=top 11
theorem vp:aE ["thing"] ["thing"] (aq lN):={}
def oh (K:PySem.W.Frag):Sp:=fun vs H Q _=>∃ i,vs=[.int i]∧(0≤i∧i≤40→Q (.bl true) H)∧(¬ (0≤i∧i≤40)→Q (.bl false) H)
theorem vL (T:Tx K mg)(q:bZ CX)(F:bu K "is_level" "is_level" lN f fd .none)(B:Fok P w K mg base CX 1 "is_whole" ["thing"] [] (jA K)):bA P w K mg base CX 2 f fd ["thing"] (oh K):=by
 refine F.ok vp (fun vs H Q E h =>?_) (fun G A outer s H vs Q E J h =>?_)
 ·obtain⟨x,rfl,_⟩:=h;rfl
 obtain⟨i,rfl,h1,h2⟩:=h;refine⟨_,(ag (aA (xj (aj B q J (aa (pv 0) af)) (xh (Bw r6 r6 ae (pv 0) (yq T.c_MOST)))))),?_⟩;refine⟨_,rfl,.inl ⟨i,rfl,_,rfl,mK ?_⟩⟩;refine⟨_,rfl,aY (fun c =>?_) (fun c =>?_)⟩
 ·have c':(0:Int)≤i:=HG c
  try dsimp only
  refine (bE ?_);show Q (.bl (decide (i≤40))) H;by_cases d:i≤40
  ·have e:decide (i≤40)=true:=Hr d;rw[e];exact h1 ⟨c',d⟩
  ·have e:decide (i≤40)=false:=Ih d;rw[e];exact h2 fun z=>d z.2
 ·exact h2 fun z=>c (Hr z.1)
abbrev dk:Stmt:=top 14
theorem rz:aE ["level","least"] ["level","least"] (aq dk):={}
inductive jY  (vs:List V)(H:Hp)(Q:VK):Prop
 | mk (l m:Int) (h_0:vs=[.int l,.int m]) (h_1:0≤l) (h_2:l≤40) (h_3:m≤l) (h_4:Q .non H):jY  vs H Q
def dA:Sp:=fun vs H Q _=>jY  vs H Q
theorem kQ (T:Tx K mg)(q:bZ CX)(F:bu K "need_level" "need_level" dk f fd dV)(B:Fok P w K mg base CX 2 "is_level" ["thing"] [] (oh K)):bA P w K mg base CX 3 f fd ["level","least"] dA:=by
 refine F.ok rz (fun vs H Q E h =>?_) (fun G A outer s H vs Q E J h =>?_)
 ·obtain⟨_,_,rfl,_⟩:=h;rfl
 obtain⟨l,m,rfl,O,h1,h2,U⟩:=h;refine⟨_,(ag (aQ (PW.pt (kN (cH (cG (aj B q J (aa (pv 0) af)))) (hV (aF eK (pv 0) (pv 1))))) (ag qq) aG)),?_⟩;refine⟨l,rfl,fun _ =>?_,fun z=>absurd ⟨O,h1⟩ z⟩;refine (az (js ?_));refine (fG (fG (bE (az (aY (fun c =>?_) (fun _=>U))))));have c':l < m:=HG c;exact absurd c' (by lia)
abbrev lF:Stmt:=top 19
theorem gK:aE ["level","wide","step"] ["level"] (aq lF):={}
inductive m8  (vs:List V)(H:Hp)(Q:VK):Prop
 | mk (n:Nat) (h_0:vs=[.int n]) (h_1:n≤64) (h_2:Q (.int ((2 ^ n:Nat):Int)) H):m8  vs H Q
def jx:Sp:=fun vs H Q _=>m8  vs H Q
theorem vG (T:Tx K mg)(F:bu K "width_of" "width_of" lF f fd .none):bA P w K mg base CX 1 f fd ["level"] jx:=by
 refine F.ok gK (fun vs H Q E h =>?_) (fun B A outer s H vs Q E J h =>?_)
 ·obtain⟨x,rfl,_⟩:=h;rfl
 obtain⟨n,rfl,O,G⟩:=h;refine⟨_,(ac (av (i:=1) gK ae) (ac (aN HK rfl (bQ rfl T.b_range (aa (pv 0) af)) (aR (i:=2) gK) (ag (av (i:=1) gK (ai cQ (pv 1) ae)))) (ag (aA (pv 1))))),?_⟩;refine⟨_,rfl,by simp,by lia,bV (fun i σ H2=>H2=H∧∃ x v,x=((2 ^ i:Nat):Int)∧σ=[some (.int n),some (.int x),v]) ⟨rfl,1,none,rfl,rfl⟩ ?_ ?_⟩
 ·rintro i σ H2 hi ⟨rfl,x,v,rfl,rfl⟩;refine⟨.inr ⟨by decide,by decide⟩,rfl,_,_,?_,rfl⟩;rw[IR,Jd];rfl
 ·rintro σ H2 ⟨rfl,x,v,rfl,rfl⟩;have e:((n:Int)).toNat=n:=Iy n
  try dsimp only
  refine (fG ?_);rw[e];exact G
abbrev iO:Stmt:=top 20
theorem gX:aE ["x","y","level","wide","along"] ["x","y","level"] (aq iO):={}
inductive jX  (vs:List V)(H:Hp)(Q:VK):Prop
 | mk (x y:Int) (n:Nat) (h_0:vs=[.int x,.int y,.int n]) (h_1:n≤40) (h_2:(0≤x∧x < ((2 ^ n:Nat):Int))) (h_3:(0≤y∧y < ((2 ^ n:Nat):Int))) (h_4:∀ H',ak H H'→Q .non H'):jX  vs H Q
def kK:Sp:=fun vs H Q _=>jX  vs H Q
theorem rD (T:Tx K mg)(q:bZ CX)(F:bu K "need_place" "need_place" iO f fd .none)(B:Fok P w K mg base CX 1 "width_of" ["level"] [] jx)(G:Fok P w K mg base CX 1 "is_whole" ["thing"] [] (jA K)):
  bA P w K mg base CX 2 f fd ["x","y","level"] kK:=by
 refine F.ok gX (fun vs H Q E h =>?_) (fun Y A outer s H vs Q E O h =>?_)
 ·obtain⟨_,_,_,rfl,_⟩:=h;rfl
 obtain⟨x,y,n,rfl,hn,hx,hy,q'⟩:=h;refine⟨_,(ac (av (i:=3) gX (aj B q O (aa (pv 2) af))) (ag (aN HK rfl (tJ (aD (ap (pv 0) (ap (pv 1) am)))) (aR (i:=4) gX) (ag (aQ (PW.pt (kN (cH (cG (aj G q O (aa (pv 4) af)))) (hV (cH (jK r6 eK ae (pv 4) (pv 3)))))) (ag qq) aG))))),?_⟩;refine⟨n,rfl,by lia,?_⟩;refine⟨(leZ rfl),fun p hp=>⟨p,rfl,⟨_,SqT.of ah⟩,pF (xs:=[.int x,.int y]) (fun i σ H2=>H2=upd H p (.tup [.int x,.int y])∧∃ v,σ=[some (.int x),some (.int y),some (.int n),some (.int ((2 ^ n:Nat):Int)),v]) ⟨rfl,none,rfl⟩ (fun i σ H2 _ h2=>by rw[h2.1];exact SqT.of ah) ?_ ?_⟩⟩
 ·rintro i u σ H2 J ⟨rfl,v,rfl⟩;obtain⟨a,rfl,U⟩:∃ a,u=V.int a∧(0≤a∧a < ((2 ^ n:Nat):Int)):=by
   rcases i with _|_|i
   ·exact⟨x,(Option.some.inj J).symm,hx⟩
   ·exact⟨y,(Option.some.inj J).symm,hy⟩
   ·cases J
  refine⟨_,rfl,.inl ⟨a,rfl,az (js ?_)⟩⟩;refine⟨_,rfl,aY (fun _ =>?_) (fun c=>absurd (Hr U.1) c)⟩;exact (fG (bE (az (Go U.2 ⟨rfl,_,rfl⟩))))
 ·rintro σ H2 ⟨rfl,v,rfl⟩;exact q' _ (ak.new hp _)
theorem pK (x m:Nat):x / 2 ^ m / 2=x / 2 ^ (m + 1):=by rw[Nat.div_div_eq_div_mul,IR]
abbrev nG:Stmt:=top 22
theorem eV:aE ["x","y","level","code","step"] ["x","y","level"] (aq nG):={}
inductive oB  (vs:List V)(H:Hp)(Q:VK):Prop
 | mk (x y n:Nat) (h_0:vs=[.int x,.int y,.int n]) (h_1:n≤40) (h_2:x < 2 ^ n) (h_3:y < 2 ^ n) (h_4:∀ H',ak H H'→Q (.str (txt (low n x y))) H'):oB  vs H Q
def p_:Sp:=fun vs H Q _=>oB  vs H Q
theorem xq (T:Tx K mg)(q:bZ CX)(F:bu K "code_at" "code_at" nG f fd .none)(B:Fok P w K mg base CX 3 "need_level" ["level","least"] [.int 0] dA)(G:Fok P w K mg base CX 2 "need_place" ["x","y","level"] [] kK):
  bA P w K mg base CX 4 f fd ["x","y","level"] p_:=by
 refine F.ok eV (fun vs H Q E h =>?_) (fun U A outer s H vs Q E J h =>?_)
 ·obtain⟨_,_,_,rfl,_⟩:=h;rfl
 obtain⟨x,y,n,rfl,Y,hx,hy,q'⟩:=h;refine⟨_,(ac (aW (aj B q J (aa (pv 2) af))) (ac (aW (aj G q J (aa (pv 0) (aa (pv 1) (aa (pv 2) af))))) (ac (av (i:=3) eV cq) (ac (aN HK rfl (bQ rfl T.b_range (aa (pv 2) af)) (aR (i:=4) eV) (ac (av (i:=3) eV (ai cJ (bI mY rfl T.b_str xM (aa (ai aI (ai cQ (ai aL (pv 1) ae) ae) (ai aL (pv 0) ae)) af)) (pv 3))) (ac (av (i:=0) eV (ai aJ (pv 0) ae)) (ag (av (i:=1) eV (ai aJ (pv 1) ae)))))) (ag (aA (pv 3))))))),?_⟩;refine⟨(n:Int),0,rfl,by simp,by lia,by simp,?_⟩;refine⟨x,y,n,rfl,Y,⟨by simp,by exact_mod_cast hx⟩,⟨by simp,by exact_mod_cast hy⟩,fun H1 s1 =>?_⟩;refine⟨_,rfl,by simp,by lia,bV (fun i σ H2=>H2=H1∧∃ z a b v,z=txt (low i x y)∧a=((x / 2 ^ i:Nat):Int)∧b=((y / 2 ^ i:Nat):Int)∧σ=[some (.int a),some (.int b),some (.int n),some (.str z),v]) ⟨rfl,_,_,_,none,dE,by simp,by simp,rfl⟩ ?_ ?_⟩
 ·rintro i σ H2 hi ⟨rfl,z,a,b,v,rfl,rfl,rfl,rfl⟩;have hi':i < n:=by assumption
  have ed:((y / 2 ^ i:Nat):Int) % 2 * 2 + ((x / 2 ^ i:Nat):Int) % 2=((dgt x y i:Nat):Int):=by
   unfold dgt;generalize x / 2 ^ i=a;generalize y / 2 ^ i=b
   lia
  have O:=xH x y i;have lg:((dgt x y i:Nat):Int).natAbs.log2 < 1920:=by
   rw[Int.natAbs_natCast];exact four (P:=fun d=>d.log2 < 1920) (by decide +kernel) (by decide +kernel) (by decide +kernel) (by decide +kernel) O
  refine⟨(by show (0:Int) < 2;decide),.inr ⟨by decide,by decide⟩,(by show (0:Int) < 2;decide),((dgt x y i:Nat):Int),(by show [V.int _]=[V.int _];rw[ed]),lg,?_⟩;rw[xZ O];refine⟨_,_,rfl,rfl,small (by rw[e_,ug];show 1 + i≤1000;lia),?_⟩;refine⟨ci (by decide) (by decide),ci (by decide) (by decide),rfl,_,_,_,_,?_,?_,?_,rfl⟩
  ·rw[yt,BR]
  ·rw[← pK];rfl
  ·rw[← pK];rfl
 ·rintro σ H2 ⟨rfl,z,a,b,v,rfl,rfl,rfl,rfl⟩;have e:((n:Int)).toNat=n:=Iy n
  try dsimp only
  refine (fG ?_);rw[e];exact q' _ s1
abbrev qg:Stmt:=top 21
theorem dR:aE ["code","level","x","y","sign","quarter","wide"] ["code","level"] (aq qg):={}
inductive rf  (vs:List V)(H:Hp)(Q:VK):Prop
 | mk (z:Str) (n:Nat) (h_0:vs=[.str z,.int n]) (h_1:IsC z) (h_2:z.length≤n) (h_3:n≤40) (h_4:∀ p H',ak H H'→H' p=some (.tup [.int ((cxs (dig z) * 2 ^ (n - z.length):Nat):Int),.int ((cys (dig z) * 2 ^ (n - z.length):Nat):Int),.int ((2 ^ (n - z.length):Nat):Int)])→Q (.ref p) H'):rf  vs H Q
def ny:Sp:=fun vs H Q _=>rf  vs H Q
theorem zQ (T:Tx K mg)(q:bZ CX)(F:bu K "corner" "corner" qg f fd .none)(G:Fok P w K mg base CX 2 "need_code" ["code"] [] iK)(B:Fok P w K mg base CX 3 "need_level" ["level","least"] [] dA)
  (J:Fok P w K mg base CX 1 "width_of" ["level"] [] jx):bA P w K mg base CX 4 f fd ["code","level"] ny:=by
 refine F.ok dR (fun vs H Q E h =>?_) (fun a0 A outer s H vs Q E O h =>?_)
 ·obtain⟨_,_,rfl,_⟩:=h;rfl
 obtain⟨z,n,rfl,hz,hl,hn,q'⟩:=h;refine⟨_,(ac (aW (aj G q O (aa (pv 0) af))) (ac (aW (aj B q O (aa (pv 1) (aa (aB bC rfl T.b_len cR (aa (pv 0) af)) af)))) (ac (av (i:=2) dR ae) (ac (av (i:=3) dR ae) (ac (aN HK rfl (nJ (pv 0)) (aR (i:=4) dR) (ac (av (i:=5) dR (bI eu rfl T.b_int eA (aa (pv 4) af))) (ac (av (i:=2) dR (ai aI (ai cQ (pv 2) ae) (ai aL (pv 5) ae))) (ag (av (i:=3) dR (ai aI (ai cQ (pv 3) ae) (ai aJ (pv 5) ae))))))) (ac (av (i:=6) dR (aj J q O (aa (ai bM (pv 1) (aB bC rfl T.b_len cR (aa (pv 0) af))) af))) (ag (aA (aD (ap (ai cQ (pv 2) (pv 6)) (ap (ai cQ (pv 3) (pv 6)) (ap (pv 6) am)))))))))))),?_⟩;have hs:z.length≤sizeLine:=small (by lia);refine⟨z,rfl,hz,by lia,fun H1 s1 =>?_⟩;refine⟨_,_,rfl,⟨hs,rfl⟩,(n:Int),(z.length:Int),rfl,by simp,by lia,by lia,?_⟩;refine⟨z,rfl,fO (fun i σ H2=>H2=H1∧∃ x y U Y,x=((cxs ((dig z).take i):Nat):Int)∧y=((cys ((dig z).take i):Nat):Int)∧σ=[some (.str z),some (.int n),some (.int x),some (.int y),U,Y,none]) ⟨rfl,0,0,none,none,rfl,rfl,rfl⟩ ?_ ?_⟩
 ·rintro i σ H2 hi ⟨rfl,x,y,U,Y,rfl,rfl,rfl⟩;obtain⟨d,hd,e1,e2⟩:=kh hz hi;refine⟨_,(d:Int),rfl,by rw[e1];exact mL hd,by rw[e1];show 1≤640;decide,?_⟩;refine⟨.inr ⟨by decide,by decide⟩,(by show (0:Int) < 2;decide),?_⟩;refine⟨.inr ⟨by decide,by decide⟩,ci (by decide) (by decide),?_⟩;refine⟨rfl,_,_,_,_,?_,?_,rfl⟩
  ·rw[mV hi,wk,e2];rfl
  ·rw[mV hi,wj,e2];rfl
 ·rintro σ H2 ⟨rfl,x,y,U,Y,rfl,rfl,rfl⟩;have et:(dig z).take z.length=dig z:=HM (by rw[cF];exact Ht _);rw[et];have e:(n:Int) - (z.length:Int)=((n - z.length:Nat):Int):=by lia
  refine⟨_,_,rfl,⟨hs,rfl⟩,n - z.length,(by show [V.int _]=[V.int _];rw[e]),by lia,?_⟩;have hw:=G6 (k:=n - z.length) (by lia);refine⟨.inr hw,.inr hw,(leZ rfl),fun p hp =>?_⟩;refine q' p _ (s1.trans (ak.new hp _)) ?_;rw[ah,Jd,Jd]
end
theorem qF (h:k < n):(low n x y).take (k + 1)=(low n x y).take k++[dgt x y (n - 1 - k)]:=by
 rw[Ic]
 congr 1
 simp[low,h]
theorem Dh (ds:List Nat)(k:Nat):pre (txt ds) k=txt (ds.take k):=by
 unfold pre txt;simp[List.map_take]
theorem yT (B:x < 2 ^ n):∀ k,k≤n→cxs ((low n x y).take k)=x / 2 ^ (n - k)
 | 0,_=>by rw[Ke,Nat.div_eq_of_lt B];rfl
 | k + 1,h=>by
  rw[qF (by assumption),wk,yT B k (by lia)];have e:n - k=(n - (k + 1)) + 1:=by lia
  have G:n - 1 - k=n - (k + 1):=by lia
  rw[e,← pK,G];unfold dgt
  lia
theorem yS (B:y < 2 ^ n):∀ k,k≤n→cys ((low n x y).take k)=y / 2 ^ (n - k)
 | 0,_=>by rw[Ke,Nat.div_eq_of_lt B];rfl
 | k + 1,h=>by
  rw[qF (by assumption),wj,yS B k (by lia)];have e:n - k=(n - (k + 1)) + 1:=by lia
  have G:n - 1 - k=n - (k + 1):=by lia
  rw[e,← pK,G];unfold dgt
  lia
section
variable {P:Program}{w:World}{K:PySem.W.Frag}{mg:Str→Option Value}{base:Heap}{CX:CXT}{f:Addr}{fd:FuncData}
abbrev nB:Stmt:=top 27
theorem eU:aE ["sheet","x","y","code","tree","signs"] ["sheet","x","y"] (aq nB):={}
inductive oz  (vs:List V)(H:Hp)(Q:VK):Prop
 | mk (v:V) (t:Tr) (n x y:Nat) (h_0:vs=[v,.int x,.int y]) (h_1:CD H v n t) (h_2:aP n t) (h_3:n≤40) (h_4:x < 2 ^ n) (h_5:y < 2 ^ n) (h_6:∀ (i:Nat) (c:Int) H',ak H H'→i≤n→jr t ((low n x y).take i)=some (.col c)→Q (.str (txt ((low n x y).take i))) H'):oz  vs H Q
def pX:Sp:=fun vs H Q _=>oz  vs H Q
theorem xm (T:Tx K mg)(q:bZ CX)(F:bu K "leaf_at" "leaf_at" nB f fd .none)(B:Fok P w K mg base CX 4 "code_at" ["x","y","level"] [] p_):bA P w K mg base CX 5 f fd ["sheet","x","y"] pX:=by
 refine F.ok eU (fun vs H Q E h =>?_) (fun a1 A outer s H vs Q E hr h =>?_)
 ·obtain⟨_,_,_,_,_,rfl,_⟩:=h;rfl
 obtain⟨v,t,n,x,y,rfl,⟨p,vt,rfl,hp,ht⟩,gt,hn,hx,hy,q'⟩:=h;refine⟨_,(ac (av (i:=3) eU (aj B q hr (aa (pv 1) (aa (pv 2) (aa (au aw (pv 0) ae) af))))) (ac (av (i:=4) eU (au aw (pv 0) ae)) (ac (av (i:=5) eU ae) (ac (jL HK (cG (aB (bW "tuple") rfl T.b_isinstance aU (aa (pv 4) (aa (d9 T.b_tuple gI) af)))) (ac (av (i:=4) eU (au aw (pv 4) (bI eu rfl T.b_int eA (aa (au jR (pv 3) (pv 5)) af)))) (ag (av (i:=5) eU (ai aI (pv 5) ae))))) (ag (aA (c_ iL (pv 3) fJ (dq (pv 5))))))))),?_⟩
 have zs:(txt (low n x y)).length≤sizeLine:=by rw[e_,ug];exact small (by lia)
 refine⟨p,_,_,_,rfl,rfl,SqT.of hp,rfl,x,y,n,rfl,hn,hx,hy,fun H1 s1 =>?_⟩;refine⟨p,_,_,_,rfl,rfl,SqT.of (s1 _ _ hp),rfl,?_⟩;refine pP (fun σ H2=>H2=H1∧∃ (i:Nat) (v':V) (t':Tr),i≤n∧bT H1 v' t'∧jr t ((low n x y).take i)=some t'∧aP (n - i) t'∧σ=[some (.ref p),some (.int x),some (.int y),some (.str (txt (low n x y))),some v',some (.int (i:Int))]) (fun σ H2=>match σ with | [_,_,_,_,_,some (.int i)]=>n - i.toNat | _=>0) ⟨rfl,0,vt,t,HE _,ht.up s1.tups,rfl,gt,rfl⟩ ?_ ?_
 ·rintro σ H2 ⟨rfl,i,v',t',hi,a0,J,G,rfl⟩;cases a0 with
  | col j =>
   refine⟨_,_,_,rfl,.int j,nV,az (js ?_)⟩;refine⟨_,rfl,_,rfl,zs,?_⟩;rw[dQ,Dh];exact q' i j H2 s1 hi J
  | @four r xa xb xc xd ta tb tc td e ja jb jc jd =>
   have O:i < n:=by
    rcases Jj i n with z|z
    ·exact z
    ·rw[show n - i=0 by lia]at G;exact G.elim
   have ed:(low n x y).take (i + 1)=(low n x y).take i++[dgt x y (n - 1 - i)]:=qF O;have hd:dgt x y (n - 1 - i) < 4:=xH ..;have ga:(low n x y)[i]? = some (dgt x y (n - 1 - i)):=by simp[low,O]
   generalize dgt x y (n - 1 - i)=d at *;rw[show n - i=(n - (i + 1)) + 1 by lia]at G;obtain⟨g1,g2,g3,g4,_⟩:=G;have key:∃ U,atI [xa,xb,xc,xd] (d:Int)=some U∧bT H2 U (qk (.four ta tb tc td) d)∧aP (n - (i + 1)) (qk (.four ta tb tc td) d):=by
    rcases d with _|_|_|_|d
    ·exact⟨xa,rfl,ja,g1⟩
    ·exact⟨xb,rfl,jb,g2⟩
    ·exact⟨xc,rfl,jc,g3⟩
    ·exact⟨xd,rfl,jd,g4⟩
    ·lia
   obtain⟨U,ex,kx,gx⟩:=key;have at':atI (txt (low n x y)).cps.toList (i:Int)=some (48 + d):=bD (by show (((low n x y).map (48 + ·)).toArray).toList[i]? = _;simp[ga]);refine⟨_,_,_,rfl,.tup e,lU,az (mK ?_)⟩;refine⟨_,i,48 + d,rfl,rfl,zs,at',_,(d:Int),rfl,mL hd,by show (1:Nat)≤640;decide,r,_,_,U,rfl,rfl,SqT.of e,ex,?_⟩;refine⟨⟨rfl,i + 1,U,_,by assumption,kx,?_,gx,by simp⟩,?_⟩
   ·rw[ed,qB,J];rfl
   ·show n - ((i:Int) + 1).toNat < n - ((i:Int)).toNat
    lia
 ·rintro σ H2 Q1 Q2 k h;have Y:=h;obtain⟨_,e1,Y⟩:=aM Y;obtain⟨b,c,d,e2,e3,e4,Y⟩:=Y;obtain⟨_,f1,f2⟩:=ff Y;exact (bc e1 ⟨b,c,d,e2,e3,e4,lS f1 (k _ _ f2)⟩)
end
abbrev Pt:Type:=Int × Int
def ux (d:Nat):Int:=if d=0 then 1 else if d=2 then -1 else 0
def uy (d:Nat):Int:=if d=1 then 1 else if d=3 then -1 else 0
def rtx (d:Nat):Int:=if d=1∨d=2 then -1 else 0
def rty (d:Nat):Int:=if d=2∨d=3 then -1 else 0
def go (a:Pt)(k:Nat)(d:Nat):Pt:=(a.1 + k * ux d,a.2 + k * uy d)
def cl (C:Int→Int→Prop)(p:Pt)(d:Nat):Prop:=C (p.1 + rtx d) (p.2 + rty d)
def Bd (C:Int→Int→Prop)(p:Pt)(d:Nat):Prop:=cl C p d∧¬ cl C p ((d + 3) % 4)
theorem du (h:d < 4):d=0∨d=1∨d=2∨d=3:=by lia
theorem pC (a:Pt)(d:Nat):go a 0 d=a:=by simp[go]
theorem qL (a:Pt)(k j d:Nat):go (go a k d) j d=go a (k + j) d:=by
 refine Prod.ext ?_ ?_<;>simp only[go,Jz,Int.add_mul]<;>lia
theorem qK (B:d < 4)(h:go a k d=go a j d):k=j:=by
 have h1:=Ij Prod.fst h;have h2:=Ij Prod.snd h;rcases du B with rfl | rfl | rfl | rfl<;>simp[go,ux,uy]at h1 h2<;>lia
theorem sj (h:go a k d=go b k d):a=b:=by
 have h1:=Ij Prod.fst h;have h2:=Ij Prod.snd h;simp only[go]at h1 h2;exact Prod.ext (by lia) (by lia)
theorem Gp (B:d < 4)(h:go a 1 d=p):Bd C a d↔cl C p ((d + 1) % 4)∧¬ cl C p ((d + 2) % 4):=by
 subst h;unfold Bd cl;rcases du B with rfl | rfl | rfl | rfl<;>simp[go,ux,uy,rtx,rty,Int.add_assoc]
structure Pcs (C:Int→Int→Prop)(D:Pt→Nat→Option Pt):Prop where
 way:∀ {a d e},D a d=some e→d < 4
 len:∀ {a d e},D a d=some e→∃ l:Nat,0 < l∧e=go a l d∧∀ k < l,Bd C (go a k d) d
 all:∀ {p d},d < 4→Bd C p d→∃ a l k,D a d=some (go a l d)∧k < l∧p=go a k d
 one:∀ {a b d l m k j},D a d=some (go a l d)→D b d=some (go b m d)→k < l→j < m→go a k d=go b j d→a=b
def turn (C:Int→Int→Prop)(p:Pt)(d:Nat)(e:Nat):Prop:=(¬ cl C p d∧e=(d + 1) % 4)∨(cl C p d∧¬ cl C p ((d + 3) % 4)∧e=d)∨(cl C p d∧cl C p ((d + 3) % 4)∧e=(d + 3) % 4)
section
variable {C:Int→Int→Prop}{D:Pt→Nat→Option Pt}
theorem Pcs.last (h:Pcs C D)(e:D a d=some p):∃ l b,p=go a (l + 1) d∧b=go a l d∧go b 1 d=p∧(cl C p ((d + 1) % 4)∧¬ cl C p ((d + 2) % 4)):=by
 obtain⟨l,J,ep,G⟩:=h.len e;obtain⟨m,rfl⟩:∃ m,l=m + 1:=⟨l - 1,by lia⟩;have B:go (go a m d) 1 d=p:=by rw[qL];exact ep.symm
 exact⟨m,_,ep,rfl,B,(Gp (h.way e) B).mp (G m (by simp))⟩
theorem Pcs.begins (h:Pcs C D)(B:d < 4)(hb:Bd C p d)(G:¬ (cl C p ((d + 1) % 4)∧¬ cl C p ((d + 2) % 4))∨∃ a,D a d=some p):(D p d).isSome=true:=by
 obtain⟨a,l,k,e,hk,ep⟩:=h.all B hb;by_cases k0:k=0
 ·subst k0;rw[ep,pC,e];rfl
 exfalso
 obtain⟨j,rfl⟩:∃ j,k=j + 1:=⟨k - 1,by lia⟩;have O:go (go a j d) 1 d=p:=by rw[qL];exact ep.symm
 rcases G with G|⟨b,J⟩
 ·obtain⟨l',_,e2,hB⟩:=h.len e;have e3:=qK B e2;exact G ((Gp B O).mp (hB j (by lia)))
 ·obtain⟨m,b',U,e5,e6,_⟩:=h.last J;have Y:go a j d=go b m d:=by rw[← e5];exact sj (O.trans e6.symm)
  have e8:=h.one e (by rw[← U];exact J) (show j < l by lia) (show m < m + 1 by simp) Y;subst e8;rw[J]at e;have e9:=qK B (U.symm.trans (Option.some.inj e));have a0:=qK B Y
  lia
theorem Pcs.first (h:Pcs C D)(e:(D p d).isSome=true):d < 4∧Bd C p d:=by
 obtain⟨q,e⟩:=Ii.mp e;obtain⟨l,B,_,G⟩:=h.len e
 have:=G 0 B
 rw[pC]at this;exact⟨h.way e,this⟩
def nx (D:Pt→Nat→Option Pt)(x:Pt × Nat):Pt × Nat:=match D x.1 x.2 with
 | none=>x
 | some p=>if (D p ((x.2 + 1) % 4)).isSome=true then (p,(x.2 + 1) % 4) else if (D p x.2).isSome=true then (p,x.2) else (p,(x.2 + 3) % 4)
theorem pA (e:D a d=some p):nx D (a,d)=if (D p ((d + 1) % 4)).isSome=true then (p,(d + 1) % 4) else if (D p d).isSome=true then (p,d) else (p,(d + 3) % 4):=by
 unfold nx;dsimp only;rw[e]
theorem mF (h:Pcs C D)(e:D a d=some p):∃ e',nx D (a,d)=(p,e')∧(D p e').isSome=true∧turn C p d e'∧e' < 4:=by
 have B:=h.way e;obtain⟨l,b,e1,e2,e3,G,J⟩:=h.last e;rw[pA e];have O:((d + 1) % 4 + 3) % 4=d:=by omega
 have Y:((d + 1) % 4 + 1) % 4=(d + 2) % 4:=by simp
 have m3:((d + 3) % 4 + 3) % 4=(d + 2) % 4:=by lia
 have m4:((d + 3) % 4 + 1) % 4=d:=by omega
 have m5:((d + 3) % 4 + 2) % 4=(d + 1) % 4:=by lia
 by_cases q1:(D p ((d + 1) % 4)).isSome=true
 ·rw[if_pos q1]
  have:=(h.first q1).2.2
  rw[O]at this;exact⟨_,rfl,q1,.inl ⟨this,rfl⟩,by lia⟩
 rw[if_neg q1];have cd:cl C p d:=Classical.byContradiction fun n=>q1 (h.begins (by lia) ⟨G,by rw[O];exact n⟩ (.inl fun k=>J (by rw[Y]at k;exact k.1)));by_cases q2:(D p d).isSome=true
 ·rw[if_pos q2];exact⟨_,rfl,q2,.inr (.inl ⟨cd,(h.first q2).2.2,rfl⟩),B⟩
 rw[if_neg q2];have U:cl C p ((d + 3) % 4):=Classical.byContradiction fun n=>q2 (h.begins B ⟨cd,n⟩ (.inr ⟨a,e⟩));refine⟨_,rfl,h.begins (by lia) ⟨U,by rw[m3];exact J⟩ (.inl fun k=>k.2 (by rw[m5];exact G)),.inr (.inr ⟨cd,U,rfl⟩),by lia⟩
theorem zg (h:d < 4)(h':d' < 4)(U:cl C p ((d + 1) % 4))(Y:¬ cl C p ((d + 2) % 4))(b1:cl C p ((d' + 1) % 4))(b2:¬ cl C p ((d' + 2) % 4))(t:turn C p d e)(t':turn C p d' e):d=d':=by
 unfold turn at t t';rcases du h with rfl | rfl | rfl | rfl<;>rcases du h' with rfl | rfl | rfl | rfl<;>first
  | rfl
  | (exfalso
     simp only[Nat.reduceAdd,Nat.reduceMod]at U Y b1 b2 t t';generalize cl C p 0=c0 at *;generalize cl C p 1=c1 at *;generalize cl C p 2=c2 at *;generalize cl C p 3=c3 at *;rcases t with⟨B,G⟩ | ⟨B,t3,G⟩ | ⟨B,t3,G⟩<;>rcases t' with⟨J,O⟩ | ⟨J,u3,O⟩ | ⟨J,u3,O⟩<;>first | contradiction | lia)
theorem Fb (h:Pcs C D)(G:(D x.1 x.2).isSome=true)(J:(D y.1 y.2).isSome=true)(e:nx D x=nx D y):x=y:=by
 obtain⟨a,d⟩:=x;obtain⟨b,d'⟩:=y;obtain⟨p,ep⟩:=Ii.mp G;obtain⟨q,B⟩:=Ii.mp J;dsimp only at ep B;obtain⟨e1,O,_,U,_⟩:=mF h ep;obtain⟨e2,Y,_,t2,_⟩:=mF h B;rw[O,Y]at e;injection e with k1 k2;subst k1 k2;obtain⟨l,b1,f1,f2,f3,c1,c2⟩:=h.last ep;obtain⟨m,b2,g1,g2,g3,c3,c4⟩:=h.last B;have dd:=zg (h.way ep) (h.way B) c1 c2 c3 c4 U t2;subst dd;have e7:go a l d=go b m d:=by rw[← f2,← g2];exact sj (f3.trans g3.symm)
 have:=h.one (by rw[← f1];exact ep) (by rw[← g1];exact B) (Ki l) (Ki m) e7
 rw[this]
end
def it {α:Type}(f:α→α):Nat→α→α
 | 0,a=>a
 | n + 1,a=>f (it f n a)
theorem nX (f:α→α)(a:α)(i:Nat):∀ j,it f j (it f i a)=it f (i + j) a
 | 0=>rfl
 | j + 1=>by
  show f (it f j (it f i a))=f (it f (i + j) a);rw[nX f a i j]
theorem nW {α:Type}{f:α→α}{S:α→Prop}(B:∀ a,S a→S (f a)){a:α}(h:S a):∀ n,S (it f n a)
 | 0=>h
 | n + 1=>B _ (nW B h n)
theorem B4 {α:Type}{f:α→α}{S:α→Prop}(B:∀ a,S a→S (f a))(hi:∀ a b,S a→S b→f a=f b→a=b){a b:α}(G:S a)(J:S b):∀ n,it f n a=it f n b→a=b
 | 0,e=>e
 | n + 1,e=>B4 B hi G J n (hi _ _ (nW B G n) (nW B J n) e)
theorem nN [DecidableEq α]:∀ {l S:List α},l.Nodup→(∀ x∈l,x∈S)→l.length≤S.length
 | [],_,_,_=>HE _
 | x::l,S,nd,h=>by
  obtain⟨J,O⟩:=IZ.mp nd;have B:=h x HP
  have:=nN (l:=l) (S:=S.erase x) O fun y G=>(List.mem_erase_of_ne (fun (e:y=x)=>J (by rw[← e];exact G))).mpr (h y (HF _ G))
  rw[List.length_erase_of_mem B]at this
  have:=J0 B
  simp only[HX]
  lia
theorem Ex {P:Nat→Prop}{n:Nat}(h:P n):∃ m,P m∧m≤n∧∀ k < m,¬ P k:=by
 induction n using Nat.strongRecOn with
 | ind n ih =>
  by_cases c:∃ k,k < n∧P k
  ·obtain⟨k,B,G⟩:=c;obtain⟨m,h1,h2,J⟩:=ih k B G;exact⟨m,h1,by lia,J⟩
  ·exact⟨n,h,Ht _,fun k B G=>c ⟨k,B,G⟩⟩
theorem Ga {α:Type}[DecidableEq α]{f:α→α}{S:List α}(G:∀ a∈S,f a∈S)(hi:∀ a b,a∈S→b∈S→f a=f b→a=b){a:α}(J:a∈S):
  ∃ N,0 < N∧N≤S.length∧(it f N a=a∧∀ i j,i < j→j < N→it f i a≠it f j a):=by
 have mem:∀ n,it f n a∈S:=nW (S:=(· ∈ S)) G J;have back:∀ i j,i < j→it f i a=it f j a→it f (j - i) a=a:=fun i j B e=>by
  have:it f i (it f (j - i) a)=it f i a:=by rw[nX,show j - i + i=j by lia];exact e.symm
  exact B4 (S:=(· ∈ S)) G hi (mem _) J i this
 have ex:∃ i j,i < j∧j≤S.length∧it f i a=it f j a:=Classical.byContradiction fun O=>by
  have nd:((List.range (S.length + 1)).map fun k=>it f k a).Nodup:=by
   unfold List.Nodup;rw[IG]
   have:(List.range (S.length + 1)).Pairwise fun x y=>x < y∧y≤S.length:=by
    rw[IQ];intro i j hi hj B;simp at hi hj ⊢
    lia
   exact this.imp fun {x y} h e=>O ⟨x,y,h.1,h.2,e⟩
  have:=nN (S:=S) nd fun x U=>by
   obtain⟨k,_,rfl⟩:=Hz.mp U;exact mem k
  simp at this
  lia
 obtain⟨i,j,B,hj,e⟩:=ex;have Y:0 < j - i∧it f (j - i) a=a:=⟨by lia,back i j B e⟩;obtain⟨N,⟨h1,h2⟩,h3,h4⟩:=Ex (P:=fun n=>0 < n∧it f n a=a) Y;refine⟨N,h1,by lia,h2,fun i j B a0 e =>?_⟩;exact h4 (j - i) (by lia) ⟨by lia,back i j B e⟩
def axd (d:Nat):Bool:=decide (d=0∨d=2)
def sgd (d:Nat):Bool:=decide (d=0∨d=3)
def InS (q:Sq)(x y:Int):Prop:=(q.x:Int)≤x∧x < q.x + q.w∧(q.y:Int)≤y∧y < q.y + q.w
def tlo (q:Sq)(d:Nat):Int:=if axd d then q.x else q.y
def ig (L:List Sq)(q:Sq)(d:Nat):List Sq:=L.filter fun r=>fo (axd d) (sgd d) q r.x r.y r.w
def cV (L:List Sq)(q:Sq)(d:Nat):List (Int × Int):=if ig L q d=[] then [(tlo q d,tlo q d + q.w)] else ((ig L q d).filter fun r=>decide (r.c≠q.c)).map fun r=>(max (tlo q d) (tlo r d),min (tlo q d + q.w) (tlo r d + r.w))
def cS (q:Sq)(d:Nat)(be:Int × Int):Pt × Pt :=
 if d=0 then ((be.1,q.y),(be.2,q.y)) else if d=1 then ((q.x + q.w,be.1),(q.x + q.w,be.2)) else if d=2 then ((be.2,q.y + q.w),(be.1,q.y + q.w)) else ((q.x,be.2),(q.x,be.1))
def gen (q:Sq)(d:Nat)(be:Int × Int):NK × Pt:=(((cS q d be).1,(d:Int)),(cS q d be).2)
def G1 (L:List Sq)(q:Sq)(d:Nat):List (NK × Pt):=(cV L q d).map (gen q d)
def GL (L M:List Sq):List (NK × Pt):=M.flatMap fun q=>(List.range 4).flatMap fun d=>G1 L q d
theorem n6:p∈GL L M↔∃ q∈M,∃ d,d < 4∧∃ B∈cV L q d,p=gen q d B:=by
 unfold GL G1;simp only[List.mem_flatMap,Hz,Js];constructor
 ·rintro⟨q,G,d,J,B,O,rfl⟩;exact⟨q,G,d,J,B,O,rfl⟩
 ·rintro⟨q,G,d,J,B,O,rfl⟩;exact⟨q,G,d,J,B,O,rfl⟩
def rcx (q:Sq)(d:Nat)(t:Int):Int:=if d=0∨d=2 then t else if d=1 then q.x + q.w - 1 else q.x
def rcy (q:Sq)(d:Nat)(t:Int):Int:=if d=1∨d=3 then t else if d=2 then q.y + q.w - 1 else q.y
def lcx (q:Sq)(d:Nat)(t:Int):Int:=if d=0∨d=2 then t else if d=1 then q.x + q.w else q.x - 1
def lcy (q:Sq)(d:Nat)(t:Int):Int:=if d=1∨d=3 then t else if d=2 then q.y + q.w else q.y - 1
structure Lnd (L M:List Sq)(W:Int)(col:Int):Prop where
 pos:∀ q∈L,0 < q.w
 apart:∀ q∈L,∀ r∈L,∀ x y,InS q x y→InS r x y→q=r
 cover:∀ x y,0≤x→x < W→0≤y→y < W→∃ q∈L,InS q x y
 inside:∀ q∈L,(q.x:Int) + q.w≤W∧(q.y:Int) + q.w≤W
 sub:∀ q∈M,q∈L
 colour:∀ q∈M,q.c=col
 closed:∀ q∈M,∀ r∈L,∀ d,d < 4→fo (axd d) (sgd d) q r.x r.y r.w=true→r.c=col→r∈M
def CM (M:List Sq)(x y:Int):Prop:=∃ q∈M,InS q x y
theorem nR (B:d < 4):fo (axd d) (sgd d) q r.x r.y r.w=true ↔
  (if d=0 then r.y + r.w=q.y else if d=1 then r.x=q.x + q.w else if d=2 then r.y=q.y + q.w else r.x + r.w=q.x)∧tlo q d < tlo r d + r.w∧tlo r d < tlo q d + q.w:=by
 unfold fo;rw[Io];unfold fE;rcases du B with rfl | rfl | rfl | rfl<;>simp[axd,sgd,nC,tC',tlo]<;>omega
section
variable {L M:List Sq}{W col:Int}
theorem Lnd.lies (h:Lnd L M W col)(U:q∈L)(J:r∈L)(O:d < 4)(Y:tlo q d≤t∧t < tlo q d + q.w)(hi:InS r (lcx q d t) (lcy q d t)):r∈ig L q d∧tlo r d≤t∧t < tlo r d + r.w:=by
 have hw:=h.pos q U;have B:InS q (rcx q d t) (rcy q d t):=by
  unfold InS;rcases du O with rfl | rfl | rfl | rfl<;>simp[rcx,rcy,tlo,axd]at Y ⊢<;>lia
 have G:¬ InS r (rcx q d t) (rcy q d t):=fun c=>by
  have e:=h.apart q U r J _ _ B c;subst e;unfold InS at hi;rcases du O with rfl | rfl | rfl | rfl<;>simp[lcx,lcy]at hi<;>omega
 have a0:∀ x y,InS q x y→¬ InS r x y:=fun x y hx c=>by
  have e:=h.apart q U r J _ _ hx c;subst e;exact G B
 have rw':=h.pos r J;unfold ig;rw[Ip,nR O];unfold InS at hi G B;rcases du O with rfl | rfl | rfl | rfl<;>simp[lcx,lcy,rcx,rcy,tlo,axd]at hi G Y ⊢<;>refine⟨⟨J,?_⟩,?_⟩<;>lia
theorem Lnd.bare (h:Lnd L M W col)(Y:q∈M)(O:d < 4)(U:be∈cV L q d):be.1 < be.2∧∀ t,be.1≤t→t < be.2→tlo q d≤t∧t < tlo q d + q.w∧CM M (rcx q d t) (rcy q d t)∧¬ CM M (lcx q d t) (lcy q d t):=by
 have hL:=h.sub q Y;have hw:=h.pos q hL;have rc:∀ t,tlo q d≤t→t < tlo q d + q.w→CM M (rcx q d t) (rcy q d t):=fun t h1 h2=>⟨q,Y,by
  unfold InS;rcases du O with rfl | rfl | rfl | rfl<;>simp[rcx,rcy,tlo,axd]at h1 h2 ⊢<;>lia⟩
 unfold cV at U
 split at U
 ·rename_i e
  have:=Hv.mp U
  subst this;refine⟨by dsimp only;lia,fun t h1 h2=>⟨h1,h2,rc t h1 h2,?_⟩⟩;rintro⟨r,hr,hi⟩
  have:=(h.lies hL (h.sub r hr) O ⟨h1,h2⟩ hi).1
  rw[e]at this;cases this
 ·obtain⟨r,hr,rfl⟩:=Hz.mp U;obtain⟨B,a0⟩:=Ip.mp hr;have G:r∈L:=(Ip.mp B).1;have hl:=(nR O).mp (Ip.mp B).2;have a1:r.c≠q.c:=HG a0;have a3:=h.pos r G;refine⟨by dsimp only;omega,fun t h1 h2 =>?_⟩;dsimp only at h1 h2;have k1:tlo q d≤t:=by lia
  have k2:t < tlo q d + q.w:=by lia
  refine⟨k1,k2,rc t k1 k2,?_⟩;rintro⟨r',J,hi⟩;have a2:InS r (lcx q d t) (lcy q d t):=by
   unfold InS;rcases du O with rfl | rfl | rfl | rfl<;>simp[lcx,lcy,tlo,axd]at hl h1 h2 ⊢<;>lia
  have e:=h.apart r' (h.sub r' J) r G _ _ hi a2;subst e;exact a1 ((h.colour r' J).trans (h.colour q Y).symm)
theorem Lnd.part_one (h:Lnd L M W col)(hq:q∈M)(h4:d < 4)(U:be∈cV L q d)(B:be'∈cV L q d)(ht:be.1≤t∧t < be.2)(G:be'.1≤t∧t < be'.2):be=be':=by
 have hL:=h.sub q hq;unfold cV at U B
 split at U
 ·rename_i e
  rw[if_pos e]at B;rw[Hv.mp U,Hv.mp B]
 ·rename_i e
  rw[if_neg e]at B;obtain⟨r,Y,rfl⟩:=Hz.mp U;obtain⟨r',a0,rfl⟩:=Hz.mp B;have go:∀ r,r∈(ig L q d).filter (fun r=>decide (r.c≠q.c))→max (tlo q d) (tlo r d)≤t→t < min (tlo q d + q.w) (tlo r d + r.w)→r∈L∧InS r (lcx q d t) (lcy q d t):=fun r Y h1 h2=>by
   have J:=(Ip.mp Y).1;have hl:=(nR h4).mp (Ip.mp J).2;have O:r∈L:=(Ip.mp J).1;have a3:=h.pos r O;refine⟨O,?_⟩;unfold InS;rcases du h4 with rfl | rfl | rfl | rfl<;>simp[lcx,lcy,tlo,axd]at hl h1 h2 ⊢<;>lia
  obtain⟨a1,a2⟩:=go r Y ht.1 ht.2;obtain⟨b1,b2⟩:=go r' a0 G.1 G.2;rw[h.apart r a1 r' b1 _ _ a2 b2]
theorem Lnd.part_of (h:Lnd L M W col)(G:q∈M)(B:d < 4)(h1:tlo q d≤t)(h2:t < tlo q d + q.w)(Y:¬ CM M (lcx q d t) (lcy q d t)):∃ be∈cV L q d,be.1≤t∧t < be.2:=by
 have J:=h.sub q G;have hw:=h.pos q J;obtain⟨i1,i2⟩:=h.inside q J;unfold cV;by_cases e:ig L q d=[]
 ·rw[if_pos e];exact⟨_,Hv.mpr rfl,h1,h2⟩
 ·rw[if_neg e];obtain⟨o,ho⟩:=List.exists_mem_of_ne_nil _ e;obtain⟨O,o2⟩:=Ip.mp ho;have ol:=(nR B).mp o2;obtain⟨j1,j2⟩:=h.inside o O;have ow:=h.pos o O;obtain⟨r,U,hi⟩:∃ r∈L,InS r (lcx q d t) (lcy q d t):=by
   refine h.cover _ _ ?_ ?_ ?_ ?_<;>rcases du B with rfl | rfl | rfl | rfl<;>simp[lcx,lcy,tlo,axd]at ol h1 h2 ⊢<;>lia
  obtain⟨k1,k2,k3⟩:=h.lies J U B ⟨h1,h2⟩ hi;have hc:r.c≠q.c:=fun c=>Y ⟨r,h.closed q G r U d B (Ip.mp k1).2 (c.trans (h.colour q G)),hi⟩;exact⟨_,Hz.mpr ⟨r,Ip.mpr ⟨k1,Hr hc⟩,rfl⟩,by dsimp only;lia,by dsimp only;lia⟩
def jq (d:Nat)(be:Int × Int)(k:Nat):Int:=if d=0∨d=1 then be.1 + k else be.2 - 1 - k
theorem qM (G:d < 4)(B:Int × Int)(k:Nat):(go (cS q d B).1 k d).1 + rtx d=rcx q d (jq d B k)∧(go (cS q d B).1 k d).2 + rty d=rcy q d (jq d B k)∧(go (cS q d B).1 k d).1 + rtx ((d + 3) % 4)=lcx q d (jq d B k)∧(go (cS q d B).1 k d).2 + rty ((d + 3) % 4)=lcy q d (jq d B k):=by
 rcases du G with rfl|rfl|rfl|rfl<;>simp[go,ux,uy,rtx,rty,cS,rcx,rcy,lcx,lcy,jq]<;>lia
theorem pD (B:d < 4)(h:be.1 < be.2):(cS q d be).2=go (cS q d be).1 (be.2 - be.1).toNat d:=by
 have e:((be.2 - be.1).toNat:Int)=be.2 - be.1:=by lia
 rcases du B with rfl|rfl|rfl|rfl<;>refine Prod.ext ?_ ?_<;>simp[go,ux,uy,cS,e]<;>lia
theorem sO (h:k < (be.2 - be.1).toNat):be.1≤jq d be k∧jq d be k < be.2:=by
 unfold jq
 split<;>lia
theorem Fu (h:Lnd L M W col)(G:q∈M)(B:d < 4)(J:be∈cV L q d)(O:k < (be.2 - be.1).toNat):Bd (CM M) (go (cS q d be).1 k d) d:=by
 obtain⟨U,Y,e3,e4⟩:=qM (q:=q) B be k;obtain⟨u1,u2⟩:=sO (d:=d) O;obtain⟨_,_,c1,c2⟩:=(h.bare G B J).2 _ u1 u2;unfold Bd cl;rw[U,Y,e3,e4];exact⟨c1,c2⟩
theorem yG (h:Lnd L M W col)(O:q∈M)(G:q'∈M)(B:d < 4)(U:be∈cV L q d)(J:be'∈cV L q' d)(hk:k < (be.2 - be.1).toNat)(hj:j < (be'.2 - be'.1).toNat)(e:go (cS q d be).1 k d=go (cS q' d be').1 j d):q=q'∧be=be':=by
 obtain⟨Y,e2,_,_⟩:=qM (q:=q) B be k;obtain⟨f1,f2,_,_⟩:=qM (q:=q') B be' j;rw[e]at Y e2;have g1:rcx q d (jq d be k)=rcx q' d (jq d be' j):=Y.symm.trans f1;have g2:rcy q d (jq d be k)=rcy q' d (jq d be' j):=e2.symm.trans f2;obtain⟨u1,u2⟩:=sO (d:=d) hk;obtain⟨v1,v2⟩:=sO (d:=d) hj;have w1:=h.pos q (h.sub q O);have w2:=h.pos q' (h.sub q' G);obtain⟨a1,a2,_,_⟩:=(h.bare O B U).2 _ u1 u2;obtain⟨b1,b2,_,_⟩:=(h.bare G B J).2 _ v1 v2;have i1:InS q (rcx q d (jq d be k)) (rcy q d (jq d be k)):=by
  unfold InS;rcases du B with rfl | rfl | rfl | rfl<;>simp[rcx,rcy,tlo,axd]at a1 a2 ⊢<;>lia
 have i2:InS q' (rcx q d (jq d be k)) (rcy q d (jq d be k)):=by
  rw[g1,g2];unfold InS;rcases du B with rfl | rfl | rfl | rfl<;>simp[rcx,rcy,tlo,axd]at b1 b2 ⊢<;>lia
 have eq:=h.apart q (h.sub q O) q' (h.sub q' G) _ _ i1 i2;subst eq;have et:jq d be k=jq d be' j:=by
  rcases du B with rfl|rfl|rfl|rfl<;>simp[rcx,rcy]at g1 g2<;>omega
 exact⟨rfl,h.part_one O B U J ⟨u1,u2⟩ (et▸⟨v1,v2⟩)⟩
def DG (L M:List Sq)(a:Pt)(d:Nat):Option Pt:=((GL L M).find? fun p=>decide (p.1=(a,(d:Int)))).map (·.2)
theorem rj (h:DG L M a d=some e):((a,(d:Int)),e)∈GL L M:=by
 obtain⟨p,h1,rfl⟩:=Iw.mp h;have h2:=KN h1;have B:p.1=(a,(d:Int)):=HG h2;rw[← B];exact JP h1
theorem uT (h:DG L M a d=some e):d < 4∧∃ q∈M,∃ B∈cV L q d,a=(cS q d B).1∧e=(cS q d B).2:=by
 obtain⟨q,J,d',O,B,U,G⟩:=n6.mp (rj h);unfold gen at G;simp only[Prod.mk.injEq]at G
 have:d=d':=by lia
 subst this;exact⟨O,q,J,B,U,G.1.1,G.2⟩
theorem go0 (a:Pt)(d:Nat):go a 0 d=a:=pC a d
theorem CH (h:Lnd L M W col)(h1:(k,e)∈GL L M)(h2:(k,e')∈GL L M):e=e':=by
 obtain⟨q,Y,d,J,be,hb,O⟩:=n6.mp h1;obtain⟨q',B,d',a0,a1,G,U⟩:=n6.mp h2;unfold gen at O U;simp only[Prod.mk.injEq]at O U;obtain⟨rfl,rfl⟩:=O;obtain⟨e3,rfl⟩:=U;simp only[Prod.mk.injEq]at e3
 have:d=d':=by lia
 subst this;have l1:=(h.bare Y J hb).1;have l2:=(h.bare B J G).1;obtain⟨rfl,rfl⟩:=yG h Y B J hb G (k:=0) (j:=0) (by lia) (by lia) (by rw[go0,go0];exact e3.1);rfl
theorem GM (h:Lnd L M W col)(G:q∈M)(J:d < 4)(O:be∈cV L q d):DG L M (cS q d be).1 d=some (cS q d be).2:=by
 have B:gen q d be∈GL L M:=n6.mpr ⟨q,G,d,J,be,O,rfl⟩;cases e:DG L M (cS q d be).1 d with
 | none =>
  have:=(Option.map_eq_none_iff.mp e)
  have:=List.find?_eq_none.mp this _ B
  exact absurd (Hr rfl) this
 | some p=>rw[CH h (rj e) B]
theorem Ed {q:Sq}{p:Pt}{d:Nat}(G:d < 4){t:Int}(O:t=if d=0 then p.1 else if d=1 then p.2 else if d=2 then p.1 - 1 else p.2 - 1)(U:if d=0 then p.2=q.y else if d=1 then p.1=q.x + q.w else if d=2 then p.2=q.y + q.w else p.1=q.x){B:Int × Int}(h1:B.1≤t)(h2:t < B.2):∃ k,k < (B.2 - B.1).toNat∧p=go (cS q d B).1 k d:=by
 obtain⟨k,J⟩:∃ k:Nat,k=(if d=0∨d=1 then t - B.1 else B.2 - 1 - t).toNat:=⟨_,rfl⟩;refine⟨k,?_,Prod.ext ?_ ?_⟩
 ·rcases du G with rfl|rfl|rfl|rfl<;>simp at J ⊢<;>lia
 ·rcases du G with rfl|rfl|rfl|rfl<;>simp[go,ux,cS]at J O U ⊢<;>lia
 ·rcases du G with rfl|rfl|rfl|rfl<;>simp[go,uy,cS]at J O U ⊢<;>lia
theorem pcs (h:Lnd L M W col):Pcs (CM M) (DG L M) where
 way:=fun e=>(uT e).1
 len:=fun {a d e} he=>by
  obtain⟨B,q,J,G,O,rfl,rfl⟩:=uT he;have Y:=(h.bare J B O).1;exact⟨(G.2 - G.1).toNat,by lia,pD B Y,fun k hk=>Fu h J B O hk⟩
 all:=fun {p d} B O=>by
  obtain⟨⟨q,J,hi⟩,hn⟩:=O;have hL:=h.sub q J;have hw:=h.pos q hL;have a0:¬ InS q (p.1 + rtx ((d + 3) % 4)) (p.2 + rty ((d + 3) % 4)):=fun c=>hn ⟨q,J,c⟩;unfold cl CM at hn;obtain⟨t,et⟩:∃ t,t=if d=0 then p.1 else if d=1 then p.2 else if d=2 then p.1 - 1 else p.2 - 1:=⟨_,rfl⟩
  have key:tlo q d≤t∧t < tlo q d + q.w∧p.1 + rtx ((d + 3) % 4)=lcx q d t∧p.2 + rty ((d + 3) % 4)=lcy q d t∧(if d=0 then p.2=q.y else if d=1 then p.1=q.x + q.w else if d=2 then p.2=q.y + q.w else p.1=q.x):=by
   unfold InS at hi a0;subst et;rcases du B with rfl | rfl | rfl | rfl<;>simp[rtx,rty,tlo,axd,lcx,lcy]at hi a0 ⊢<;>lia
  obtain⟨t1,t2,t3,t4,t6⟩:=key;have t5:∀ G:Int × Int,G.1≤t→t < G.2→∃ k,k < (G.2 - G.1).toNat∧p=go (cS q d G).1 k d:=fun G h1 h2=>Ed B et t6 h1 h2;rw[t3,t4]at hn;obtain⟨G,O,b1,b2⟩:=h.part_of J B t1 t2 hn;obtain⟨k,hk,ep⟩:=t5 G b1 b2;have Y:=(h.bare J B O).1;exact⟨_,_,k,(GM h J B O).trans (by rw[pD B Y]),hk,ep⟩
 one:=fun {a b d l m k j} ha O hk hj e=>by
  obtain⟨B,q,J,G,a1,rfl,e1⟩:=uT ha;obtain⟨_,q',a2,a3,U,rfl,e2⟩:=uT O;have Y:=(h.bare J B a1).1;have l2:=(h.bare a2 B U).1;rw[pD B Y]at e1;rw[pD B l2]at e2;have n1:=qK B e1;have n2:=qK B e2;obtain⟨rfl,rfl⟩:=yG h J a2 B a1 U (k:=k) (j:=j) (by lia) (by lia) e;rfl
end
theorem x9:∀ (ds:List Nat) (n:Nat),ds.length≤n→sqX n ds=cxs ds * 2 ^ (n - ds.length)
 | [],n,_=>by show 0=cxs [] * 2 ^ (n - 0);rw[show cxs []=0 from rfl];simp
 | d::ds,n,h=>by
  rw[HX]at h;obtain⟨k,rfl⟩:∃ k,n=k + 1 + ds.length:=⟨n - 1 - ds.length,by lia⟩;have B:=x9 ds (k + ds.length) (by simp);have G:cxs (d::ds)=d % 2 * 2 ^ ds.length + cxs ds:=by
   have:=pO [d] ds
   rw[Kg]at this;rw[this];simp[cxs]
  show d % 2 * 2 ^ (k + 1 + ds.length - 1) + sqX (k + 1 + ds.length - 1) ds=_;rw[show k + 1 + ds.length - 1=k + ds.length by simp,B,G,HX,show k + 1 + ds.length - (ds.length + 1)=k by lia,show k + ds.length - ds.length=k by simp,IM,IY,← Jg,Nat.add_comm ds.length k]
theorem x8:∀ (ds:List Nat) (n:Nat),ds.length≤n→sqY n ds=cys ds * 2 ^ (n - ds.length)
 | [],n,_=>by show 0=cys [] * 2 ^ (n - 0);rw[show cys []=0 from rfl];simp
 | d::ds,n,h=>by
  rw[HX]at h;obtain⟨k,rfl⟩:∃ k,n=k + 1 + ds.length:=⟨n - 1 - ds.length,by omega⟩;have B:=x8 ds (k + ds.length) (by simp);have G:cys (d::ds)=d / 2 * 2 ^ ds.length + cys ds:=by
   have:=pN [d] ds
   rw[Kg]at this;rw[this];simp[cys]
  show d / 2 * 2 ^ (k + 1 + ds.length - 1) + sqY (k + 1 + ds.length - 1) ds=_;rw[show k + 1 + ds.length - 1=k + ds.length by simp,B,G,HX,show k + 1 + ds.length - (ds.length + 1)=k by lia,show k + ds.length - ds.length=k by simp,IM,IY,← Jg,Nat.add_comm ds.length k]
def Hh (L:List Sq)(z z':List Nat):Prop:=Au (gE (cM L)) (jt L) z z'
structure cK (L:List Sq)(A:List Nat→List (List Nat))(zs:List (List Nat)):Prop where
 ez:zs=L.map (·.z)
 hB:L.Pairwise fS
 len:zs.length≤1500
 near:∀ z z',z'∈A z↔Hh L z z'
section
variable {L:List Sq}{A:List Nat→List (List Nat)}{zs:List (List Nat)}
theorem cK.cl (C:cK L A zs):∀ z∈zs,∀ y∈A z,y∈zs:=fun z _ y G=>by
 obtain⟨dd,B,_,h⟩:=(C.near z y).mp G;obtain⟨q1,h1,J,h2,rfl,_⟩:=kw B;rw[C.ez];rcases h with⟨_,e⟩|⟨_,e⟩
 ·rw[e];exact Hz.mpr ⟨J,h2,rfl⟩
 ·rw[e];exact Hz.mpr ⟨q1,h1,rfl⟩
theorem cK.col (C:cK L A zs)(h:y∈A z):cm (cM L) (ky y)=cm (cM L) (ky z):=by
 obtain⟨d,_,B,h⟩:=(C.near z y).mp h;have e:cm (cM L) (ky d.1)=cm (cM L) (ky d.2):=HG B;rcases h with⟨rfl,rfl⟩|⟨rfl,rfl⟩
 ·exact e.symm
 ·exact e
theorem cK.end_ (C:cK L A zs)(B:z∈zs):∃ k,(aZ A z k).length=k∧nQ A z=aZ A z k:=by
 obtain⟨k,G,e⟩:=Eb (A:=A) (z:=z) (N:=1500) fun k=>H_ (BI.bfs C.cl B k).len C.len;exact⟨k,e,yw e G⟩
theorem cK.bi (C:cK L A zs)(B:z∈zs):BI zs (nQ A z):=by
 obtain⟨k,_,e⟩:=C.end_ B;rw[e];exact BI.bfs C.cl B k
theorem cK.closed (C:cK L A zs)(B:z∈zs):∀ m∈nQ A z,∀ y∈A m.1,y∈(nQ A z).map (·.1):=by
 obtain⟨k,O,e⟩:=C.end_ B;rw[e];intro m G y J;obtain⟨i,hi⟩:=IS G;exact qY A z k i m (by have:=(Hx.mp hi).1;lia) hi y J
theorem cK.first (C:cK L A zs)(B:z∈zs):z∈(nQ A z).map (·.1):=by
 obtain⟨k,_,e⟩:=C.end_ B;rw[e];exact Hz.mpr ⟨_,HH (wA A z k),rfl⟩
theorem cK.reach (C:cK L A zs)(B:z∈zs)(S:List Nat→Prop)(G:S z)(J:∀ x y,S x→y∈A x→S y):∀ m∈nQ A z,S m.1:=by
 obtain⟨k,_,e⟩:=C.end_ B;rw[e];exact sK A z S G J k
end
def CT (L:List Sq)(z:List Nat):Sq:=(L.find? fun q=>decide (q.z=z)).getD ⟨[],0,0,0,0⟩
theorem sZ (h:L.Pairwise fS)(B:q∈L):CT L q.z=q:=by
 unfold CT;cases e:L.find? fun r=>decide (r.z=q.z) with
 | none=>exact absurd (Hr rfl) (List.find?_eq_none.mp e q B)
 | some r =>
  have G:=KN e;have J:r.z=q.z:=by simpa using G
  exact rO h (JP e) B J
theorem io:∀ (t:Tr) (p:List Nat) (x y k:Nat),aP k t→∀ i j:Nat,x≤i→i < x + 2 ^ k→y≤j→j < y + 2 ^ k→∃ q∈sqs p t x y k,q.x≤i∧i < q.x + q.w∧q.y≤j∧j < q.y + q.w
 | .col c,p,x,y,k,_,i,j,h1,h2,h3,h4=>⟨⟨p,c,x,y,2 ^ k⟩,Hv.mpr rfl,h1,h2,h3,h4⟩
 | .four a b c d,p,x,y,0,g,_,_,_,_,_,_=>g.elim
 | .four a b c d,p,x,y,k + 1,⟨ga,gb,gc,gd,_⟩,i,j,h1,h2,h3,h4=>by
  have U:2 ^ (k + 1)=2 ^ k + 2 ^ k:=by rw[IR];lia
  rw[U]at h2 h4;have A:=io a (p++[0]) x y k ga i j;have B:=io b (p++[1]) (x + 2 ^ k) y k gb i j;have C:=io c (p++[2]) x (y + 2 ^ k) k gc i j;have D:=io d (p++[3]) (x + 2 ^ k) (y + 2 ^ k) k gd i j;show ∃ q∈sqs (p++[0]) a x y k++(sqs (p++[1]) b (x + 2 ^ k) y k++(sqs (p++[2]) c x (y + 2 ^ k) k++sqs (p++[3]) d (x + 2 ^ k) (y + 2 ^ k) k)),_;simp only[HD];generalize 2 ^ k=K at *;rcases Jj i (x + K) with J | J<;>rcases Jj j (y + K) with O | O
  ·obtain⟨q,G,h⟩:=A h1 J h3 O;exact⟨q,.inl G,h⟩
  ·obtain⟨q,G,h⟩:=C h1 J O (by lia);exact⟨q,.inr (.inr (.inl G)),h⟩
  ·obtain⟨q,G,h⟩:=B J (by lia) h3 O;exact⟨q,.inr (.inl G),h⟩
  ·obtain⟨q,G,h⟩:=D J (by lia) O (by lia);exact⟨q,.inr (.inr (.inr G)),h⟩
theorem kD {L:List Sq}(h:L.Pairwise fS){q r:Sq}(O:q∈L)(U:r∈L):q=r∨Sep q r∨Sep r q:=by
 induction L with
 | nil=>cases O
 | cons p L ih =>
  obtain⟨h1,h2⟩:=JF.mp h;rcases HZ.mp O with Y|G
  ·rcases HZ.mp U with J|B
   ·exact .inl (Y.trans J.symm)
   ·exact .inr (.inl (Y▸(h1 r B).1))
  ·rcases HZ.mp U with J|B
   ·exact .inr (.inr (J▸(h1 q G).1))
   ·exact ih h2 G B
theorem xx (B:d < 4)(G:0 < q.w)(J:0 < r.w)(h:fo (axd d) (sgd d) q r.x r.y r.w=true):bp q r=true∧bp r q=true:=by
 have h':=(nR B).mp h;have t:bp q r=true:=by
  rw[eQ];unfold ie;rw[ii,ii,gD,gD];rcases du B with rfl | rfl | rfl | rfl<;>simp[tlo,axd]at h'<;>lia
 exact⟨t,by rw[nq];exact t⟩
def dD (L:List Sq)(A:List Nat→List (List Nat))(z:List Nat):List Sq:=(nQ A z).map fun m=>CT L m.1
theorem vT {L:List Sq}{A:List Nat→List (List Nat)}{zs:List (List Nat)}(C:cK L A zs){q0:Sq}(h0:q0∈L)(q:Sq):q∈dD L A q0.z↔q∈L∧q.z∈(nQ A q0.z).map (·.1):=by
 have J:=C.hB;have z0:q0.z∈zs:=by rw[C.ez];exact Hz.mpr ⟨q0,h0,rfl⟩
 unfold dD;constructor
 ·intro G;obtain⟨m,B,rfl⟩:=Hz.mp G;have O:=(C.bi z0).sub m B;rw[C.ez]at O;obtain⟨r,U,Y⟩:=Hz.mp O;rw[← Y,sZ J U];exact⟨U,Y▸Hz.mpr ⟨m,B,rfl⟩⟩
 ·rintro⟨G,hz⟩;obtain⟨m,B,em⟩:=Hz.mp hz;exact Hz.mpr ⟨m,B,by rw[em,sZ J G]⟩
theorem BS {t:Tr}{n:Nat}(gt:aP n t){A:List Nat→List (List Nat)}{zs:List (List Nat)}(C:cK (sqs [] t 0 0 n) A zs){q0:Sq}(h0:q0∈sqs [] t 0 0 n):Lnd (sqs [] t 0 0 n) (dD (sqs [] t 0 0 n) A q0.z) ((2 ^ n:Nat):Int) q0.c∧q0∈dD (sqs [] t 0 0 n) A q0.z:=by
 have G:=fZ t [] 0 0 n gt;have U:=io t [] 0 0 n gt;obtain⟨L,eL⟩:∃ L,L=sqs [] t 0 0 n:=⟨_,rfl⟩;rw[← eL]at C h0 G U ⊢;have Y:=C.hB;have z0:q0.z∈zs:=by rw[C.ez];exact Hz.mpr ⟨q0,h0,rfl⟩
 have O:∀ q,q∈dD L A q0.z↔q∈L∧q.z∈(nQ A q0.z).map (·.1):=vT C h0;refine⟨⟨fun q J=>(G q J).2.2.2.2,fun q J r hr x y i j =>?_,fun x y h1 h2 h3 h4 =>?_,fun q J =>?_,fun q J=>((O q).mp J).1,fun q J =>?_,fun q J r hr d h4 hl hc =>?_⟩,(O q0).mpr ⟨h0,C.first z0⟩⟩
 ·rcases kD Y J hr with e|e|e
  ·exact e
  ·unfold Sep at e;unfold InS at i j
   lia
  ·unfold Sep at e;unfold InS at i j
   lia
 ·obtain⟨q,J,k1,k2,k3,k4⟩:=U x.toNat y.toNat (HE _) (by lia) (HE _) (by lia);exact⟨q,J,by unfold InS;lia⟩
 ·obtain⟨_,i2,_,i4,_⟩:=G q J;omega
 ·obtain⟨B,a0⟩:=(O q).mp J;obtain⟨m,hm,em⟩:=Hz.mp a0
  have:=C.reach z0 (fun y=>cm (cM L) (ky y)=cm (cM L) (ky q0.z)) rfl (fun x y h1 h2=>(C.col h2).trans h1) m hm
  rw[em,cj Y B,cj Y h0]at this;injection this with this;injection this
 ·obtain⟨B,a0⟩:=(O q).mp J;obtain⟨m,hm,em⟩:=Hz.mp a0;refine (O r).mpr ⟨hr,C.closed z0 m hm r.z ?_⟩;rw[em];have qc:q.c=q0.c:=by
   have:=C.reach z0 (fun y=>cm (cM L) (ky y)=cm (cM L) (ky q0.z)) rfl (fun x y h1 h2=>(C.col h2).trans h1) m hm
   rw[em,cj Y B,cj Y h0]at this;injection this with this;injection this
  have cc:cm (cM L) (ky q.z)=cm (cM L) (ky r.z):=by rw[cj Y B,cj Y hr,hc,qc]
  obtain⟨t1,t2⟩:=xx h4 (G q B).2.2.2.2 (G r hr).2.2.2.2 hl;obtain⟨i,hi⟩:=IS B;obtain⟨j,hj⟩:=IS hr;rw[C.near];rcases Kw i j with c|c|c
  ·exact⟨_,mT hi hj c t1,Hr cc,.inl ⟨rfl,rfl⟩⟩
  ·subst c;rw[hi]at hj;cases hj
   have:=(nR h4).mp hl
   have w:=(G q B).2.2.2.2
   exfalso
   rcases du h4 with rfl|rfl|rfl|rfl<;>simp at this<;>lia
  ·exact⟨_,mT hj hi c t2,Hr cc.symm,.inr ⟨rfl,rfl⟩⟩
def PtV (H:Hp)(u:V)(p:Int × Int):Prop:=∃ a,u=.ref a∧H a=some (.tup [.int p.1,.int p.2])
theorem PtV.up (h:PtV H u p)(s:bS H H'):PtV H' u p:=by
 obtain⟨a,e,k⟩:=h;exact⟨a,e,s _ _ k⟩
abbrev jW (H:Hp):List V→List (Int × Int)→Prop:=Paired (PtV H)
theorem jW.up (h:jW H us ps)(s:bS H H'):jW H' us ps:=Paired.mapP h fun _ _ k=>k.up s
theorem nu (ok:uP q [] t 0 0 n):IsC (txt q.z)∧(txt q.z).length≤n∧cxs (dig (txt q.z)) * 2 ^ (n - (txt q.z).length)=q.x∧cys (dig (txt q.z)) * 2 ^ (n - (txt q.z).length)=q.y∧2 ^ (n - (txt q.z).length)=q.w:=by
 obtain⟨w,B,G,_,J,ex,O,U⟩:=ok;rw[IV]at B;subst B;rw[fQ,e_];exact⟨sQ G,J,by rw[ex];simp,by rw[O];simp,U.symm⟩
def AN (d:Nat):Str:=if d=0 then "up" else if d=1 then "right" else if d=2 then "down" else "left"
theorem CW (B:d < 4):∃ (s1 s2:Str) (dx dy:Int),F0[d]? = some (.str (AN d))∧Dir (AN d) s1 s2 dx dy∧dig s2=d_ (axd d) (sgd d)∧dx=(if axd d then 0 else if sgd d then -1 else 1)∧dy=(if axd d then (if sgd d then -1 else 1) else 0):=by
 rcases du B with rfl|rfl|rfl|rfl
 ·exact⟨_,_,_,_,rfl,.inl ⟨rfl,rfl,rfl,rfl,rfl⟩,by decide +kernel,rfl,rfl⟩
 ·exact⟨_,_,_,_,rfl,.inr (.inl ⟨rfl,rfl,rfl,rfl,rfl⟩),by decide +kernel,rfl,rfl⟩
 ·exact⟨_,_,_,_,rfl,.inr (.inr (.inl ⟨rfl,rfl,rfl,rfl,rfl⟩)),by decide +kernel,rfl,rfl⟩
 ·exact⟨_,_,_,_,rfl,.inr (.inr (.inr ⟨rfl,rfl,rfl,rfl,rfl⟩)),by decide +kernel,rfl,rfl⟩
theorem AF {d:Nat}(B:d < 4)(q:Sq):atI [V.int (q.x:Int),V.int (q.y:Int),V.int (q.w:Int)] ((d:Int) % 2)=some (V.int (tlo q d)):=by
 rcases du B with rfl|rfl|rfl|rfl<;>rfl
section
variable {P:Program}{w:World}{K:PySem.W.Frag}{mg:Str→Option Value}{base:Heap}{CX:CXT}{f:Addr}{fd:FuncData}
abbrev iT:Stmt:=top 36
theorem bR:aE ["sheet","code","way","colours","square","begin","end","others","parts","other","near","start"] ["sheet","code","way","colours"] (aq iT):={}
inductive j9  (vs:List V)(H:Hp)(Q:VK):Prop
 | mk (ps cd:Addr) (n:Nat) (v:V) (t:Tr) (q:Sq) (d:Nat) (h_0:vs=[.ref ps,sV q.z,.int (d:Int),.ref cd]) (h_1:H ps=some (.tup [.int (n:Int),v])) (h_2:bT H v t) (h_3:aP n t) (h_4:n≤40) (h_5:cnt t≤1500) (h_6:q∈sqs [] t 0 0 n) (h_7:d < 4) (h_8:H cd=some (.dK (cM (sqs [] t 0 0 n)))) (h_9:∀ l us H',ak H H'→H l=none→H' l=some (.lst us)→jW H' us (cV (sqs [] t 0 0 n) q d)→Q (.ref l) H'):j9  vs H Q
def kM:Sp:=fun vs H Q _=>j9  vs H Q
theorem rH (T:Tx K mg)(Y:Yx K mg)(U:Ty P w K mg)(q:bZ (CXe P w))(F:bu K "bare_parts" "bare_parts" iT f fd .none)(G:Fok P w K mg base (CXe P w) 4 "corner" ["code","level"] [] ny)(B:Fok P w K mg base (CXe P w) 43 "beyond_leaf" ["sheet","code","side"] [] (gg Y)):
  bA P w K mg base (CXe P w) 44 f fd ["sheet","code","way","colours"] kM:=by
 refine F.ok bR (fun vs H Q E h =>?_) (fun c7 A outer s H vs Q E hr h =>?_)
 ·obtain⟨_,_,_,_,_,_,_,rfl,_⟩:=h;rfl
 obtain⟨ps,cd,n,v,t,sq,d,rfl,a2,ht,gt,hn,hc,hq,h4,a5,q'⟩:=h;obtain⟨aS,a0,kS⟩:=U.sides;refine⟨_,(ac (av (i:=4) bR (aj G q hr (aa (pv 1) (aa (au aw (pv 0) ae) af)))) (ac (av (i:=5) bR (au aw (pv 4) (ai aL (pv 2) ae))) (ac (av (i:=6) bR (ai aI (pv 5) (au aw (pv 4) ae))) (ac (av (i:=7) bR (aj B q hr (aa (pv 0) (aa (pv 1) (aa (au aw (km (v:=.ref _) rfl a0 rfl) (pv 2)) af))))) (ac (aQ (aF dS (aB bC rfl T.b_len cR (aa (pv 7) af)) ae) (ag (aA (aK (ap (aD (ap (pv 5) (ap (pv 6) am))) am)))) aG) (ac (av (i:=8) bR (aK am)) (ac (aN HK rfl (bU (pv 7)) (aR (i:=9) bR) (ag (aQ (aF vF (iW hr.dic (pv 3) (pv 9) (fun _ _=>rfl)) (iW hr.dic (pv 3) (pv 1) (fun _ _=>rfl))) (ac (av (i:=10) bR (aj G q hr (aa (pv 9) (aa (au aw (pv 0) ae) af)))) (ac (av (i:=11) bR (au aw (pv 10) (ai aL (pv 2) ae))) (ag (aW (a_ (pv 8) (aa (aD (ap (aB (fW rfl) rfl T.b_max lZ (aa (pv 5) (aa (pv 11) af))) (ap (aB (fV rfl) rfl T.b_min lY (aa (pv 6) (aa (ai aI (pv 11) (au aw (pv 10) ae)) af))) am))) af)))))) aG))) (ag (aA (pv 8)))))))))),?_⟩;obtain⟨L,eL⟩:∃ L,L=sqs [] t 0 0 n:=⟨_,rfl⟩;have hB:L.Pairwise fS:=by rw[eL];exact dG t [] 0 0 n gt
 have lc:L.length=cnt t:=by rw[eL];exact fe t [] 0 0 n
 have ok:=fY t [] 0 0 n gt sq hq;obtain⟨ic,il,cx,cy,cw⟩:=nu ok;refine⟨ps,_,_,_,rfl,rfl,SqT.of a2,rfl,txt sq.z,n,rfl,ic,il,hn,fun p1 H1 s1 w1 =>?_⟩;rw[cx,cy,cw]at w1;refine⟨(by show (0:Int) < 2;decide),p1,_,_,_,rfl,rfl,SqT.of w1,AF h4 sq,?_⟩;refine⟨p1,_,_,_,rfl,rfl,SqT.of w1,rfl,bE ?_⟩;obtain⟨b1,b2,dx,dy,b4,hd,e2,ex,ey⟩:=CW h4;refine⟨aS,_,_,_,rfl,rfl,kS.sq,bD b4,ps,n,v,.str (AN d),t,txt sq.z,rfl,s1 _ _ a2,ht.up s1.tups,gt,hn,by lia,ic,by lia,Cw (K:=K) gt ok hd e2 ex ey fun lo H2 s2 c8 u2 =>?_⟩;rw[nY,← eL]at u2;obtain⟨O,eO⟩:∃ O,O=ig L sq d:=⟨_,rfl⟩;have u2':H2 lo=some (.lst (O.map fun r=>sV r.z)):=by rw[u2,eO,IK];rfl
 have lO:O.length≤1500:=by
  have h1:=IL (fun r:Sq=>fo (axd d) (sgd d) sq r.x r.y r.w) L;rw[eO];unfold ig
  lia
 have J:=s1.trans s2;have c6:=J _ _ a2;have a6:=J _ _ a5;rw[← eL]at a6 q';have b5:sq∈L:=by rw[eL];exact hq
 refine⟨_,_,rfl,.inl ⟨_,SqL.of u2',rfl⟩,rfl,az (aY (fun c0 =>?_) (fun c0 =>?_))⟩
 ·have e0:O=[]:=by
   have:=HG c0
   injection this with this;rw[Hw]at this;exact Ie (by lia)
  refine⟨(leZ rfl),fun pt b6=>⟨(leZ rfl),fun l hl =>?_⟩⟩;have s3:=ak.new b6 (.tup [.int (tlo sq d),.int (tlo sq d + (sq.w:Int))]);have w3:upd H2 pt (.tup [.int (tlo sq d),.int (tlo sq d + (sq.w:Int))]) pt=some (.tup [.int (tlo sq d),.int (tlo sq d + (sq.w:Int))]):=ah;generalize upd H2 pt (.tup [.int (tlo sq d),.int (tlo sq d + (sq.w:Int))])=H3 at *;have s4:=ak.new hl (.lst [.ref pt]);refine q' l _ _ ((J.trans s3).trans s4) ((J.trans s3).free hl) ah ?_;unfold cV;rw[if_pos (by rw[← eO];exact e0)];exact .cons ⟨pt,rfl,s4 _ _ w3⟩ .nil
 have n0:¬ ig L sq d=[]:=fun e=>c0 (by
  rw[eO,e];exact Hr rfl)
 refine⟨(leZ rfl),nw fun lp H3 a7 s3 w3 =>?_⟩;have u3:=s3 _ _ u2';have a8:H lp=none:=J.free a7;have hlo':lo≠lp:=fun z=>by rw[z,a7]at u2';cases u2'
 have b7:=J.trans s3;have Od:∀ i r,O[i]? = some r→r∈L:=fun i r h=>by
  rw[eO]at h;exact (Ip.mp (HH h)).1
 refine⟨lo,rfl,⟨_,SqL.of u3⟩,cE (xs:=O.map fun r=>sV r.z) (fun (i:Nat) σ H4=>ak H H4∧(∀ b o,b≠lp→H3 b=some o→H4 b=some o)∧(∃ us,H4 lp=some (.lst us)∧jW H4 us (((O.take i).filter fun r=>decide (r.c≠sq.c)).map fun r=>(max (tlo sq d) (tlo r d),min (tlo sq d + sq.w) (tlo r d + r.w)))∧us.length≤i∧i≤O.length)∧∃ o9 a3 a4:Option V,σ=[some (.ref ps),some (sV sq.z),some (.int (d:Int)),some (.ref cd),some (.ref p1),some (.int (tlo sq d)),some (.int (tlo sq d + (sq.w:Int))),some (.ref lo),some (.ref lp),o9,a3,a4])
  ⟨b7,fun _ _ _ e=>e,⟨[],w3,.nil,Ht _,HE _⟩,_,_,_,rfl⟩ (fun i σ H4 _ h=>SqL.of (h.2.1 _ _ hlo' u3)) ?_ ?_⟩
 ·rintro i u σ H4 hu ⟨s4,k4,⟨us,w4,hP,l4,li⟩,o9,a3,a4,rfl⟩;rw[Ir]at hu;obtain⟨r,er,rfl⟩:=Iw.mp hu;have hi:=(Hx.mp er).1;have a9:=Od i r er;have et:O.take (i + 1)=O.take i++[r]:=by rw[Ic,er];rfl
  rw[et,Je];have a1:=s4 _ _ a5;rw[← eL]at a1;refine⟨cd,_,rfl,cj hB a9▸n8.k (k:=ky r.z) a1,cd,_,rfl,cj hB b5▸n8.k (k:=ky sq.z) a1,rfl,az (aY (fun c1 =>?_) (fun c1 =>?_))⟩
  rotate_left
  ·have c1':r.c=sq.c:=Classical.byContradiction fun n=>c1 (by
    show (!decide (V.int r.c=V.int sq.c))=true;rw[Ih (fun e=>n (V.int.inj e))];rfl)
   rw[show [r].filter (fun r=>decide (r.c≠sq.c))=[] by simp[c1'],II];exact⟨s4,k4,⟨us,w4,hP,by lia,by assumption⟩,_,_,_,rfl⟩
  have c1':r.c≠sq.c:=fun e=>by
   have c2:(!decide (V.int r.c=V.int sq.c))=true:=c1;rw[e,Hr rfl]at c2;cases c2
  rw[show [r].filter (fun r=>decide (r.c≠sq.c))=[r] by simp[c1'],Im];have b8:=fY t [] 0 0 n gt r (by rw[← eL];exact a9);obtain⟨jc,jl,b9,c3,c4⟩:=nu b8;refine⟨ps,_,_,_,rfl,rfl,SqT.of (s4 _ _ a2),rfl,txt r.z,n,rfl,jc,jl,hn,fun p5 H5 s5 w5 =>?_⟩;rw[b9,c3,c4]at w5;have b0:=s5 _ _ w4;refine⟨(by show (0:Int) < 2;decide),p5,_,_,_,rfl,rfl,SqT.of w5,AF h4 r,?_⟩;refine⟨.inl ⟨rfl,_,SqL.of b0⟩,_,_,rfl,p5,_,_,_,rfl,rfl,SqT.of w5,rfl,_,_,rfl,(leZ rfl),fun p6 c5 =>?_⟩;generalize e6:upd H5 p6 _=H6;have s6:ak H5 H6:=e6▸ak.new c5 _;have w6:H6 p6=some (.tup [.int (max (tlo sq d) (tlo r d)),.int (min (tlo sq d + sq.w) (tlo r d + r.w))]):=by
   rw[← e6,ah,← gD,← ii];rfl
  have b3:=s6 _ _ b0;refine⟨lp,us,_,rfl,rfl,b3,HS (by lia:us.length < 5000) (by decide),?_⟩;have t7:bS H6 (upd H6 lp (.lst (us++[.ref p6]))):=cZ b3 (by intro xs q;cases q);refine⟨ak.set ((s4.trans s5).trans s6) a8 _,fun b o hb e=>by rw[aH hb];exact (s5.trans s6) _ _ (k4 b o hb e),⟨us++[.ref p6],ah,cI (hP.up ((s5.trans s6).tups.trans t7)) (.cons ⟨p6,rfl,t7 _ _ w6⟩ .nil),by rw[Hs,IH];lia,by assumption⟩,_,_,_,rfl⟩
 ·rintro σ H4 ⟨s4,k4,⟨us,w4,hP,l4,li⟩,o9,a3,a4,rfl⟩;rw[HM (by rw[Hw];exact Ht _)]at hP;refine (q' lp us H4 s4 a8 w4 ?_);unfold cV;rw[if_neg n0,← eO];exact hP
abbrev gA:Stmt:=top 37
theorem dL:aE ["square","way","begin","end","x","y","wide"] ["square","way","begin","end"] (aq gA):={}
inductive iH  (vs:List V)(H:Hp)(Q:VK):Prop
 | mk (p:Addr) (q:Sq) (d:Nat) (b e:Int) (h_0:vs=[.ref p,.int (d:Int),.int b,.int e]) (h_1:H p=some (.tup [.int (q.x:Int),.int (q.y:Int),.int (q.w:Int)])) (h_2:d < 4) (h_3:∀ r p1 p2 H',ak H H'→H' r=some (.tup [.ref p1,.ref p2])→H' p1=some (.tup [.int (cS q d (b,e)).1.1,.int (cS q d (b,e)).1.2])→H' p2=some (.tup [.int (cS q d (b,e)).2.1,.int (cS q d (b,e)).2.2])→Q (.ref r) H'):iH  vs H Q
def jg:Sp:=fun vs H Q _=>iH  vs H Q
theorem fh {H:Hp}{Q:VK}{a b c e:Int}(h:∀ r B p2 H',ak H H'→H' r=some (.tup [.ref B,.ref p2])→H' B=some (.tup [.int a,.int b])→H' p2=some (.tup [.int c,.int e])→Q (.ref r) H')(B p2 r:Addr)(h1:H B=none)(h2:upd H B (.tup [.int a,.int b]) p2=none)(O:upd (upd H B (.tup [.int a,.int b])) p2 (.tup [.int c,.int e]) r=none):
  Q (.ref r) (upd (upd (upd H B (.tup [.int a,.int b])) p2 (.tup [.int c,.int e])) r (.tup [.ref B,.ref p2])):=by
 have U:=ak.new h1 (.tup [.int a,.int b]);have J:=ak.new h2 (.tup [.int c,.int e]);have G:=ak.new O (.tup [.ref B,.ref p2]);exact h r B p2 _ ((U.trans J).trans G) ah (G _ _ (J _ _ ah)) (G _ _ ah)
theorem oH (T:Tx K mg)(F:bu K "ends_of_part" "ends_of_part" gA f fd .none):bA P w K mg base CX 1 f fd ["square","way","begin","end"] jg:=by
 refine F.ok dL (fun vs H Q E h =>?_) (fun a0 A outer s H vs Q E hr h =>?_)
 ·obtain⟨_,_,_,_,_,rfl,_⟩:=h;rfl
 obtain⟨p,q,d,b,e,rfl,Y,h4,U⟩:=h;refine⟨_,(ac (av (i:=4) dL (au aw (pv 0) ae)) (ac (av (i:=5) dL (au aw (pv 0) ae)) (ac (av (i:=6) dL (au aw (pv 0) ae)) (ac (aQ (aF dS (pv 1) ae) (ag (aA (aD (ap (aD (ap (pv 2) (ap (pv 5) am))) (ap (aD (ap (pv 3) (ap (pv 5) am))) am))))) aG) (ac (aQ (aF dS (pv 1) ae) (ag (aA (aD (ap (aD (ap (ai aI (pv 4) (pv 6)) (ap (pv 2) am))) (ap (aD (ap (ai aI (pv 4) (pv 6)) (ap (pv 3) am))) am))))) aG) (ac (aQ (aF dS (pv 1) ae) (ag (aA (aD (ap (aD (ap (pv 3) (ap (ai aI (pv 5) (pv 6)) am))) (ap (aD (ap (pv 2) (ap (ai aI (pv 5) (pv 6)) am))) am))))) aG) (ag (aA (aD (ap (aD (ap (pv 4) (ap (pv 3) am))) (ap (aD (ap (pv 4) (ap (pv 2) am))) am))))))))))),?_⟩;refine⟨p,_,_,_,rfl,rfl,SqT.of Y,rfl,p,_,_,_,rfl,rfl,SqT.of Y,rfl,p,_,_,_,rfl,rfl,SqT.of Y,rfl,?_⟩;have G:2≤sizeLine:=by decide
 refine⟨rfl,az (aY (fun c0 =>?_) (fun c0=>⟨rfl,az (aY (fun c1 =>?_) (fun c1=>⟨rfl,az (aY (fun c2 =>?_) (fun c2 =>?_))⟩))⟩))⟩
 ·have J:d=0:=by have:=V.int.inj (HG c0);lia
  subst J;exact⟨G,fun B h1=>⟨G,fun p2 h2=>⟨G,fun r O=>fh (fun r B p2 H'=>U r B p2 H') B p2 r h1 h2 O⟩⟩⟩
 ·have J:d=1:=by have:=V.int.inj (HG c1);lia
  subst J;exact⟨G,fun B h1=>⟨G,fun p2 h2=>⟨G,fun r O=>fh (fun r B p2 H'=>U r B p2 H') B p2 r h1 h2 O⟩⟩⟩
 ·have J:d=2:=by have:=V.int.inj (HG c2);lia
  subst J;exact⟨G,fun B h1=>⟨G,fun p2 h2=>⟨G,fun r O=>fh (fun r B p2 H'=>U r B p2 H') B p2 r h1 h2 O⟩⟩⟩
 ·have n0:d≠0:=fun e=>c0 (by rw[e];exact Hr rfl);have n1:d≠1:=fun e=>c1 (by rw[e];exact Hr rfl);have n2:d≠2:=fun e=>c2 (by rw[e];exact Hr rfl);have J:d=3:=by lia
  subst J;exact⟨G,fun B h1=>⟨G,fun p2 h2=>⟨G,fun r O=>fh (fun r B p2 H'=>U r B p2 H') B p2 r h1 h2 O⟩⟩⟩
def PN (H:Hp)(G:List (NK × Pt))(e:NE):Prop:=∃ p∈G,p.1=e.1∧PtV H e.2.2 p.2
structure Pcd (P:Program)(w:World)(H:Hp)(a:Addr)(xs:List NE)(G:List (NK × Pt)):Prop where
 dn:DN P w H a xs
 ent:∀ e∈xs,PN H G e
 all:∀ p∈G,(nkV xs p.1).isSome=true
 len:xs.length≤G.length
theorem PN.up (h:PN H G e)(s:bS H H')(g:∀ p∈G,p∈G'):PN H' G' e:=by
 obtain⟨p,h1,h2,B⟩:=h;exact⟨p,g p h1,h2,B.up s⟩
theorem Pcd.up (h:Pcd P w H a xs G)(s:ak H H'):Pcd P w H' a xs G:=⟨h.dn.up s,fun e B=>(h.ent e B).up s.tups fun _ h=>h,h.all,h.len⟩
theorem yu:(nkV (cX xs k a v) k').isSome=(decide (k=k') || (nkV xs k').isSome):=by
 unfold cX
 split
 ·rename_i h
  by_cases e:k=k'
  ·subst e;rw[Hr rfl,Bool.true_or];obtain⟨u,B⟩:=Ii.mp h;obtain⟨b,G⟩:=mG B;unfold nkV;rw[IP,Kb];exact⟨(k,b,v),Hz.mpr ⟨(k,b,u),G,by simp⟩,by simp⟩
  ·rw[Ih e,Bool.false_or];unfold nkV;rw[IP,IP,List.find?_map,IP]
   congr 2
   funext x
   by_cases c:x.1=k<;>simp[c]
 ·unfold nkV;rw[IP,IP,List.find?_append];by_cases e:k=k'<;>simp[e,Jc]
theorem Pcd.put (h:Pcd P w H a xs G)(Y:H c=some (.tup [.int p.2.1,.int p.2.2]))(hH:H'=upd H a (dN P w a (cX xs p.1 b (.ref c))))(D:DN P w H' a (cX xs p.1 b (.ref c))):Pcd P w H' a (cX xs p.1 b (.ref c)) (G++[p]):=by
 have O:bS H H':=fun d ys e=>by
  rw[hH,aH fun z=>by rw[z,h.dn.at_]at e;exact nomatch e];exact e
 refine⟨D,fun e J =>?_,fun p' B =>?_,?_⟩
 ·have me:PN H' (G++[p]) (p.1,b,.ref c):=⟨p,by simp,rfl,c,rfl,O _ _ Y⟩;unfold cX at J
  split at J
  ·obtain⟨e',U,rfl⟩:=Hz.mp J;by_cases c1:e'.1=p.1
   ·rw[if_pos c1];exact⟨p,by simp,c1.symm,c,rfl,O _ _ Y⟩
   ·rw[if_neg c1];exact (h.ent e' U).up O fun _ h=>Iv _ h
  ·rcases HD.mp J with J|J
   ·exact (h.ent e J).up O fun _ h=>Iv _ h
   ·rw[Hv.mp J];exact me
 ·rw[yu];rcases HD.mp B with B | B
  ·rw[h.all p' B,Bool.or_true]
  ·rw[Hv.mp B,Hr rfl,Bool.true_or]
 ·have:=yf xs p.1 b (.ref c)
  have:=h.len
  rw[Hs,IH]
  lia
end
theorem CJ (h:q∈L):(G1 L q d).length≤L.length:=by
 unfold G1 cV ig;rw[Hw]
 split
 ·have:=J0 h
  simp only[IH]
  assumption
 ·rw[Hw];exact H_ (IL _ _) (IL _ _)
theorem qO {α β:Type}{f:α→List β}{c:Nat}:∀ {l:List α},(∀ x∈l,(f x).length≤c)→(l.flatMap f).length≤l.length * c
 | [],_=>by simp
 | x::l,h=>by
  have h1:=h x HP;have h2:=qO (f:=f) (l:=l) fun y B=>h y (HF _ B);rw[List.flatMap_cons,Hs,HX,IM]
  lia
theorem CI {L:List Sq}{q:Sq}(h:q∈L)(j:Nat):((List.range j).flatMap (G1 L q)).length≤j * L.length:=by
 have:=qO (f:=G1 L q) (c:=L.length) (l:=List.range j) fun d _=>CJ h
 rwa [Jx]at this
theorem uQ {L M:List Sq}(h:∀ q∈M,q∈L):(GL L M).length≤M.length * (4 * L.length):=qO fun q B=>CI (h q B) 4
theorem Ek (L M:List Sq)(q:Sq):GL L (M++[q])=GL L M++(List.range 4).flatMap (G1 L q):=by
 unfold GL;rw[Jl];simp
theorem wY (f:Nat→List α)(k:Nat):(List.range (k + 1)).flatMap f=(List.range k).flatMap f++f k:=by
 rw[JG,Jl];simp
section
variable {P:Program}{w:World}{K:PySem.W.Frag}{mg:Str→Option Value}{base:Heap}{CX:CXT}{f:Addr}{fd:FuncData}
abbrev gp:Stmt:=top 38
theorem bv:aE ["sheet","codes","colours","pieces","code","square","way","begin","end","ends"] ["sheet","codes"] (aq gp):={}
inductive iC  (P:Program)(w:World)(vs:List V)(H:Hp)(Q:VK):Prop
 | mk (ps lc:Addr) (n:Nat) (v:V) (t:Tr) (M:List Sq) (h_0:vs=[.ref ps,.ref lc]) (h_1:H ps=some (.tup [.int (n:Int),v])) (h_2:bT H v t) (h_3:aP n t) (h_4:n≤40) (h_5:cnt t≤1500) (h_6:H lc=some (.lst (M.map fun q=>sV q.z))) (h_7:(∀ q∈M,q∈sqs [] t 0 0 n)) (h_8:M.length≤1500) (h_9:∀ d xs H',ak H H'→H d=none→Pcd P w H' d xs (GL (sqs [] t 0 0 n) M)→Q (.ref d) H'):iC P w vs H Q
def i_  (P:Program)(w:World):Sp:=fun vs H Q _=>iC P w vs H Q
theorem oE (T:Tx K mg)(q:bZ (CXe P w))(F:bu K "pieces_round" "pieces_round" gp f fd .none)(O:Fok P w K mg base (CXe P w) 43 "leaves" ["sheet"] [] kg)(U:Fok P w K mg base (CXe P w) 4 "corner" ["code","level"] [] ny)(J:Fok P w K mg base (CXe P w) 44 "bare_parts" ["sheet","code","way","colours"] [] kM)(B:Fok P w K mg base (CXe P w) 1 "ends_of_part" ["square","way","begin","end"] [] jg):
  bA P w K mg base (CXe P w) 45 f fd ["sheet","codes"] (i_ P w):=by
 refine F.ok bv (fun vs H Q E h =>?_) (fun e1 A outer s H vs Q E hr h =>?_)
 ·obtain⟨_,_,_,_,_,_,rfl,_⟩:=h;rfl
 obtain⟨ps,lc,n,v,t,M,rfl,a3,ht,gt,hn,hc,b0,hM,lM,q'⟩:=h;refine⟨_,(ac (av (i:=2) bv (bI (qW rfl) rfl T.b_dict yY (aa (aj O q hr (aa (pv 0) af)) af))) (ac (av (i:=3) bv vA) (ac (aN HK rfl (bU (pv 1)) (aR (i:=4) bv) (ac (av (i:=5) bv (aj U q hr (aa (pv 4) (aa (au aw (pv 0) ae) af)))) (ag (aN HK rfl (bQ rfl T.b_range (aa ae af)) (aR (i:=6) bv) (ag (aN HK rfl (bU (aj J q hr (aa (pv 0) (aa (pv 4) (aa (pv 6) (aa (pv 2) af)))))) (iV rfl (aV (aR (i:=7) bv) (aV (aR (i:=8) bv) d8))) (ac (av (i:=9) bv (aj B q hr (aa (pv 5) (aa (pv 6) (aa (pv 7) (aa (pv 8) af)))))) (ag (vw hr.nest (pv 3) (aD (ap (au aw (pv 9) ae) (ap (pv 6) am))) (au aw (pv 9) ae) (ma rfl)))))))))) (ag (aA (pv 3)))))),?_⟩;obtain⟨L,eL⟩:∃ L,L=sqs [] t 0 0 n:=⟨_,rfl⟩;have hB:L.Pairwise fS:=by rw[eL];exact dG t [] 0 0 n gt
 have lL:L.length=cnt t:=by rw[eL];exact fe t [] 0 0 n
 have eS:lvs [] t=L.map fun q=>(q.z,q.c):=by rw[eL];exact gM t [] 0 0 n
 have c1:∀ q∈L,uP q [] t 0 0 n:=by rw[eL];exact fY t [] 0 0 n gt
 rw[← eL]at hM q';refine⟨.ref ps,t,n,rfl,⟨ps,v,rfl,a3,ht⟩,gt,hn,by lia,fun l us H1 s1 hl u1 b1 =>?_⟩;rw[eS]at b1;obtain⟨as,c2,b2⟩:=nK b1;have hpr':mZ H1 as (cM L):=by
  unfold cM;rw[IK]at b2;exact b2
 refine⟨l,as,cM L,rfl,SqL.of (by rw[u1,c2]),hpr',lW hB,nw fun dc H2 e2 s2 u2 =>?_⟩;refine fun G a4 =>?_;have s3:=ak.new a4 (dN P w G []);have u3:upd H2 G (dN P w G []) G=some (dN P w G []):=ah;have u2':=s3 _ _ u2;have c3:dc≠G:=fun z=>by rw[z,a4]at u2;cases u2
 have b3:=s1.trans s2;have b4:H G=none:=b3.free a4
 change wM _ _ _ _ (upd H2 G (dN P w G []))
 generalize upd H2 G (dN P w G [])=H3 at *;have b5:=b3.trans s3;refine⟨lc,rfl,⟨_,SqL.of (b5 _ _ b0)⟩,cE (xs:=M.map fun q=>sV q.z) (fun (i:Nat) σ H4=>i≤M.length∧ak H H4∧H4 dc=some (.dK (cM L))∧(∃ xs,Pcd P w H4 G xs (GL L (M.take i)))∧∃ o4 o5 o6 Y o8 o9:Option V,σ=[some (.ref ps),some (.ref lc),some (.ref dc),some (.ref G),o4,o5,o6,Y,o8,o9])
  ⟨HE _,b5,u2',⟨[],⟨u3,fun e he=>absurd he (by simp)⟩,fun e he=>absurd he (by simp),fun p hp=>absurd hp (by simp[GL]),HE _⟩,_,_,_,_,_,_,rfl⟩ (fun i σ H4 _ h=>SqL.of (h.2.1 _ _ b0)) ?_ ?_⟩
 ·rintro i u σ H4 hu ⟨_,s4,d4,⟨xs,c4⟩,o4,o5,o6,Y,o8,o9,rfl⟩;rw[Ir]at hu;obtain⟨sq,er,rfl⟩:=Iw.mp hu;have hi:=(Hx.mp er).1;have c5:=HH er;have a2:=hM sq c5;have et:M.take (i + 1)=M.take i++[sq]:=by rw[Ic,er];rfl
  have lG:(GL L (M.take i)).length≤1500 * 6000:=by
   have h1:=uQ (L:=L) (M:=M.take i) fun q hq=>hM q (I9 hq);have h2:(M.take i).length≤1499:=by rw[IC];lia
   have h3:(M.take i).length * (4 * L.length)≤1499 * (4 * 1500):=Jr h2 (by lia)
   lia
  have lG':(GL L (M.take i)).length + 4 * 1500≤9000000:=by
   have h1:=uQ (L:=L) (M:=M.take i) fun q hq=>hM q (I9 hq);have h2:(M.take i).length≤1499:=by rw[IC];lia
   have h3:(M.take i).length * (4 * L.length)≤1499 * (4 * 1500):=Jr h2 (by lia)
   lia
  obtain⟨jc,jl,c7,c9,d0⟩:=nu (c1 sq a2);refine⟨ps,_,_,_,rfl,rfl,SqT.of (s4 _ _ a3),rfl,txt sq.z,n,rfl,jc,jl,hn,fun p5 H5 s5 w5 =>?_⟩;rw[c7,c9,d0]at w5;refine⟨4,rfl,by decide,by decide,bV (n:=4) (fun (k:Nat) σ H6=>k≤4∧ak H H6∧H6 dc=some (.dK (cM L))∧H6 p5=some (.tup [.int (sq.x:Int),.int (sq.y:Int),.int (sq.w:Int)])∧(∃ xs,Pcd P w H6 G xs (GL L (M.take i)++(List.range k).flatMap (G1 L sq)))∧∃ o6 Y o8 o9:Option V,σ=[some (.ref ps),some (.ref lc),some (.ref dc),some (.ref G),some (sV sq.z),some (.ref p5),o6,Y,o8,o9])
   ⟨HE _,s4.trans s5,s5 _ _ d4,w5,⟨xs,by simpa using c4.up s5⟩,_,_,_,_,rfl⟩ ?_ ?_⟩
  ·rintro k σ H6 hk ⟨_,s6,d6,w6,⟨a5,c6⟩,o6,Y,o8,o9,rfl⟩;rw[show (0:Int) + (k:Int)=k from JK _];refine⟨ps,dc,n,v,t,sq,k,rfl,s6 _ _ a3,ht.up s6.tups,gt,hn,hc,by rw[← eL];exact a2,hk,by rw[← eL];exact d6,fun lb ub H7 s7 b6 u7 a6 =>?_⟩;rw[← eL]at a6;have e3:ub.length=(cV L sq k).length:=Paired.length a6;have e4:(cV L sq k).length≤1500:=by
    have:=CJ (d:=k) a2
    unfold G1 at this;rw[Hw]at this
    lia
   have l6:=CI a2 k;have b7:lb≠G:=fun z=>by rw[z,c6.dn.at_]at b6;cases b6
   refine⟨lb,rfl,⟨_,SqL.of u7⟩,cE (xs:=ub) (fun (j:Nat) σ H8=>j≤ub.length∧ak H H8∧(∀ b o,b≠G→H7 b=some o→H8 b=some o)∧(∃ xs,Pcd P w H8 G xs (GL L (M.take i)++(List.range k).flatMap (G1 L sq)++((cV L sq k).take j).map (gen sq k)))∧∃ Y o8 o9:Option V,σ=[some (.ref ps),some (.ref lc),some (.ref dc),some (.ref G),some (sV sq.z),some (.ref p5),some (.int (k:Int)),Y,o8,o9])
    ⟨HE _,s6.trans s7,fun _ _ _ e=>e,⟨a5,by simpa using c6.up s7⟩,_,_,_,rfl⟩ (fun j σ H8 _ h=>SqL.of (h.2.2.1 _ _ b7 u7)) ?_ ?_⟩
   ·rintro j u8 σ H8 b8 ⟨_,s8,k8,⟨a0,c8⟩,Y,o8,o9,rfl⟩;have hj:=(Hx.mp b8).1;obtain⟨be,d1,pb,rfl,a7⟩:=bJ a6 b8;have d2:pb≠G:=fun z=>by
     have:=s7 _ _ c6.dn.at_
     rw[z,this]at a7;exact nomatch a7
    have d3:(cV L sq k).take (j + 1)=(cV L sq k).take j++[be]:=by rw[Ic,d1];rfl
    refine⟨pb,_,rfl,SqT.of (k8 _ _ d2 a7),rfl,_,_,rfl,_,_,rfl,rfl,?_⟩;have a8:p5≠G:=fun z=>by rw[z,c6.dn.at_]at w6;exact nomatch w6
    refine⟨p5,sq,k,be.1,be.2,rfl,k8 _ _ a8 (s7 _ _ w6),hk,fun r p1 p2 H9 s9 wr w1 w2 =>?_⟩;refine⟨r,_,_,_,rfl,rfl,SqT.of wr,rfl,r,_,_,_,rfl,rfl,SqT.of wr,rfl,(leZ rfl),fun pk d5 =>?_⟩;generalize b9:upd H9 pk _=c0;have a1:ak H9 c0:=b9▸ak.new d5 _;have d7:c0 pk=some (.tup [.ref p1,.int (k:Int)]):=by rw[← b9];exact ah
    have a9:=c8.up (s9.trans a1);have d9:=a9.len;rw[Hs,Hs,Hw,IC]at d9;refine⟨G,pk,(gen sq k be).1,a0,rfl,rfl,a9.dn,⟨p1,d7,a1 _ _ w1⟩,rfl,HS (by
     have h1:k * L.length≤3 * 1500:=Jr (by lia) (by lia)
     lia:a0.length < 9000001) (by decide),fun e0 =>?_⟩
    refine⟨hj,ak.set ((s8.trans s9).trans a1) b4 _,fun b o hb e=>by rw[aH hb];exact (s9.trans a1) _ _ (k8 b o hb e),⟨cX a0 (gen sq k be).1 pk (.ref p2),?_⟩,_,_,_,rfl⟩;rw[d3,Im,← HW];exact a9.put (p:=gen sq k be) (a1 _ _ w2) rfl e0
   ·rintro σ H8 ⟨_,s8,k8,⟨a0,c8⟩,Y,o8,o9,rfl⟩;rw[show (cV L sq k).take ub.length=cV L sq k from HM (by lia)]at c8;have a8:p5≠G:=fun z=>by rw[z,c6.dn.at_]at w6;exact nomatch w6
    refine⟨hk,s8,k8 _ _ c3 (s7 _ _ d6),k8 _ _ a8 (s7 _ _ w6),⟨a0,?_⟩,_,_,_,_,rfl⟩;rw[wY,← HW];exact c8
  ·rintro σ H6 ⟨_,s6,d6,w6,⟨a5,c6⟩,o6,Y,o8,o9,rfl⟩;refine⟨hi,s6,d6,⟨a5,?_⟩,_,_,_,_,_,_,rfl⟩;rw[et,Ek];exact c6
 ·rintro σ H4 ⟨_,s4,d4,⟨xs,c4⟩,o4,o5,o6,Y,o8,o9,rfl⟩;rw[Hw,Jh]at c4;exact (q' G xs H4 s4 b4 c4)
end
def dw (x:Pt × Nat):NK:=(x.1,(x.2:Int))
theorem u9 (h:dw x=dw y):x=y:=by
 have h1:=Ij Prod.fst h;have h2:=Ij Prod.snd h;simp only[dw]at h1 h2;exact Prod.ext h1 (by lia)
section
variable {P:Program}{w:World}{H:Hp}{a:Addr}{xs:List NE}{L M:List Sq}{W col:Int}
theorem Pcd.get (h:Pcd P w H a xs (GL L M))(J:Lnd L M W col)(O:DG L M x.1 x.2=some e):∃ c,nkV xs (dw x)=some (.ref c)∧H c=some (.tup [.int e.1,.int e.2]):=by
 have B:=rj O;obtain⟨v,G⟩:=Ii.mp (h.all _ B);obtain⟨b,U⟩:=mG G;obtain⟨p,Y,ep,c,ec,hc⟩:=h.ent _ U;have e1:p.2=e:=CH J (k:=p.1) Y (by rw[ep];exact B);subst e1;exact⟨c,by rw[← ec];exact G,hc⟩
theorem Pcd.has (h:Pcd P w H a xs (GL L M))(x:Pt × Nat):(nkV xs (dw x)).isSome=(DG L M x.1 x.2).isSome:=by
 rw[ID];constructor
 ·intro B;obtain⟨v,G⟩:=Ii.mp B;obtain⟨b,J⟩:=mG G;obtain⟨p,O,ep,_⟩:=h.ent _ J;unfold DG;rw[IP,Kb];exact⟨p,O,Hr ep⟩
 ·intro B;obtain⟨e,U⟩:=Ii.mp B;exact h.all _ (rj U)
end
def mU (L M:List Sq):List (Pt × Nat):=(GL L M).map fun p=>(p.1.1,p.1.2.toNat)
theorem fg:x∈mU L M↔(DG L M x.1 x.2).isSome=true:=by
 constructor
 ·intro h;obtain⟨p,B,rfl⟩:=Hz.mp h;obtain⟨q,O,d,U,G,Y,rfl⟩:=n6.mp B;unfold DG;rw[IP,Kb];exact⟨gen q d G,B,Hr (by simp[gen])⟩
 ·intro h;obtain⟨e,J⟩:=Ii.mp h;exact Hz.mpr ⟨_,rj J,by simp⟩
theorem xt (h:Lnd L M W col)(B:(DG L M x.1 x.2).isSome=true):(DG L M (nx (DG L M) x).1 (nx (DG L M) x).2).isSome=true:=by
 obtain⟨p,ep⟩:=Ii.mp B;obtain⟨G,h1,h2,_⟩:=mF (pcs h) (a:=x.1) (d:=x.2) ep;have h1':nx (DG L M) x=(p,G):=h1;rw[h1'];exact h2
theorem nI (h:Lnd L M W col)(G:(DG L M x.1 x.2).isSome=true):∃ N,0 < N∧N≤(GL L M).length∧(it (nx (DG L M)) N x=x∧∀ i j,i < j→j < N→it (nx (DG L M)) i x≠it (nx (DG L M)) j x):=by
 obtain⟨N,h1,h2,J⟩:=Ga (f:=nx (DG L M)) (S:=mU L M) (fun a B=>fg.mpr (xt h (fg.mp B))) (fun a b B O e=>Fb (pcs h) (fg.mp B) (fg.mp O) e) (fg.mpr G);unfold mU at h2;rw[Hw]at h2;exact⟨N,h1,h2,J⟩
theorem B5 (h:Lnd L M W col)(B:(DG L M x.1 x.2).isSome=true)(i:Nat):(DG L M (it (nx (DG L M)) i x).1 (it (nx (DG L M)) i x).2).isSome=true :=
 nW (S:=fun y:Pt × Nat=>(DG L M y.1 y.2).isSome=true) (fun _ h'=>xt h h') B i
theorem BM (h:ij H k a):Dat H (.ref a) (.tuple [.tuple [.int k.1.1,.int k.1.2],.int k.2]):=by
 obtain⟨b,h1,h2⟩:=h;exact .tup h1 (.cons (.tup h2 (.cons (.int _) (.cons (.int _) .nil))) (.cons (.int _) .nil))
theorem BL (k l:NK):PyData.eqv (.tuple [.tuple [.int k.1.1,.int k.1.2],.int k.2]) (.tuple [.tuple [.int l.1.1,.int l.1.2],.int l.2])=decide (k=l):=by
 rw[ID,Io];simp[PyData.eqv,PyData.eqvAll,Prod.ext_iff]
theorem r_ (k:NK):SeqAt.shaped (.tuple [.tuple [.int k.1.1,.int k.1.2],.int k.2])=true:=by
 rfl
section
variable {P:Program}{w:World}{K:PySem.W.Frag}{mg:Str→Option Value}{base:Heap}{CX:CXT}{f:Addr}{fd:FuncData}
abbrev gr:Stmt:=top 39
theorem dH:aE ["pieces","piece","point","way","onward"] ["pieces","piece"] (aq gr):={}
inductive iD  (P:Program)(w:World)(vs:List V)(H:Hp)(Q:VK):Prop
 | mk (dp a:Addr) (xs:List NE) (L M:List Sq) (W col:Int) (x:Pt × Nat) (h_0:vs=[.ref dp,.ref a]) (h_1:Pcd P w H dp xs (GL L M)) (h_2:Lnd L M W col) (h_3:ij H (dw x) a) (h_4:(DG L M x.1 x.2).isSome=true) (h_5:∀ r H',ak H H'→ij H' (dw (nx (DG L M) x)) r→Q (.ref r) H'):iD P w vs H Q
def je  (P:Program)(w:World):Sp:=fun vs H Q _=>iD P w vs H Q
theorem oF (T:Tx K mg)(F:bu K "piece_behind" "piece_behind" gr f fd .none):bA P w K mg base CX 1 f fd ["pieces","piece"] (je P w):=by
 refine F.ok dH (fun vs H Q E h =>?_) (fun a4 A outer s H vs Q E hr h =>?_)
 ·obtain⟨_,_,_,_,_,_,_,_,rfl,_⟩:=h;rfl
 obtain⟨dp,a,xs,L,M,W,col,⟨b,d⟩,rfl,hc,hl,hk,hx,q'⟩:=h;refine⟨_,(ac (av (i:=2) dH (Bv hr.nest (pv 0) (pv 1) (fun _ _=>rfl))) (ac (av (i:=3) dH (au aw (pv 1) ae)) (ac (aN HK rfl (tJ (aD (ap (ai aL (ai aI (pv 3) ae) ae) (ap (pv 3) am)))) (aR (i:=4) dH) (ag (aQ (aF (E7 hr.nest) (aD (ap (pv 2) (ap (pv 4) am))) (pv 0) (by with_unfolding_all rfl)) (ag (aA (aD (ap (pv 2) (ap (pv 4) am))))) aG))) (ag (aA (aD (ap (pv 2) (ap (ai aL (ai aI (pv 3) ae) ae) am)))))))),?_⟩;obtain⟨e,Y⟩:=Ii.mp hx;obtain⟨c,hv,O⟩:=hc.get hl (x:=(b,d)) Y;have h4:=(pcs hl).way Y;obtain⟨bb,k1,k2⟩:=id hk;refine⟨dp,a,dw (b,d),xs,.ref c,rfl,rfl,hc.dn,hk,hv,?_⟩;refine⟨a,_,_,_,rfl,rfl,SqT.of k1,rfl,?_⟩;have m1:((d:Int) + 1) % 4=(((d + 1) % 4:Nat):Int):=by rfl
 have m3:((d:Int) + 3) % 4=(((d + 3) % 4:Nat):Int):=by rfl
 have z2:2≤sizeLine:=by decide
 refine⟨(by show (0:Int) < 4;decide),z2,fun pt a1 =>?_⟩;have w1:upd H pt (.tup [.int (((d:Int) + 1) % 4),.int (d:Int)]) pt=some (.tup [.int (((d:Int) + 1) % 4),.int (d:Int)]):=ah;have s1:=ak.new a1 (.tup [.int (((d:Int) + 1) % 4),.int (d:Int)]);refine⟨pt,rfl,⟨_,SqT.of w1⟩,pF (xs:=[.int (((d:Int) + 1) % 4),.int (d:Int)]) (fun (i:Nat) σ H2=>i≤2∧ak (upd H pt (.tup [.int (((d:Int) + 1) % 4),.int (d:Int)])) H2∧(0 < i→¬ (DG L M e ((d + 1) % 4)).isSome=true)∧(1 < i→¬ (DG L M e d).isSome=true)∧∃ o4:Option V,σ=[some (.ref dp),some (.ref a),some (.ref c),some (.int (d:Int)),o4])
  ⟨HE _,ak.refl _,fun h=>absurd h (Jq _),fun h=>absurd h (by decide),none,rfl⟩ (fun i σ H2 _ h=>SqT.of (h.2.1 _ _ w1)) ?_ ?_⟩
 ·rintro i u σ H2 hu ⟨_,s2,n0,n1,o4,rfl⟩;have B:=s1.trans s2;have a5:=hc.up B;obtain⟨g,a2,G,a6,a3⟩:∃ g:Nat,u=.int (g:Int)∧(g=if i=0 then (d + 1) % 4 else d)∧i < 2∧((DG L M e g).isSome=true→nx (DG L M) (b,d)=(e,g)):=by
   rcases i with _|_|i
   ·refine⟨(d + 1) % 4,?_,rfl,by decide,fun h =>?_⟩
    ·rw[← m1];exact (Option.some.inj hu).symm
    ·rw[pA Y,if_pos h]
   ·refine⟨d,(Option.some.inj hu).symm,rfl,by decide,fun h =>?_⟩;rw[pA Y,if_neg (n0 (by decide)),if_pos h]
   ·exact absurd hu (by simp)
  subst a2;refine⟨z2,nw fun p3 H3 a7 s3 w3 =>?_⟩;have J:=B.trans s3;have a0:=hc.up J;have has:=a0.has (e,g);refine⟨dp,p3,dw (e,g),xs,rfl,rfl,a0.dn,⟨c,w3,J _ _ O⟩,az (aY (fun c1 =>?_) (fun c1 =>?_))⟩
  ·have c1':(nkV xs (dw (e,g))).isSome=true:=c1;rw[has]at c1';refine⟨z2,fun p4 U =>?_⟩;have s4:=ak.new U (.tup [.ref c,.int (g:Int)]);refine q' p4 _ (J.trans s4) ?_;rw[a3 c1'];exact⟨c,ah,(J.trans s4) _ _ O⟩
  ·have c1':¬ (nkV xs (dw (e,g))).isSome=true:=c1;rw[has]at c1';have c2:¬ (DG L M e g).isSome=true:=c1';refine⟨by assumption,s2.trans s3,fun _ =>?_,fun h1 =>?_,_,rfl⟩
   ·rcases i with _|i
    ·rw[if_pos rfl]at G;rw[← G];exact c2
    ·exact n0 (Kq _)
   ·have i1:i=1:=by lia
    rw[i1]at G;rw[if_neg (by decide)]at G;rw[← G];exact c2
 ·rintro σ H2 ⟨_,s2,n0,n1,o4,rfl⟩;have B:=s1.trans s2;refine⟨(by show (0:Int) < 4;decide),z2,fun p4 U =>?_⟩;show Q (.ref p4) (upd H2 p4 (.tup [.ref c,.int (((d:Int) + 3) % 4)]));rw[m3];have s4:=ak.new U (.tup [.ref c,.int (((d + 3) % 4:Nat):Int)]);refine q' p4 _ (B.trans s4) ?_;rw[pA Y,if_neg (n0 (Kq 1)),if_neg (n1 (Ki 1))];exact⟨c,ah,(B.trans s4) _ _ O⟩
def RkV (H:Hp)(u:V)(x:Pt × Nat):Prop:=∃ a,u=.ref a∧ij H (dw x) a
theorem RkV.up (h:RkV H u x)(s:bS H H'):RkV H' u x:=by
 obtain⟨a,e,k⟩:=h;exact⟨a,e,k.up s⟩
def cD (D:Pt→Nat→Option Pt)(x:Pt × Nat)(N:Nat):List (Pt × Nat):=(List.range N).map fun i=>it (nx D) i x
theorem wV (D:Pt→Nat→Option Pt)(x:Pt × Nat)(N:Nat):cD D x (N + 1)=cD D x N++[it (nx D) N x]:=by
 unfold cD;rw[JG,Im];rfl
def Per (D:Pt→Nat→Option Pt)(x:Pt × Nat)(N:Nat):Prop:=0 < N∧it (nx D) N x=x∧∀ i j,i < j→j < N→it (nx D) i x≠it (nx D) j x
abbrev jB:Stmt:=top 40
theorem fH:aE ["pieces","first","ring","piece"] ["pieces","first"] (aq jB):={}
inductive kY  (P:Program)(w:World)(vs:List V)(H:Hp)(Q:VK):Prop
 | mk (dp a:Addr) (xs:List NE) (L M:List Sq) (W col:Int) (x:Pt × Nat) (h_0:vs=[.ref dp,.ref a]) (h_1:Pcd P w H dp xs (GL L M)) (h_2:Lnd L M W col) (h_3:ij H (dw x) a) (h_4:(DG L M x.1 x.2).isSome=true) (h_5:(GL L M).length≤9000000) (h_6:∀ N l us H',Per (DG L M) x N→N≤(GL L M).length→ak H H'→H l=none→H' l=some (.lst us)→Paired (RkV H') us (cD (DG L M) x N)→Q (.ref l) H'):kY P w vs H Q
def mf  (P:Program)(w:World):Sp:=fun vs H Q _=>kY P w vs H Q
theorem tR (T:Tx K mg)(q:bZ CX)(F:bu K "ring_from" "ring_from" jB f fd .none)(B:Fok P w K mg base CX 1 "piece_behind" ["pieces","piece"] [] (je P w)):bA P w K mg base CX 2 f fd ["pieces","first"] (mf P w):=by
 refine F.ok fH (fun vs H Q E h =>?_) (fun a9 A outer s H vs Q E hr h =>?_)
 ·obtain⟨_,_,_,_,_,_,_,_,rfl,_⟩:=h;rfl
 obtain⟨dp,a,xs,L,M,W,col,x,rfl,hc,hl,hk,hx,hG,q'⟩:=h;refine⟨_,(ac (av (i:=2) fH (aK (ap (pv 1) am))) (ac (av (i:=3) fH (aj B q hr (aa (pv 0) (aa (pv 1) af)))) (ac (jL HK (aF (xk hr) (pv 3) (pv 1)) (ac (aW (a_ (pv 2) (aa (pv 3) af))) (ag (av (i:=3) fH (aj B q hr (aa (pv 0) (aa (pv 3) af))))))) (ag (aA (pv 2)))))),?_⟩;obtain⟨N,hN,a1,G⟩:=nI hl hx;refine⟨(leZ rfl),fun l U =>?_⟩;have s1:=ak.new U (.lst [.ref a]);have w1:upd H l (.lst [.ref a]) l=some (.lst [.ref a]):=ah
 change wM _ _ _ _ (upd H l (.lst [.ref a]))
 generalize upd H l (.lst [.ref a])=H1 at *;have b0:dp≠l:=fun z=>by
  have:=hc.dn.at_
  rw[z,U]at this;cases this
 refine⟨dp,a,xs,L,M,W,col,x,rfl,hc.up s1,hl,hk.up fun b ys e=>s1 _ _ e,hx,fun r H2 s2 a2 =>?_⟩;refine⟨fun m σ J=>∃ (k:Nat) (us:List V) (r:Addr),m + k=N∧0 < k∧k≤N∧ak H J∧J l=some (.lst us)∧Paired (RkV J) us (cD (DG L M) x k)∧ij J (dw (it (nx (DG L M)) k x)) r∧σ=[some (.ref dp),some (.ref a),some (.ref l),some (.ref r)],⟨N - 1,1,[.ref a],r,by lia,by decide,hN,s1.trans s2,s2 _ _ w1,.cons ⟨a,rfl,hk.up fun b ys e=>(s1.trans s2) _ _ e⟩ .nil,a2,rfl⟩,?_⟩;rintro m σ J ⟨k,us,O,hm,a3,b1,s3,w3,hP,Y,rfl⟩;have a0:=Paired.length hP;unfold cD at a0;rw[Hw,Jx]at a0;have a4:=hk.up fun b ys e=>s3 _ _ e;refine⟨_,_,BM Y,BM a4,r_ _,r_ _,az (aY (fun c =>?_) (fun c =>?_))⟩
 rotate_left
 ·have e1:it (nx (DG L M)) k x=x:=by
   have c':¬ (!PyData.eqv _ _)=true:=c;rw[BL]at c';cases hh:decide (dw (it (nx (DG L M)) k x)=dw x) with
   | true=>exact u9 (HG hh)
   | false=>rw[hh]at c';exact absurd rfl c'
  have ek:k=N:=by
   rcases Jj k N with h|h
   ·exact absurd e1.symm (G.2 0 k a3 h)
   ·lia
  subst ek;exact (q' k l us J ⟨hN,G.1,G.2⟩ a1 s3 U w3 hP)
 have ne:it (nx (DG L M)) k x≠x:=fun e=>by
  have c':(!PyData.eqv _ _)=true:=c;rw[BL,e,Hr rfl]at c';cases c'
 have a5:k < N:=by
  rcases Jj k N with h|h
  ·exact h
  ·exact absurd (show it (nx (DG L M)) k x=x by rw[show k=N by lia];exact G.1) ne
 refine⟨fun σ' H4=>∃ (us:List V) (r:Addr),ak H H4∧H4 l=some (.lst us)∧Paired (RkV H4) us (cD (DG L M) x (k + 1))∧ij H4 (dw (it (nx (DG L M)) (k + 1) x)) r∧σ'=[some (.ref dp),some (.ref a),some (.ref l),some (.ref r)],fun σ' H4 ⟨us,r,h1,h2,h3,h4,h5⟩=>⟨m - 1,by lia,k + 1,us,r,by lia,Kq _,a5,h1,h2,h3,h4,h5⟩,?_⟩;refine⟨.inl ⟨rfl,_,SqL.of w3⟩,l,us,_,rfl,rfl,w3,HS (by lia:us.length < 9000001) (by decide),?_⟩;have t4:bS J (upd J l (.lst (us++[.ref O]))):=cZ w3 (by intro xs q;cases q);have s4:ak H (upd J l (.lst (us++[.ref O]))):=ak.set s3 U _;have w4:upd J l (.lst (us++[.ref O])) l=some (.lst (us++[.ref O])):=ah;have a6:Paired (RkV (upd J l (.lst (us++[.ref O])))) (us++[.ref O]) (cD (DG L M) x (k + 1)):=by
  rw[wV];exact cI (Paired.mapP hP fun _ _ h=>h.up t4) (.cons ⟨O,rfl,Y.up t4⟩ .nil)
 have a7:=Y.up t4;generalize upd J l (.lst (us++[.ref O]))=H4 at *;refine⟨dp,O,xs,L,M,W,col,it (nx (DG L M)) k x,rfl,hc.up s4,hl,a7,B5 hl hx k,fun r5 H5 s5 a8 =>?_⟩;exact⟨us++[.ref O],r5,s4.trans s5,s5 _ _ w4,Paired.mapP a6 fun _ _ h=>h.up s5.tups,a8,rfl⟩
end
theorem DH (gt:aP n t)(G:∀ d∈z,d < 4)(h:jr t z=some (.col c)):∃ q∈sqs [] t 0 0 n,q.z=z∧q.c=c:=by
 have go:∀ (z:List Nat) (t:Tr) (p:List Nat) (x y k:Nat),aP k t→(∀ d∈z,d < 4)→jr t z=some (.col c)→∃ q∈sqs p t x y k,q.z=p++z∧q.c=c:=by
  intro z
  induction z with
  | nil =>
   intro t p x y k _ _ h;have e:t=.col c:=Option.some.inj h;subst e;exact⟨⟨p,c,x,y,2 ^ k⟩,Hv.mpr rfl,by simp,rfl⟩
  | cons d z ih =>
   intro t p x y k g G h;cases t with
   | col i=>cases h
   | four a b cc dd =>
    rcases k with _|k
    ·exact g.elim
    have U:=G d HP;have h4':∀ e∈z,e < 4:=fun e O=>G e (HF _ O);have J:=g.q d;have app:∀ e,p++[e]++z=p++e::z:=fun e=>by simp
    show ∃ q∈sqs (p++[0]) a x y k++(sqs (p++[1]) b (x + 2 ^ k) y k++(sqs (p++[2]) cc x (y + 2 ^ k) k++sqs (p++[3]) dd (x + 2 ^ k) (y + 2 ^ k) k)),_;rcases d with _ | _ | _ | _ | d
    ·obtain⟨q,h1,h2,B⟩:=ih a (p++[0]) x y k J h4' h;exact⟨q,Iv _ h1,by rw[h2,app],B⟩
    ·obtain⟨q,h1,h2,B⟩:=ih b (p++[1]) (x + 2 ^ k) y k J h4' h;exact⟨q,Ia _ (Iv _ h1),by rw[h2,app],B⟩
    ·obtain⟨q,h1,h2,B⟩:=ih cc (p++[2]) x (y + 2 ^ k) k J h4' h;exact⟨q,Ia _ (Ia _ (Iv _ h1)),by rw[h2,app],B⟩
    ·obtain⟨q,h1,h2,B⟩:=ih dd (p++[3]) (x + 2 ^ k) (y + 2 ^ k) k J h4' h;exact⟨q,Ia _ (Ia _ (Ia _ h1)),by rw[h2,app],B⟩
    ·lia
 obtain⟨q,h1,h2,B⟩:=go z t [] 0 0 n gt G h;exact⟨q,h1,by rw[h2];rfl,B⟩
theorem BB {L:List Sq}(h:L.Pairwise fS){q r:Sq}(B:q∈L)(G:r∈L){x y:Nat}(a:q.x≤x∧x < q.x + q.w∧q.y≤y∧y < q.y + q.w)(b:r.x≤x∧x < r.x + r.w∧r.y≤y∧y < r.y + r.w):q=r:=by
 rcases kD h B G with e|e|e
 ·exact e
 ·unfold Sep at e
  lia
 ·unfold Sep at e
  lia
theorem DI {t:Tr}{n X Y:Nat}(gt:aP n t)(xn:X < 2 ^ n)(yn:Y < 2 ^ n){L:List Sq}(eL:L=sqs [] t 0 0 n){q0:Sq}(U:q0∈L)(ins:q0.x≤X∧X < q0.x + q0.w∧q0.y≤Y∧Y < q0.y + q0.w){i:Nat}{c:Int}(hi:i≤n)(B:jr t ((low n X Y).take i)=some (.col c)):(low n X Y).take i=q0.z:=by
 obtain⟨z,G⟩:∃ z,z=(low n X Y).take i:=⟨_,rfl⟩;rw[← G]at B ⊢;have z4:∀ e∈z,e < 4:=fun e he=>by
  rw[G]at he;have he':=I9 he;unfold low at he';obtain⟨i',_,rfl⟩:=Hz.mp he';exact xH _ _ _
 have hB:L.Pairwise fS:=by rw[eL];exact dG t [] 0 0 n gt
 obtain⟨q1,J,e1,_⟩:=DH gt z4 B;obtain⟨w1,e2,_,_,hl,ex,ey,ew⟩:=fY t [] 0 0 n gt q1 J;rw[IV]at e2;have O:w1=z:=by rw[← e2,e1]
 have lz:z.length=i:=by rw[G,IC,ug];lia
 have cx:cxs z=X / 2 ^ (n - i):=by rw[G];exact yT xn i hi
 have cy:cys z=Y / 2 ^ (n - i):=by rw[G];exact yS yn i hi
 rw[O,lz,Jb]at ex ey;rw[O,lz]at ew;rw[cx]at ex;rw[cy]at ey;have pp:=IX (n - i);have m1:=KI X (2 ^ (n - i));have m2:=Nat.mod_lt X pp;have m3:=KI Y (2 ^ (n - i));have m4:=Nat.mod_lt Y pp;rw[Kr]at m1 m3
 have:q1=q0:=BB hB (by rw[eL];exact J) U (x:=X) (y:=Y) ⟨by lia,by lia,by lia,by lia⟩ ins
 rw[← e1,this]
theorem Dk (h:Per D x N)(h':Per D x N'):N=N':=by
 rcases Kw N N' with c|c|c
 ·exact absurd (h.2.1).symm (h'.2.2 0 N h.1 c)
 ·exact c
 ·exact absurd (h'.2.1).symm (h.2.2 0 N' h'.1 c)
noncomputable def per (D:Pt→Nat→Option Pt)(x:Pt × Nat):Nat:=open Classical in if h:∃ N,Per D x N then Classical.choose h else 0
theorem Bp (h:Per D x N):per D x=N:=by
 have B:∃ N,Per D x N:=⟨N,h⟩;unfold per;rw[dif_pos B];exact Dk (Classical.choose_spec B) h
noncomputable def cP (D:Pt→Nat→Option Pt)(x:Pt × Nat):List (Pt × Nat):=cD D x (per D x)
def prv (N i:Nat):Nat:=if i=0 then N - 1 else i - 1
def cL (R:List (Pt × Nat))(i:Nat):Pt × Nat:=(R[i]?).getD ((0,0),0)
def eP (R:List (Pt × Nat))(i:Nat):Bool:=decide ((cL R i).2≠(cL R (prv R.length i)).2)
def jU (R:List (Pt × Nat))(j:Nat):List Pt:=((List.range j).filter (eP R)).map fun i=>(cL R i).1
def kF (R:List (Pt × Nat)):List Pt:=jU R R.length
noncomputable def kI (D:Pt→Nat→Option Pt)(x:List (List Pt) × List (Pt × Nat))(k:Pt × Nat):List (List Pt) × List (Pt × Nat):=open Classical in if k∈x.2 then x else (x.1++[kF (cP D k)],x.2++cP D k)
noncomputable def bN (D:Pt→Nat→Option Pt)(ys:List (Pt × Nat)):List (List Pt) × List (Pt × Nat):=ys.foldl (kI D) ([],[])
theorem mB (D:Pt→Nat→Option Pt)(ys:List (Pt × Nat))(k:Pt × Nat):bN D (ys++[k])=kI D (bN D ys) k:=by
 unfold bN;rw[Jy];rfl
def RgV (H0:Hp)(lt:Addr)(H:Hp)(u:V)(ps:List Pt):Prop:=∃ l us,u=.ref l∧l≠lt∧H0 l=none∧H l=some (.lst us)∧jW H us ps
theorem RgV.keep (h:RgV H0 lt H u ps)(h1:∀ b xs,b≠lt→H b=some (.lst xs)→H' b=some (.lst xs))(t:bS H H'):RgV H0 lt H' u ps:=by
 obtain⟨l,us,e,B,G,J,O⟩:=h;exact⟨l,us,e,B,G,h1 l us B J,O.up t⟩
structure Gon (P:Program)(w:World)(H:Hp)(dg:Addr)(L M:List Sq)(gs:List (Pt × Nat))(xs:List NE):Prop where
 dn:DN P w H dg xs
 nd:(xs.map (·.1)).Nodup
 sub:∀ e∈xs,∃ x∈mU L M,e.1=dw x
 has:∀ x,(nkV xs (dw x)).isSome=true↔x∈gs
theorem yg (xs:List NE)(k:NK)(a:Addr)(v:V):(cX xs k a v).map (·.1)=if (nkV xs k).isSome=true then xs.map (·.1) else xs.map (·.1)++[k]:=by
 unfold cX
 split
 ·rw[IK];refine IN fun e _ =>?_;by_cases c:e.1=k<;>simp[c]
 ·simp
theorem BN (h:¬ (nkV xs k).isSome=true):k∉xs.map (·.1):=fun B=>by
 obtain⟨e,G,J⟩:=Hz.mp B;apply h
 unfold nkV;rw[IP,Kb];exact⟨e,G,Hr J⟩
section
variable {P:Program}{w:World}{H H':Hp}{dg b:Addr}{L M:List Sq}{gs:List (Pt × Nat)}{xs:List NE}
theorem Gon.len (h:Gon P w H dg L M gs xs):xs.length≤(GL L M).length:=by
 have:=nN (S:=(mU L M).map dw) h.nd fun k B=>by
  obtain⟨e,G,rfl⟩:=Hz.mp B;obtain⟨x,J,ex⟩:=h.sub e G;rw[ex];exact Hz.mpr ⟨x,J,rfl⟩
 unfold mU at this
 rwa [Hw,Hw,Hw]at this
theorem Gon.up (h:Gon P w H dg L M gs xs)(s:ak H H'):Gon P w H' dg L M gs xs:=⟨h.dn.up s,h.nd,h.sub,h.has⟩
theorem Gon.keep (h:Gon P w H dg L M gs xs)(h1:H' dg=H dg)(t:bS H H'):Gon P w H' dg L M gs xs:=⟨h.dn.keep h1 t,h.nd,h.sub,h.has⟩
theorem Gon.put (h:Gon P w H dg L M gs xs)(U:x∈mU L M)(D:DN P w H' dg (cX xs (dw x) b v)):Gon P w H' dg L M (gs++[x]) (cX xs (dw x) b v):=by
 refine⟨D,?_,fun e Y =>?_,fun y =>?_⟩
 ·rw[yg]
  split
  ·exact h.nd
  ·rename_i c
   rw[JL];refine⟨h.nd,by simp,fun a O b hb e =>?_⟩;rw[e,Hv.mp hb]at O;exact BN c O
 ·have B:e.1∈(cX xs (dw x) b v).map (·.1):=Hz.mpr ⟨e,Y,rfl⟩;rw[yg]at B;have G:e.1∈xs.map (·.1)→∃ x∈mU L M,e.1=dw x:=fun B=>by
   obtain⟨e',J,ee⟩:=Hz.mp B;obtain⟨y,hy,ey⟩:=h.sub e' J;exact⟨y,hy,ee.symm.trans ey⟩
  split at B
  ·exact G B
  ·rcases HD.mp B with B|B
   ·exact G B
   ·exact⟨x,U,Hv.mp B⟩
 ·rw[yu,Bool.or_eq_true,h.has,HD,Hv,Io];constructor
  ·rintro (e | e)
   ·exact .inr (u9 e).symm
   ·exact .inl e
  ·rintro (e | e)
   ·exact .inr e
   ·exact .inl (by rw[e])
end
theorem C0 (s:ck T H H')(t:fz T H')(h:H' b=none):H b=none:=by
 cases e:H b with
 | none=>rfl
 | some o =>
  by_cases hm:b∈T.map (·.1)
  ·obtain⟨p,m,G⟩:=Hz.mp hm;obtain⟨q,B,_⟩:=t p m;rw[G,h]at B;cases B
  ·have:=s _ _ e hm
   rw[h]at this;cases this
def kx (e:NE):Pt × Nat:=(e.1.1,e.1.2.toNat)
theorem FO (h:p∈GL L M):dw (p.1.1,p.1.2.toNat)=p.1:=by
 obtain⟨q,_,d,_,B,_,rfl⟩:=n6.mp h;unfold dw gen;exact Prod.ext rfl (by simp)
theorem Bl (hi:i < us.length)(h:us[prv us.length i]? = some v):atI us ((i:Int) - 1)=some v:=by
 unfold prv at h;by_cases c:i=0
 ·subst c;rw[if_pos rfl]at h;have e:us=us.take (us.length - 1)++[v]:=by
   have B:us.length - 1 < us.length:=by omega
   rw[HU B]at h;have h1:=List.take_append_getElem B;rw[Option.some.inj h,show us.length - 1 + 1=us.length by lia,Jh]at h1;exact h1.symm
  rw[e];exact CA _ v
 ·rw[if_neg c]at h;rw[show (i:Int) - 1=((i - 1:Nat):Int) by lia];exact bD h
theorem oo (R:List (Pt × Nat))(j:Nat):jU R (j + 1)=jU R j++(if eP R j=true then [(cL R j).1] else []):=by
 unfold jU;rw[JG,Je,Im]
 congr 1
 by_cases h:eP R j=true
 ·simp[h]
 ·simp[h]
theorem D7 {P:Program}{w:World}{a b:Addr}{qual:Str}{xs:List NE}:oq a qual≠dN P w a xs:=fun e=>by
 have G:∀ n:Nat,∃ h:Heap,h.objs.size=n:=fun n=>by
  induction n with
  | zero=>exact⟨{},rfl⟩
  | succ n ih =>
   obtain⟨h,B⟩:=ih;exact⟨h.push { cls:=.none,data:=.fields #[] },by rw[PyProof.Rows.size_push',B]⟩
 obtain⟨h,B⟩:=G a;have J:(h.push { cls:=.none,data:=.fields #[.none,.str qual 0] }).CodeRec (.ref a) qual:=⟨a,_,_,0,rfl,by rw[← B];exact HQ _ rfl,rfl,rfl⟩;have O:(h.push { cls:=.none,data:=.fields #[.none,.str qual 0] }).get? a=some { cls:=.none,data:=.fields #[.none,.str qual 0] }:=by rw[← B];exact HQ _ rfl
 unfold oq dN at e;injection e with e;have U:=(congrFun e (h.push { cls:=.none,data:=.fields #[.none,.str qual 0] })).mp J;obtain⟨_,_,o,es,ep,k1,_,k3,_⟩:=U;rw[O]at k1;cases k1;exact nomatch k3
theorem zh {P:Program}{w:World}{T:List (Addr × Str)}{H H':Hp}{tl dg:Addr}{us:List V}{xs:List NE}(t:fz T H)(h1:H tl=some (.lst us))(h2:H dg=some (dN P w dg xs))(k:∀ b o,b≠tl→b≠dg→H b=some o→H' b=some o):fz T H':=fun q J=>by
 obtain⟨ps,B,O,U⟩:=t q J;refine⟨ps,k _ _ (fun z=>by rw[z,h1]at B;cases B) (fun z=>by rw[z,h2]at B;exact nomatch B) B,O,fun pos Y e =>?_⟩;obtain⟨c',e1,G⟩:=U pos Y e;refine⟨c',e1,k _ _ (fun z=>by rw[z,h1]at G;exact nomatch G) (fun z =>?_) G⟩;rw[z,h2]at G;exact D7 (b:=dg) (Option.some.inj G).symm
abbrev w_:Str:=("rings" : Str) ++ ".<locals>." ++ "<lambda>"
section
variable {P:Program}{w:World}{K:PySem.W.Frag}{mg:Str→Option Value}{base:Heap}{CX:CXT}{f:Addr}{fd:FuncData}
abbrev iN:Stmt:=top 41
theorem fi:aE ["sheet","x","y","first","pieces","gone","told","piece","ring","part"] ["sheet","x","y"] (aq iN):={}
inductive sM  (P:Program)(w:World)(Tb:List (Addr × Str))(vs:List V)(H:Hp)(Q:VK):Prop
 | mk (ps:Addr) (n x y:Nat) (v:V) (t:Tr) (q0:Sq) (h_0:vs=[.ref ps,.int (x:Int),.int (y:Int)]) (h_1:H ps=some (.tup [.int (n:Int),v])) (h_2:bT H v t) (h_3:aP n t) (h_4:n≤40) (h_5:cnt t≤1500) (h_6:q0∈sqs [] t 0 0 n) (h_7:(q0.x≤x∧x < q0.x + q0.w∧q0.y≤y∧y < q0.y + q0.w)) (h_8:fz Tb H) (h_9:∀ A zs ys l us H',cK (sqs [] t 0 0 n) A zs→(∀ k,k∈ys↔k∈mU (sqs [] t 0 0 n) (dD (sqs [] t 0 0 n) A q0.z))→ys.Pairwise (fun a b=>ltI (b.1.2,b.1.1) (a.1.2,a.1.1)=false)→ck Tb H H'→fz Tb H'→H l=none→H' l=some (.lst us)→Paired (RgV H l H') us (bN (DG (sqs [] t 0 0 n) (dD (sqs [] t 0 0 n) A q0.z)) ys).1→us.length≤9000000→Q (.ref l) H'):sM P w Tb vs H Q
def pW  (P:Program)(w:World)(Tb:List (Addr × Str)):Sp:=fun vs H Q _=>sM P w Tb vs H Q
theorem BF (T:Tx K mg)(q:bZ (CXe P w))(F:El K "rings" "rings" iN f fd .none Pa)(KX:K.In base)(hB:ni mg base)(hT:(Pa,w_)∈Tb)(j8:(Tb.map (·.1)).Nodup)(c0:Fok P w K mg base (CXe P w) 5 "leaf_at" ["sheet","x","y"] [] pX)(G:Fok P w K mg base (CXe P w) 45 "alike_around" ["sheet"] [] jh)(J:Fok P w K mg base (CXe P w) 1 "members_from" ["around","first"] [] jf)(O:Fok P w K mg base (CXe P w) 45 "pieces_round" ["sheet","codes"] [] (i_ P w))(b0:Fok P w K mg base (CXe P w) 2 "ring_from" ["pieces","first"] [] (mf P w)):
  bA P w K mg base (CXe P w) 50 f fd ["sheet","x","y"] (pW P w Tb):=by
 refine F.ok KX fi (fun vs H Q E h =>?_) (fun c A outer s H vs Q E hC hr h =>?_)
 ·obtain⟨_,_,_,_,_,_,_,rfl,_⟩:=h;rfl
 obtain⟨ps,n,x,y,v,t,q0,rfl,f9,ht,gt,hn,hc,e3,ins,j9,q'⟩:=h;refine⟨_,(ac (av (i:=3) fi (aj c0 q hr (aa (pv 0) (aa (pv 1) (aa (pv 2) af))))) (ac (av (i:=4) fi (aj O q hr (aa (pv 0) (aa (qu (N':=["code","other"]) [] [] [] 2 {} (bU (aj J q hr (aa (aj G q hr (aa (pv 0) af)) (aa (pv 3) af)))) (fun _ _ _ _ _=>(tK (K:=K) (n:=2) rfl (aV (jM (i:=0)) (aV (jM (i:=1)) d8)))) (fun _ _ _ _ _=>(pv 0))) af)))) (ac (av (i:=5) fi vA) (ac (av (i:=6) fi (aK am)) (ac (aN HK rfl (bU (Br hr T.b_sorted hB hC rfl hT j8 rfl (by exact⟨rfl,rfl,rfl,by decide +kernel,by decide +kernel,by decide +kernel,by decide +kernel,by decide +kernel⟩) (aa (pv 4) af))) (aR (i:=7) fi) (ag (aQ (aF (zL hr.nest) (pv 7) (pv 5) (by with_unfolding_all rfl)) (ac (xf (i:=8) fi.nd rfl (Or.inr rfl) (aj b0 q hr (aa (pv 4) (aa (pv 7) af)))) (ac (aW (a_ (pv 6) (aa (rY (N':=["at","ring"]) ["ring"] ["ring"] [8] 1 {} (bQ rfl T.b_range (aa (aB bC rfl T.b_len cR (aa (pv 8) af)) af)) (fun _ _ _ _ _=>(jM (i:=0))) (fun _ _ _ _ _=>(aF vF (au (kq (K:=K)) (au (mJ (K:=K)) (pv 1) (pv 0)) ae) (au (kq (K:=K)) (au (mJ (K:=K)) (pv 1) (ai bM (pv 0) ae)) ae))) (fun _ _ _ _ _=>(au (kq (K:=K)) (au (mJ (K:=K)) (pv 1) (pv 0)) ae))) af))) (ag (aN HK rfl (bU (pv 8)) (aR (i:=9) fi) (ag (vw hr.nest (pv 5) (pv 9) dC (ma rfl))))))) aG))) (ag (aA (pv 6)))))))),?_⟩
 obtain⟨L,eL⟩:∃ L,L=sqs [] t 0 0 n:=⟨_,rfl⟩;have i3:L.Pairwise fS:=by rw[eL];exact dG t [] 0 0 n gt
 have lL:L.length=cnt t:=by rw[eL];exact fe t [] 0 0 n
 obtain⟨_,f2,_,f4,_⟩:=fZ t [] 0 0 n gt q0 e3;have xn:x < 2 ^ n:=by lia
 have yn:y < 2 ^ n:=by lia
 refine⟨.ref ps,t,n,x,y,rfl,⟨ps,v,rfl,f9,ht⟩,gt,hn,xn,yn,fun i cc H1 s1 hi i4 =>?_⟩;rw[DI gt xn yn eL (by rw[eL];exact e3) ins hi i4];have hz:q0.z∈L.map (·.z):=Hz.mpr ⟨q0,by rw[eL];exact e3,rfl⟩;refine⟨[],rfl,ps,n,v,t,rfl,s1 _ _ f9,ht.up s1.tups,gt,hn,hc,fun da lo A H2 s2 q5 ar k0 hN =>?_⟩;rw[← eL]at ar hN;have Cx:cK L A (L.map (·.z)):=⟨rfl,i3,by rw[Hw];lia,hN⟩;refine⟨da,q0.z,L.map (·.z),lo,A,rfl,ar,hz,by rw[Hw];lia,Cx.cl,k0,fun lm um k H3 s3 q6 i5 hM hk =>?_⟩;have bi:=BI.bfs Cx.cl hz k;have bl:=bi.len;rw[Hw]at bl;have em:=yw hk (by lia);rw[← em]at hM bl hk
 clear em
 obtain⟨R,eR⟩:∃ R,R=nQ A q0.z:=⟨_,rfl⟩;rw[← eR]at hM bl hk;have q7:=Paired.length hM;obtain⟨M,eM⟩:∃ M,M=dD L A q0.z:=⟨_,rfl⟩;obtain⟨d1,i6⟩:=BS gt (q0:=q0) (by rw[← eL];exact Cx) e3;rw[← eL,← eM]at d1 i6;have Mz:M.map (fun q=>sV q.z)=R.map fun m=>sV m.1:=by
  rw[eM,eR];unfold dD;rw[IK];refine IN fun m hm =>?_;have mz:=(Cx.bi hz).sub m hm;obtain⟨r,g0,er⟩:=Hz.mp mz;show sV (CT L m.1).z=sV m.1;rw[← er,sZ i3 g0]
 have lM:M.length≤1500:=by
  have h1:=Ij List.length Mz;rw[Hw,Hw]at h1
  lia
 refine⟨lm,rfl,⟨_,SqL.of i5⟩,lV um (fun D (j:Nat) ys H'=>ak H3 H'∧H' D=some (.lst ys)∧j≤um.length∧ys=(R.take j).map fun m=>sV m.1) (H_ (by lia:um.length≤2000) (by decide)) (fun D j ys H' h=>SqL.of (h.1 _ _ i5))
  (fun D j ys H' h=>⟨h.2.1,by rw[h.2.2.2,Hw,IC];lia⟩) (fun D hD=>⟨ak.new hD _,ah,HE _,rfl⟩) ?_ ?_ ?_ ?_⟩
 ·rintro D j u ys H4 hu hD ⟨c1,c2,c3,c4⟩;obtain⟨mm,k1,pm,rfl,k2⟩:=bJ hM hu;refine⟨pm,_,rfl,SqT.of (c1 _ _ k2),rfl,_,_,rfl,_,_,rfl,rfl,rfl,c2,ak.set c1 hD _,ah,(Hx.mp hu).1,?_⟩;rw[Ic,k1,c4,Im];rfl
 rotate_left
 ·rintro x σ H' R R' k ⟨a,xs,e1,h1,h2,y1,r1,f1,y2,r2,f2,f6,h⟩;exact⟨a,xs,e1,h1,h2,y1,r1,f1,y2,r2,f2,f6,k _ _ h⟩
 ·intro σ H' R R' k U;obtain⟨_,e,h⟩:=aM U;exact (bc e (k _ _ h))
 rintro D q8 H4 hD ⟨c1,uD,c3,c4⟩;rw[HM (by lia),← Mz]at c4;subst c4;have g1:=s1.trans (s2.trans (s3.trans c1));refine⟨ps,D,n,v,t,M,rfl,g1 _ _ f9,ht.up g1.tups,gt,hn,hc,uD,fun r g0=>by rw[← eL];exact d1.sub r g0,lM,fun dp xs H5 s5 q9 pc =>?_⟩;rw[← eL]at pc;have g2:=g1.trans s5;have lG:(GL L M).length≤9000000:=by
  have h1:=uQ (L:=L) (M:=M) d1.sub;have h2:M.length * (4 * L.length)≤1500 * (4 * 1500):=Jr lM (by lia)
  lia
 refine fun dg g3 =>?_;have s6:=ak.new g3 (dN P w dg []);have u6:upd H5 dg (dN P w dg []) dg=some (dN P w dg []):=ah
 change wM _ _ _ _ (upd H5 dg (dN P w dg []))
 generalize upd H5 dg (dN P w dg [])=H6 at *;refine⟨(leZ rfl),fun tl i7 =>?_⟩;have s7:=ak.new i7 (.lst []);have u7:upd H6 tl (.lst []) tl=some (.lst []):=ah
 change wM _ _ _ _ (upd H6 tl (.lst []))
 generalize upd H6 tl (.lst [])=H7 at *;have i8:=g2.trans (s6.trans s7);have c5:=pc.up (s6.trans s7);have g4:=i8.tabs j9;refine⟨dp,xs,rfl,c5.dn,g4,fun S es H8 sT i9 nS uS pm pw =>?_⟩;have g5:∀ {b:Addr} {o:HO},H7 b=some o→(∀ qs,o≠.tbl qs)→H8 b=some o:=fun e h=>sT.keep g4 e h;have t8:bS H7 H8:=sT.tups g4;have Y:Pcd P w H8 dp xs (GL L M):=⟨c5.dn.keep (by rw[c5.dn.at_];exact g5 c5.dn.at_ (by intro qs z;cases z)) t8,fun e he=>(c5.ent e he).up t8 fun _ h=>h,c5.all,c5.len⟩;have d2:=g5 (s7 _ _ u6) (by intro qs z;cases z);have u8:=g5 u7 (by intro qs z;cases z);have j0:ck Tb H H8:=i8.toT.trans sT;obtain⟨Dg,eD⟩:∃ Dg,Dg=DG L M:=⟨_,rfl⟩;obtain⟨ks,d3⟩:∃ ks,ks=es.map kx:=⟨_,rfl⟩;have r0:ks.length=es.length:=by rw[d3,Hw]
 have r3:es.length≤9000000:=by
  have h1:=pm.length_eq;have h2:=Y.len
  lia
 have j1:∀ e∈es,dw (kx e)=e.1∧kx e∈mU L M∧ij H8 e.1 e.2.1:=fun e he=>by
  have hx:=pm.mem_iff.mp he;obtain⟨p,hp,ep,_⟩:=Y.ent e hx;have h1:=FO hp;rw[ep]at h1;refine⟨h1,?_,(Y.dn.keys e hx).1⟩;unfold mU;refine Hz.mpr ⟨p,hp,?_⟩;rw[ep];rfl
 have f0:dg≠tl:=fun z=>by rw[z,u8]at d2;exact nomatch d2
 have k3:dp≠dg:=fun z=>by
  have h1:=pc.dn.at_
  rw[z,g3]at h1;cases h1
 have k4:dp≠tl:=fun z=>by
  have h1:=Y.dn.at_
  rw[z,u8]at h1;exact nomatch h1
 have k5:S≠tl:=fun z=>by rw[z,u7]at nS;cases nS
 have k6:S≠dg:=fun z=>by rw[z,s7 _ _ u6]at nS;cases nS
 have j2:H tl=none:=(g2.trans s6).free i7;have k7:H dg=none:=g2.free g3;have k8:∀ {H9:Hp},(∀ b o,b≠tl→b≠dg→H8 b=some o→H9 b=some o)→Pcd P w H9 dp xs (GL L M)∧bS H8 H9:=fun {H9} k=>by
  have tp:bS H8 H9:=fun b ys e=>k b _ (fun z=>by rw[z,u8]at e;cases e) (fun z=>by rw[z,d2]at e;exact nomatch e) e;exact⟨⟨Y.dn.keep (by rw[Y.dn.at_];exact k _ _ k4 k3 Y.dn.at_) tp,fun e he=>(Y.ent e he).up tp fun _ h=>h,Y.all,Y.len⟩,tp⟩
 refine⟨S,rfl,⟨_,SqL.of uS⟩,cE (xs:=es.map fun e=>V.ref e.2.1) (fun (i:Nat) σ H9=>i≤es.length∧(∀ b o,b≠tl→b≠dg→H8 b=some o→H9 b=some o)∧(∃ gx,Gon P w H9 dg L M (bN Dg (ks.take i)).2 gx)∧(∃ us,H9 tl=some (.lst us)∧Paired (RgV H tl H9) us (bN Dg (ks.take i)).1∧us.length≤i)∧∃ o7 o8 o9:Option V,σ=[some (.ref ps),some (.int (x:Int)),some (.int (y:Int)),some (sV q0.z),some (.ref dp),some (.ref dg),some (.ref tl),o7,o8,o9])
  ⟨HE _,fun _ _ _ _ e=>e,⟨[],⟨d2,fun e he=>absurd he (by simp)⟩,List.nodup_nil,fun e he=>absurd he (by simp),fun z=>by simp[nkV,bN]⟩,⟨[],u8,by exact .nil,Ht _⟩,_,_,_,rfl⟩ (fun i σ H9 _ h=>SqL.of (h.2.1 _ _ k5 k6 uS)) ?_ ?_⟩
 ·rintro i u σ H9 hu ⟨_,k9,⟨gx,g9⟩,⟨us,w9,hR,lu⟩,o7,o8,o9,rfl⟩;rw[Ir]at hu;obtain⟨e,ee,rfl⟩:=Iw.mp hu;have hi:=(Hx.mp ee).1;obtain⟨ek,ed,l0⟩:=j1 e (HH ee);obtain⟨l1,t9⟩:=k8 k9;have j3:=l0.up t9;have et:ks.take (i + 1)=ks.take i++[kx e]:=by rw[Ic,d3,Ir,ee];rfl
  rw[et,mB];generalize bN Dg (ks.take i)=X at *;refine⟨dg,e.2.1,e.1,gx,rfl,rfl,g9.dn,j3,az (aY (fun c1 =>?_) (fun c1 =>?_))⟩
  rotate_left
  ·have c1':¬ (!(nkV gx e.1).isSome)=true:=c1;have l2:kx e∈X.2:=(g9.has (kx e)).mp (by
    rw[ek];cases hh:(nkV gx e.1).isSome with
    | true=>rfl
    | false=>rw[hh]at c1';exact absurd rfl c1')
   have eX:kI Dg X (kx e)=X:=by unfold kI;rw[if_pos l2]
   rw[eX];exact⟨hi,k9,⟨gx,g9⟩,⟨us,w9,hR,by lia⟩,_,_,_,rfl⟩
  have l3:kx e∉X.2:=fun h=>by
   have c1':(!(nkV gx e.1).isSome)=true:=c1;have h1:=(g9.has (kx e)).mpr h;rw[ek]at h1;rw[h1]at c1';cases c1'
  have eX:kI Dg X (kx e)=(X.1++[kF (cP Dg (kx e))],X.2++cP Dg (kx e)):=by unfold kI;rw[if_neg l3]
  rw[eX];refine⟨dp,e.2.1,xs,L,M,_,_,kx e,rfl,l1,d1,(by rw[ek];exact j3),fg.mp ed,lG,fun N lr ur g6 f3 r4 e4 e5 e6 d4 =>?_⟩;rw[← eD]at f3 d4;have g7:cP Dg (kx e)=cD Dg (kx e) N:=by unfold cP;rw[Bp f3]
  rw[← g7]at d4;have g8:(cP Dg (kx e)).length=N:=by rw[g7];unfold cD;rw[Hw,Jx]
  have r5:=Paired.length d4;have l4:∀ z∈cP Dg (kx e),z∈mU L M:=fun z hz=>by
   rw[g7]at hz;unfold cD at hz;obtain⟨j,_,rfl⟩:=Hz.mp hz;rw[eD];exact fg.mpr (B5 d1 (fg.mp ed) j)
  generalize cP Dg (kx e)=Rg at *;have h0:=e4 _ _ w9;have i0:=g9.up e4;have f5:∀ (j:Nat),j < N→∃ (a b:Addr),ur[j]? = some (.ref a)∧g6 a=some (.tup [.ref b,.int ((cL Rg j).2:Int)])∧g6 b=some (.tup [.int (cL Rg j).1.1,.int (cL Rg j).1.2]):=fun j hj=>by
   obtain⟨u1,j4⟩:∃ u1,ur[j]? = some u1:=⟨ur[j]'(by lia),HU _⟩;obtain⟨z,e7,a,e1,b,h1,h2⟩:=bJ d4 j4;have ez:cL Rg j=z:=by unfold cL;rw[e7];rfl
   rw[ez,j4,e1];exact⟨a,b,rfl,h1,h2⟩
  have eN:((ur.length:Int)).toNat=N:=by rw[Iy];lia
  refine⟨.inl ⟨rfl,_,SqL.of h0⟩,[.ref lr],rfl,_,_,rfl,.inl ⟨_,SqL.of e6,rfl⟩,_,rfl,by simp,by lia,uH (fun D (j:Nat) ys H'=>j≤N∧ak g6 H'∧H' D=some (.lst ys)∧ys.length≤j∧jW H' ys (jU Rg j)) (by rw[eN];exact H_ (by lia:N≤9000000) (by decide)) (fun D j ys H' h=>⟨h.2.2.1,h.2.2.2.1⟩) (fun D hD=>⟨HE _,ak.new hD _,ah,Ht _,by exact .nil⟩) ?_ ?_ (fun _ _ _ _ _ k h=>k _ _ h) ?_ ?_⟩
  ·rintro D j ys a0 hj hD ⟨_,B,d5,l5,d6⟩;rw[eN]at hj;rw[show (0:Int) + (j:Int)=j from JK _];obtain⟨a1,b1,x1,x2,x3⟩:=f5 j hj;obtain⟨a2,b2,y1,y2,y3⟩:=f5 (prv N j) (by unfold prv;split<;>lia);have c6:=B _ _ e6;have yy:atI ur ((j:Int) - 1)=some (.ref a2):=Bl (by lia) (by rw[show ur.length=N by lia];exact y1);refine⟨rfl,lr,_,_,_,rfl,rfl,SqL.of c6,bD x1,a1,_,_,_,rfl,rfl,SqT.of (B _ _ x2),rfl,lr,_,_,_,rfl,rfl,SqL.of c6,yy,a2,_,_,_,rfl,rfl,SqT.of (B _ _ y2),rfl,rfl,az (aY (fun c2 =>?_) (fun c2 =>?_))⟩
   ·have ic:eP Rg j=true:=by
     have c2':(!decide (V.int ((cL Rg j).2:Int)=V.int ((cL Rg (prv N j)).2:Int)))=true:=c2;unfold eP;rw[g8];refine Hr fun e =>?_;rw[e,Hr rfl]at c2';cases c2'
    refine⟨lr,_,_,_,rfl,rfl,SqL.of c6,bD x1,a1,_,_,_,rfl,rfl,SqT.of (B _ _ x2),rfl,d5,hj,ak.set B hD _,ah,by rw[Hs,IH];lia,?_⟩;rw[oo,if_pos ic];have c7:bS a0 (upd a0 D (.lst (ys++[.ref b1]))):=cZ d5 (by intro xs q;cases q);exact cI (d6.up c7) (.cons ⟨b1,rfl,c7 _ _ (B _ _ x3)⟩ .nil)
   ·have ic:¬ eP Rg j=true:=fun h=>by
     have c2':¬ (!decide (V.int ((cL Rg j).2:Int)=V.int ((cL Rg (prv N j)).2:Int)))=true:=c2;unfold eP at h;rw[g8]at h;have h':=HG h;refine c2' ?_;rw[Ih fun e=>h' (by have:=V.int.inj e;lia)];rfl
    rw[oo,if_neg ic,II];exact⟨hj,B,d5,by lia,d6⟩
  rotate_left
  ·intro σ H' R R' k U;obtain⟨_,e1,U⟩:=aM U;obtain⟨_,e2,U⟩:=aM U;obtain⟨h1,h2,h3,h4,h5,h6,h7,h8,h9,l6,l7,l8,l9,m0,m1,m2,m3⟩:=U;exact (bc e1 (bc e2 ⟨h1,h2,h3,h4,h5,h6,h7,h8,h9,l6,l7,l8,l9,m0,m1,m2,k _ _ m3⟩))
  ·intro σ H' R R' k U;obtain⟨_,a1,U⟩:=aM U;obtain⟨_,a3,U⟩:=aM U;obtain⟨a4,a5,a6,a7,a8,a9,m4,m5,m6,m7,m8,m9,n0,n1,n2,n3,U⟩:=U;obtain⟨_,b1,U⟩:=aM U;obtain⟨_,b3,U⟩:=aM U;obtain⟨_,_,b6,b7,U⟩:=ko U;obtain⟨b8,b9,n4,n5,n6,n7,n8,n9,o0,o1,o2,o3,o4,o5,o6,p0,r1,U⟩:=U;obtain⟨_,v2,h⟩:=ff U;exact (bc a1 (bc a3 (⟨a4,a5,a6,a7,a8,a9,m4,m5,m6,m7,m8,m9,n0,n1,n2,n3,bc b1 (bc b3 (xr b6 b7 ⟨b8,b9,n4,n5,n6,n7,n8,n9,o0,o1,o2,o3,o4,o5,o6,p0,r1,lS v2 (k _ _ h)⟩))⟩)))
  rintro D cs a0 hD ⟨_,B,d5,l5,d6⟩;rw[eN,← g8]at d6;have p11':jW a0 cs (kF Rg):=d6;have f7:=B _ _ h0;have i1:D≠tl:=fun z=>by rw[z,h0]at hD;cases hD
  have d7:H9 D=none:=e4.free hD;have p1:H8 D=none:=by
   cases e8:H8 D with
   | none=>rfl
   | some o =>
    have:=k9 D o i1 (fun z=>by rw[z,g9.dn.at_]at d7;cases d7) e8
    rw[d7]at this;cases this
  have p2:H D=none:=C0 j0 i9 p1;have d9:=e4.trans B;refine⟨tl,us,_,rfl,rfl,f7,HS (by lia:us.length < 9000001) (by decide),?_⟩;have c7:bS a0 (upd a0 tl (.lst (us++[.ref D]))):=cZ f7 (by intro xs q;cases q);have c9:∀ b o,b≠tl→a0 b=some o→upd a0 tl (.lst (us++[.ref D])) b=some o:=fun b o hb e=>by rw[aH hb];exact e
  have p3:upd a0 tl (.lst (us++[.ref D])) tl=some (.lst (us++[.ref D])):=ah;generalize upd a0 tl (.lst (us++[.ref D]))=e0 at *;have j5:bS H9 e0:=d9.tups.trans c7;have i2:=(i0.up B).keep (H':=e0) (by rw[(i0.up B).dn.at_];exact c9 _ _ f0 (i0.up B).dn.at_) c7;have j6:lr≠tl:=fun z=>by rw[z,w9]at e5;cases e5
  have p4:lr≠dg:=fun z=>by rw[z,g9.dn.at_]at e5;cases e5
  have Dg':D≠dg:=fun z=>by rw[z,g9.dn.at_]at d7;cases d7
  refine⟨lr,rfl,⟨_,SqL.of (c9 _ _ j6 (B _ _ e6))⟩,cE (xs:=ur) (fun (j:Nat) σ c8=>j≤ur.length∧(∀ b o,b≠dg→e0 b=some o→c8 b=some o)∧(∃ gx,Gon P w c8 dg L M (X.2++Rg.take j) gx)∧∃ o9:Option V,σ=[some (.ref ps),some (.int (x:Int)),some (.int (y:Int)),some (sV q0.z),some (.ref dp),some (.ref dg),some (.ref tl),some (.ref e.2.1),some (.ref lr),o9])
   ⟨HE _,fun _ _ _ e=>e,⟨gx,by simpa using i2⟩,_,rfl⟩ (fun j σ c8 _ h=>SqL.of (h.2.1 _ _ p4 (c9 _ _ j6 (B _ _ e6)))) ?_ ?_⟩
  ·rintro j r6 σ c8 f8 ⟨_,b4,⟨b5,d0⟩,o9,rfl⟩;have hj:=(Hx.mp f8).1;obtain⟨z,e7,a1,rfl,na⟩:=bJ d4 f8;have e9:bS e0 c8:=fun b ys e=>b4 b _ (fun z=>by rw[z,i2.dn.at_]at e;exact nomatch e) e;have j7:=na.up (B.tups.trans (c7.trans e9));have gl:=d0.len;refine⟨dg,a1,dw z,b5,rfl,rfl,d0.dn,j7,rfl,HS (by lia:b5.length < 9000001) (by decide),fun p5 =>?_⟩;refine⟨hj,fun b o hb e=>by rw[aH hb];exact b4 b o hb e,⟨cX b5 (dw z) a1 (.bl true),?_⟩,_,rfl⟩;rw[Ic,e7,← HW];exact d0.put (l4 z (HH e7)) p5
  ·rintro σ c8 ⟨_,b4,⟨b5,d0⟩,o9,rfl⟩;rw[HM (by lia)]at d0;have e9:bS e0 c8:=fun b ys e=>b4 b _ (fun z=>by rw[z,i2.dn.at_]at e;exact nomatch e) e;refine⟨hi,fun b o h1 h2 e=>b4 b o h2 (c9 b o h1 (d9 _ _ (k9 b o h1 h2 e))),⟨b5,d0⟩,⟨us++[.ref D],b4 _ _ (Ne.symm f0) p3,cI (Paired.mapP hR fun _ _ h=>h.keep (fun b xs hb e=>b4 b _ (fun z=>by rw[z,g9.dn.at_]at e;exact nomatch e) (c9 b _ hb (d9 _ _ e))) (j5.trans e9)) (.cons ⟨D,cs,rfl,i1,p2,b4 _ _ Dg' (c9 _ _ i1 d5),p11'.up (c7.trans e9)⟩ .nil),by rw[Hs,IH];lia⟩,_,_,_,rfl⟩
 ·rintro σ H9 ⟨_,k9,⟨gx,g9⟩,⟨us,w9,hR,lu⟩,o7,o8,o9,rfl⟩;have p6:(es.map fun e=>V.ref e.2.1).length=es.length:=Hw _;rw[p6,HM (by lia)]at hR;have p7:=zh i9 u8 d2 k9;have p8:ck Tb H H9:=fun b o e hb=>k9 b o (fun z=>by rw[z,j2]at e;cases e) (fun z=>by rw[z,k7]at e;cases e) (j0 b o e hb);rw[← eL]at q';refine (q' A (L.map (·.z)) ks tl us H9 Cx (fun kk =>?_) ?_ p8 p7 j2 w9 ?_ (by lia))
  ·rw[← eM];constructor
   ·intro h;rw[d3]at h;obtain⟨e,he,rfl⟩:=Hz.mp h;exact (j1 e he).2.1
   ·intro h;have h1:=Y.has kk;rw[fg.mp h]at h1;obtain⟨v1,p9⟩:=Ii.mp h1;obtain⟨b1,q4⟩:=mG p9;rw[d3];refine Hz.mpr ⟨_,pm.mem_iff.mpr q4,?_⟩;show ((dw kk).1,(dw kk).2.toNat)=kk;unfold dw;exact Prod.ext rfl (by simp)
  ·rw[d3,IG];exact pw
  ·rw[← eM,← eD];exact hR
end
def Seg (C:Int→Int→Prop)(a b:Pt)(d:Nat):Prop:=d < 4∧∃ l:Nat,0 < l∧b=go a l d∧∀ k < l,Bd C (go a k d) d
theorem Seg.join (h:Seg C a b d)(k:Seg C b c d):Seg C a c d:=by
 obtain⟨B,l,O,rfl,G⟩:=h;obtain⟨_,m,U,rfl,J⟩:=k;refine⟨B,l + m,by lia,qL a l m d,fun j hj =>?_⟩;rcases Jj j l with c|c
 ·exact G j c
 ·have:=J (j - l) (by lia)
  rw[qL,show l + (j - l)=j by lia]at this;exact this
def CG (C:Int→Int→Prop)(a b:Pt × Nat):Prop:=Seg C a.1 b.1 a.2∧turn C b.1 a.2 b.2∧b.2≠a.2∧b.2 < 4
def Chn {α:Type}(R:α→α→Prop):List α→Prop
 | []=>True
 | [_]=>True
 | a::b::l=>R a b∧Chn R (b::l)
theorem Chn.snoc:∀ {l:List α} {b:α},Chn R (l++[b])→R b c→Chn R (l++[b]++[c])
 | [],b,_,h=>⟨h,trivial⟩
 | [a],b,h,k=>⟨h.1,k,trivial⟩
 | a::a'::l,b,h,k=>⟨h.1,Chn.snoc (l:=a'::l) h.2 k⟩
theorem Chn.at_:∀ {l:List α},Chn R l→∀ {i:Nat} {a b:α},l[i]? = some a→l[i + 1]? = some b→R a b
 | [],_,i,a,b,h,_=>by simp at h
 | [_],_,i,a,b,_,h=>by simp at h
 | x::y::l,h,0,a,b,h1,h2=>by
  have B:x=a:=by simpa using h1
  have G:y=b:=by simpa using h2
  subst B G;exact h.1
 | x::y::l,h,i + 1,a,b,h1,h2=>Chn.at_ (l:=y::l) h.2 (i:=i) (by simpa using h1) (by simpa using h2)
section
variable {C:Int→Int→Prop}{D:Pt→Nat→Option Pt}
def wl (R:List (Pt × Nat))(j:Nat):List (Pt × Nat):=((List.range j).filter (eP R)).map (cL R)
theorem D6 (R:List (Pt × Nat))(j:Nat):(wl R j).map (·.1)=jU R j:=by
 unfold wl jU;rw[IK];rfl
theorem yU (R:List (Pt × Nat))(j:Nat):wl R (j + 1)=wl R j++(if eP R j=true then [cL R j] else []):=by
 unfold wl;rw[JG,Je,Im]
 congr 1
 by_cases h:eP R j=true
 ·simp[h]
 ·simp[h]
theorem jw (h:Pcs C D)(B:(D x.1 x.2).isSome=true):Seg C x.1 (nx D x).1 x.2∧turn C (nx D x).1 x.2 (nx D x).2∧(nx D x).2 < 4:=by
 obtain⟨p,ep⟩:=Ii.mp B;obtain⟨G,h1,_,J,O⟩:=mF h (a:=x.1) (d:=x.2) ep;have h1':nx D x=(p,G):=h1;obtain⟨l,U,Y,hb⟩:=h.len ep;rw[h1'];exact⟨⟨h.way ep,l,U,Y,hb⟩,J,O⟩
theorem gC (hi:i < N):cL (cD D x N) i=it (nx D) i x:=by
 unfold cL cD;rw[Ir,List.getElem?_range hi];rfl
theorem mC:(cD D x N).length=N:=by unfold cD;rw[Hw,Jx]
theorem ql (h:Pcs C D)(G:∀ i,(D (it (nx D) i x).1 (it (nx D) i x).2).isSome=true)(O:eP (cD D x N) 0=true):∀ j,0 < j→j≤N→∃ cs c,wl (cD D x N) j=cs++[c]∧(cs++[c])[0]? = some x∧Chn (CG C) (cs++[c])∧Seg C c.1 (it (nx D) j x).1 c.2∧c.2=(it (nx D) (j - 1) x).2
 | 0,h0,_=>absurd h0 (Jq 0)
 | 1,_,hN=>by
  have e:wl (cD D x N) 1=[x]:=by
   rw[yU,if_pos O,gC hN];rfl
  have st:=jw h (G 0);exact⟨[],x,e,rfl,trivial,st.1,rfl⟩
 | j + 2,_,hN=>by
  obtain⟨cs,c,e,U,ch,Y,ew⟩:=ql h G O (j + 1) (Kq _) (by lia);have st:=jw h (G (j + 1));have B:=jw h (G j);have ew':c.2=(it (nx D) j x).2:=ew;rw[yU,e];have ic:eP (cD D x N) (j + 1)=decide ((it (nx D) (j + 1) x).2≠(it (nx D) j x).2):=by
   unfold eP prv;rw[if_neg (by simp),gC (by assumption),show j + 1 - 1=j from rfl,gC (by lia)]
  by_cases c1:(it (nx D) (j + 1) x).2=(it (nx D) j x).2
  ·have J:¬ eP (cD D x N) (j + 1)=true:=by rw[ic];simp[c1]
   rw[if_neg J,II];refine⟨cs,c,rfl,U,ch,Y.join ?_,by rw[ew'];exact c1.symm⟩
   have:=st.1
   rw[c1,← ew']at this;exact this
  ·have J:eP (cD D x N) (j + 1)=true:=by rw[ic];simp[c1]
   rw[if_pos J,gC (by assumption)];refine⟨cs++[c],_,rfl,?_,Chn.snoc ch ⟨Y,?_,?_,B.2.2⟩,st.1,rfl⟩
   ·rw[Iq (by simp)];exact U
   ·rw[ew'];exact B.2.1
   ·rw[ew'];exact c1
end
def leP (a b:Pt):Prop:=a.2 < b.2∨(a.2=b.2∧a.1≤b.1)
theorem BV (h:ltI (b.2,b.1) (a.2,a.1)=false):leP a b:=by
 unfold ltI jQ at h;unfold leP;by_cases c:b.2=a.2
 ·rw[if_pos c]at h
  have:=JD h
  lia
 ·rw[if_neg c]at h
  have:=JD h
  dsimp only at this
  lia
section
variable {C:Int→Int→Prop}{D:Pt→Nat→Option Pt}
theorem xz (h1:Seg C a p d)(h2:Seg C p b e)(B:turn C p d e)(Y:leP p a)(lb:leP p b):(d=3∧e=0)∨(d=2∧e=1):=by
 obtain⟨d4,l,l0,G,_⟩:=h1;obtain⟨e4,m,m0,J,_⟩:=h2;have x1:=Ij Prod.fst G;have x2:=Ij Prod.snd G;have O:=Ij Prod.fst J;have U:=Ij Prod.snd J;unfold turn at B;unfold leP at Y lb;rcases du d4 with rfl|rfl|rfl|rfl<;>simp[go,ux,uy]at x1 x2 B
 ·lia
 ·lia
 ·rcases B with⟨_,rfl⟩|⟨_,_,rfl⟩|⟨_,_,rfl⟩<;>simp[go,ux,uy]at O U<;>first|lia|exact .inr ⟨rfl,rfl⟩
 ·rcases B with⟨_,rfl⟩|⟨_,_,rfl⟩|⟨_,_,rfl⟩<;>simp[go,ux,uy]at O U<;>first|lia|exact .inl ⟨rfl,rfl⟩
end
section
variable {C:Int→Int→Prop}{D:Pt→Nat→Option Pt}
structure l8 (C:Int→Int→Prop)(D:Pt→Nat→Option Pt):Prop where
 pc:Pcs C D
 dom:∀ {x:Pt × Nat},(D x.1 x.2).isSome=true→(D (nx D x).1 (nx D x).2).isSome=true
 back:∀ {x:Pt × Nat},(D x.1 x.2).isSome=true→∃ N,Per D x N
theorem l8.go_ (W:l8 C D)(B:(D x.1 x.2).isSome=true)(i:Nat):(D (it (nx D) i x).1 (it (nx D) i x).2).isSome=true :=
 nW (S:=fun y:Pt × Nat=>(D y.1 y.2).isSome=true) (fun _ h=>W.dom h) B i
theorem Dl (h:Per D x N)(q:Nat):it (nx D) (N * q) x=x:=by
 induction q with
 | zero=>rfl
 | succ q ih =>
  rw[Nat.mul_succ,Nat.add_comm,← nX,h.2.1,ih]
theorem BP (h:Per D x N):z∈cD D x N↔∃ j,z=it (nx D) j x:=by
 unfold cD;constructor
 ·intro B;obtain⟨j,_,rfl⟩:=Hz.mp B;exact⟨j,rfl⟩
 ·rintro⟨j,rfl⟩;refine Hz.mpr ⟨j % N,Js.mpr (Nat.mod_lt _ h.1),?_⟩;have e:j=N * (j / N) + j % N:=(KI j N).symm;have G:it (nx D) j x=it (nx D) (N * (j / N) + j % N) x:=Ij (fun m=>it (nx D) m x) e;rw[G,← nX,Dl h]
theorem oW (h:Per D x N):cP D x=cD D x N:=by unfold cP;rw[Bp h]
theorem l8.mem (W:l8 C D)(B:(D x.1 x.2).isSome=true):z∈cP D x↔∃ j,z=it (nx D) j x:=by
 obtain⟨N,h⟩:=W.back B;rw[oW h];exact BP h
theorem l8.sym (W:l8 C D)(B:(D x.1 x.2).isSome=true)(J:z∈cP D x):(D z.1 z.2).isSome=true∧x∈cP D z:=by
 obtain⟨N,h⟩:=W.back B;have hz':=J;rw[oW h]at hz';unfold cD at hz';obtain⟨j,hj,rfl⟩:=Hz.mp hz';have G:=W.go_ B j;refine⟨G,(W.mem G).mpr ⟨N - j,?_⟩⟩;rw[nX,show j + (N - j)=N by have:=Js.mp hj;lia,h.2.1]
theorem l8.trans (W:l8 C D)(B:(D x.1 x.2).isSome=true)(G:y∈cP D x)(J:z∈cP D y):z∈cP D x:=by
 obtain⟨i,rfl⟩:=(W.mem B).mp G;obtain⟨j,rfl⟩:=(W.mem (W.go_ B i)).mp J;exact (W.mem B).mpr ⟨i + j,nX _ _ _ _⟩
theorem l8.self (W:l8 C D)(B:(D x.1 x.2).isSome=true):x∈cP D x:=(W.mem B).mpr ⟨0,rfl⟩
structure RgI (D:Pt→Nat→Option Pt)(done:List (Pt × Nat))(ss:List (Pt × Nat))(X:List (List Pt) × List (Pt × Nat)):Prop where
 told:X.1=ss.map fun s=>kF (cP D s)
 gone:∀ z,z∈X.2↔∃ s∈ss,z∈cP D s
 from_:∀ s∈ss,s∈done
 all:∀ z∈done,z∈X.2
 low:∀ s∈ss,∀ z∈cP D s,leP s.1 z.1
 asc:ss.Pairwise fun s s'=>leP s.1 s'.1∧s'∉cP D s
theorem rgI (W:l8 C D){ys:List (Pt × Nat)}(hd:∀ k,k∈ys↔(D k.1 k.2).isSome=true)(hs:ys.Pairwise fun a b=>leP a.1 b.1):∀ i,∃ Y,RgI D (ys.take i) Y (bN D (ys.take i))
 | 0=>⟨[],by
  rw[List.take_zero];exact⟨rfl,fun z=>by simp[bN],fun s h=>absurd h (by simp),fun z h=>absurd h (by simp),fun s h=>absurd h (by simp),List.Pairwise.nil⟩⟩
 | i + 1=>by
  obtain⟨Y,I⟩:=rgI W hd hs i;cases ek:ys[i]? with
  | none =>
   have e:ys.take (i + 1)=ys.take i:=by rw[Ic,ek];simp
   rw[e];exact⟨Y,I⟩
  | some k =>
   have e:ys.take (i + 1)=ys.take i++[k]:=by rw[Ic,ek];rfl
   have hk:=(hd k).mp (HH ek);have J:=(Hx.mp ek);have O:∀ z∈ys,z∉ys.take i→leP k.1 z.1:=fun z B hn=>by
    obtain⟨j,hj⟩:=IS B;have G:=Hx.mp hj;have a2:i≤j:=by
     rcases Jj j i with c|c
     ·exact absurd (HH (show (ys.take i)[j]? = some z by rw[List.getElem?_take,if_pos c];exact hj)) hn
     ·exact c
    rcases Jj i j with c|c
    ·have:=IQ.mp hs i j J.1 G.1 c
     rw[J.2,G.2]at this;exact this
    ·have:i=j:=by lia
     subst this;rw[ek]at hj;cases hj;exact .inr ⟨rfl,Jv _⟩
   rw[e,mB];by_cases c:k∈(bN D (ys.take i)).2
   ·have es:kI D (bN D (ys.take i)) k=bN D (ys.take i):=by unfold kI;rw[if_pos c]
    rw[es];refine⟨Y,I.told,I.gone,fun s h=>Iv _ (I.from_ s h),fun z B =>?_,I.low,I.asc⟩;rcases HD.mp B with B | B
    ·exact I.all z B
    ·rw[Hv.mp B];exact c
   ·have es:kI D (bN D (ys.take i)) k=((bN D (ys.take i)).1++[kF (cP D k)],(bN D (ys.take i)).2++cP D k):=by unfold kI;rw[if_neg c]
    rw[es];have kd:∀ s∈Y,(D s.1 s.2).isSome=true:=fun s h=>(hd s).mp (I9 (I.from_ s h));have low:∀ z∈cP D k,leP k.1 z.1:=fun z B=>by
     obtain⟨dz,kz⟩:=W.sym hk B;refine O z ((hd z).mpr dz) fun U=>c ?_;obtain⟨s,a0,a1⟩:=(I.gone z).mp (I.all z U);exact (I.gone k).mpr ⟨s,a0,W.trans (kd s a0) a1 kz⟩
    refine⟨Y++[k],?_,fun z =>?_,fun s h =>?_,fun z B =>?_,fun s h =>?_,?_⟩
    ·rw[I.told,Im];rfl
    ·rw[HD,I.gone];constructor
     ·rintro (⟨s,h1,h2⟩ | h)
      ·exact⟨s,Iv _ h1,h2⟩
      ·exact⟨k,by simp,h⟩
     ·rintro⟨s,h1,h2⟩;rcases HD.mp h1 with h1 | h1
      ·exact .inl ⟨s,h1,h2⟩
      ·rw[Hv.mp h1]at h2;exact .inr h2
    ·rcases HD.mp h with h|h
     ·exact Iv _ (I.from_ s h)
     ·exact Ia _ h
    ·rcases HD.mp B with B|B
     ·exact Iv _ (I.all z B)
     ·rw[Hv.mp B];exact Ia _ (W.self hk)
    ·rcases HD.mp h with h|h
     ·exact I.low s h
     ·rw[Hv.mp h];exact low
    ·refine Iu.mpr ⟨I.asc,JB _ _,fun s h k' h' =>?_⟩;rw[Hv.mp h'];refine⟨?_,fun U=>c ((I.gone k).mpr ⟨s,h,U⟩)⟩;obtain⟨j,hj⟩:=IS (I.from_ s h);rw[List.getElem?_take]at hj
     split at hj
     ·rename_i c1
      have G:=Hx.mp hj
      have:=IQ.mp hs j i G.1 J.1 c1
      rw[J.2,G.2]at this;exact this
     ·cases hj
theorem lX (W:l8 C D)(G:(D s.1 s.2).isSome=true)(low:∀ z∈cP D s,leP s.1 z.1):∃ N d,Per D s N∧(it (nx D) (N - 1) s).2=d∧((d=3∧s.2=0)∨(d=2∧s.2=1))∧cl C s.1 ((d + 1) % 4)∧¬ cl C s.1 ((d + 2) % 4)∧turn C s.1 d s.2:=by
 obtain⟨N,h⟩:=W.back G;have N0:=h.1;have O:=W.go_ G (N - 1);have B:=jw W.pc O;have J:=jw W.pc G;have U:nx D (it (nx D) (N - 1) s)=s:=by
  have:nx D (it (nx D) (N - 1) s)=it (nx D) (N - 1 + 1) s:=rfl
  rw[this,show N - 1 + 1=N by lia,h.2.1]
 rw[U]at B;have lt:=xz B.1 J.1 B.2.1 (low _ ((W.mem G).mpr ⟨N - 1,rfl⟩)) (low _ ((W.mem G).mpr ⟨1,rfl⟩));obtain⟨p,ep⟩:=Ii.mp O;obtain⟨_,_,_,_,_,Y,c2⟩:=W.pc.last ep;obtain⟨e',n1,_⟩:=mF W.pc ep;have n2:(p,e')=s:=n1.symm.trans U;have n3:p=s.1:=Ij Prod.fst n2;rw[n3]at Y c2;exact⟨N,_,h,rfl,lt,Y,c2,B.2.1⟩
theorem Aq (W:l8 C D)(hs:(D s.1 s.2).isSome=true)(O:(D s'.1 s'.2).isSome=true)(low:∀ z∈cP D s,leP s.1 z.1)(B:∀ z∈cP D s',leP s'.1 z.1)(e:s.1=s'.1):s=s':=by
 obtain⟨N,d,_,_,c,c1,c2,_⟩:=lX W hs low;obtain⟨N',d',_,_,c',G,J,_⟩:=lX W O B;refine Prod.ext e ?_;rw[← e]at G J;rcases c with⟨rfl,U⟩|⟨rfl,U⟩<;>rcases c' with⟨rfl,Y⟩|⟨rfl,Y⟩
 ·rw[U,Y]
 ·exact absurd c1 J
 ·exact absurd G c2
 ·rw[U,Y]
end
theorem oP (h:Lnd L M W col):l8 (CM M) (DG L M) :=
 ⟨pcs h,fun B=>xt h B,fun B=>by
  obtain⟨N,h1,_,G⟩:=nI h B;exact⟨N,h1,G⟩⟩
section
variable {C:Int→Int→Prop}{D:Pt→Nat→Option Pt}
def Cyc (C:Int→Int→Prop)(cw:List (Pt × Nat)):Prop:=∀ k,k < cw.length→CG C (cL cw (prv cw.length k)) (cL cw k)
theorem tH (hi:i < R.length):R[i]? = some (cL R i):=by
 unfold cL;rw[HU hi];rfl
theorem AV (W:l8 C D)(G:(D s.1 s.2).isSome=true)(low:∀ z∈cP D s,leP s.1 z.1):∃ cw,kF (cP D s)=cw.map (·.1)∧0 < cw.length∧Cyc C cw∧cL cw 0=s∧∀ p∈kF (cP D s),leP s.1 p:=by
 obtain⟨N,d,J,O,U,_,_,ht⟩:=lX W G low;have N0:=J.1;have er:=oW J;rw[er];have c0:eP (cD D s N) 0=true:=by
  unfold eP;rw[mC,gC N0];unfold prv;rw[if_pos rfl,gC (by lia),O];refine Hr ?_;show s.2≠d;rcases U with⟨rfl,e⟩ | ⟨rfl,e⟩<;>rw[e]<;>decide
 obtain⟨cs,c,e1,e0,ch,sg,ew⟩:=ql W.pc (W.go_ G) c0 N N0 (Ht _);have B:kF (cD D s N)=(cs++[c]).map (·.1):=by
  unfold kF;rw[mC,← D6,e1]
 have l0:0 < (cs++[c]).length:=by simp
 have r0:cL (cs++[c]) 0=s:=by unfold cL;rw[e0];rfl
 refine⟨cs++[c],B,l0,fun k hk =>?_,r0,fun p hp =>?_⟩
 ·unfold prv;by_cases k0:k=0
  ·subst k0;rw[if_pos rfl,r0];have rl:cL (cs++[c]) ((cs++[c]).length - 1)=c:=by
    unfold cL;rw[Hs,IH,Nat.add_sub_cancel,IA (Ht _),Nat.sub_self];rfl
   rw[rl];rw[J.2.1]at sg;have s4:s.2 < 4:=by rcases U with⟨_,e⟩ | ⟨_,e⟩<;>rw[e]<;>decide
   refine⟨sg,?_,?_,s4⟩
   ·rw[ew,O];exact ht
   ·rw[ew,O];rcases U with⟨rfl,e⟩ | ⟨rfl,e⟩<;>rw[e]<;>decide
  ·rw[if_neg k0];refine ch.at_ (i:=k - 1) (tH (by lia)) ?_
   rw[show k - 1 + 1=k by lia];exact tH hk
 ·rw[B,← e1]at hp;obtain⟨z,hz,rfl⟩:=Hz.mp hp;unfold wl at hz;obtain⟨i,hi,rfl⟩:=Hz.mp hz;have Y:i < N:=Js.mp (Ip.mp hi).1;rw[gC Y];exact low _ ((W.mem G).mpr ⟨i,rfl⟩)
theorem uZ (J:d < 4)(h:turn C p d e)(B:e≠d):(e=(d + 1) % 4∧¬ cl C p d)∨(e=(d + 3) % 4∧cl C p d∧cl C p ((d + 3) % 4)):=by
 unfold turn at h;rcases h with⟨h1,h2⟩ | ⟨_,_,h2⟩ | ⟨h1,G,h2⟩
 ·exact .inl ⟨h2,h1⟩
 ·exact absurd h2 B
 ·exact .inr ⟨h2,h1,G⟩
theorem jP (h:CG C a b):a.2 < 4∧b.2 % 2≠a.2 % 2:=by
 have B:=h.1.1;refine⟨B,?_⟩;rcases uZ B h.2.1 h.2.2.1 with⟨e,_⟩ | ⟨e,_⟩<;>rw[e]<;>omega
theorem tj (h:Seg C a b d):(d % 2=0→b.2=a.2∧b.1≠a.1)∧(d % 2=1→b.1=a.1∧b.2≠a.2):=by
 obtain⟨B,l,G,rfl,_⟩:=h;rcases du B with rfl|rfl|rfl|rfl<;>simp[go,ux,uy]<;>lia
theorem Cr (h:Cyc C cw)(O:0 < cw.length):4≤cw.length:=by
 have Y:=h;rcases Jj cw.length 4 with c | c
 ·exfalso
  have k0:=h 0 O;rcases (show cw.length=1∨cw.length=2∨cw.length=3 by lia) with e | e | e
  ·rw[e]at k0
   have:=(jP k0).2
   exact this rfl
  ·have k1:=h 1 (by lia);rw[e]at k0 k1;have k0':CG C (cL cw 1) (cL cw 0):=k0;have k1':CG C (cL cw 0) (cL cw 1):=k1;have U:=(jP k0').2;have s0:=tj k0'.1;have J:=tj k1'.1;rcases (show (cL cw 1).2 % 2=0∨(cL cw 1).2 % 2=1 by lia) with q | q
   ·obtain⟨_,B⟩:=s0.1 q;obtain⟨G,_⟩:=J.2 (by lia);exact B G.symm
   ·obtain⟨_,B⟩:=s0.2 q;obtain⟨G,_⟩:=J.1 (by lia);exact B G.symm
  ·have k1:=h 1 (by lia);have k2:=h 2 (by lia);rw[e]at k0 k1 k2;have p0:(cL cw 0).2 % 2≠(cL cw 2).2 % 2:=(jP k0).2;have U:(cL cw 1).2 % 2≠(cL cw 0).2 % 2:=(jP k1).2;have p2:(cL cw 2).2 % 2≠(cL cw 1).2 % 2:=(jP k2).2
   lia
 ·exact c
def Tri (C:Int→Int→Prop)(a b c:Pt):Prop:=∃ d e,Seg C a b d∧Seg C b c e∧turn C b d e∧e≠d∧e < 4
theorem lP (h:k < m):prv m k < m:=by
 unfold prv
 split<;>lia
theorem D5 (h:Cyc C cw)(G:k < cw.length):Tri C (cL cw (prv cw.length (prv cw.length k))).1 (cL cw (prv cw.length k)).1 (cL cw k).1:=by
 have B:=h (prv cw.length k) (lP G);have J:=h k G;exact⟨_,_,B.1,J.1,B.2.1,B.2.2.1,B.2.2.2⟩
end
def ovl (dn:Bool)(s e line:Int)(q:Sq):Int:=if (if dn then (q.x:Int) else q.y)≤line∧line < (if dn then (q.x:Int) else q.y) + q.w then max 0 (min e ((if dn then (q.y:Int) else q.x) + q.w) - max s (if dn then (q.y:Int) else q.x)) else 0
def dP (dn:Bool)(line t:Int):Int × Int:=if dn then (line,t) else (t,line)
open Classical in
theorem By (B:Bool)(G:s≤e)(q:Sq)(J:0 < q.w):ovl B s (e + 1) line q=ovl B s e line q + (if InS q (dP B line e).1 (dP B line e).2 then 1 else 0):=by
 unfold ovl InS dP;cases B<;>simp only[if_true,if_false,Hu]<;>split<;>split<;>lia
theorem Dt (G:Bool)(s B:Int)(q:Sq):ovl G s s B q=0:=by
 unfold ovl
 split<;>lia
open Classical in
theorem Dv (J:M.Nodup)(G:∀ q∈M,∀ r∈M,∀ x y,InS q x y→InS r x y→q=r)(x y:Int):(M.map fun q=>if InS q x y then (1:Int) else 0).sum=if CM M x y then 1 else 0:=by
 induction M with
 | nil =>
  rw[if_neg (by rintro⟨q,O,_⟩;cases O)];rfl
 | cons q M U =>
  obtain⟨Y,n2⟩:=IZ.mp J;have ih':=U n2 fun a h1 b h2=>G a (HF _ h1) b (HF _ h2);rw[Ig,KA,ih'];by_cases c:InS q x y
  ·have no:¬ CM M x y:=by
    rintro⟨r,B,hi⟩
    have:=G q HP r (HF _ B) x y c hi
    exact Y (this▸B)
   rw[if_pos c,if_neg no,if_pos ⟨q,HP,c⟩];rfl
  ·rw[if_neg c,JK];by_cases c2:CM M x y
   ·obtain⟨r,B,hi⟩:=id c2;rw[if_pos c2,if_pos ⟨r,HF _ B,hi⟩]
   ·rw[if_neg c2,if_neg];rintro⟨r,B,hi⟩;rcases HZ.mp B with e | B
    ·exact c (e▸hi)
    ·exact c2 ⟨r,B,hi⟩
theorem xX (f g:α→Int):∀ l:List α,(l.map fun x=>f x + g x).sum=(l.map f).sum + (l.map g).sum
 | []=>rfl
 | a::l=>by
  simp only[Ig,KA,xX f g l]
  lia
theorem uW:∀ l:List α,(l.map fun _=>(0:Int)).sum=0
 | []=>rfl
 | a::l=>by rw[Ig,KA,uW l];rfl
open Classical in
theorem tM (J:M.Nodup)(O:∀ q∈M,0 < q.w)(U:∀ q∈M,∀ r∈M,∀ x y,InS q x y→InS r x y→q=r)(G:Bool)(s B:Int)(c:Int)(Y:c=0∨c=1):∀ l:Nat,(∀ k:Nat,k < l→(if CM M (dP G B (s + k)).1 (dP G B (s + k)).2 then (1:Int) else 0)=c)→(M.map (ovl G s (s + l) B)).sum=c * l
 | 0,_=>by
  rw[show s + ((0:Nat):Int)=s by simp]
  have:M.map (ovl G s s B)=M.map fun _=>(0:Int):=IN fun q _=>Dt G s B q
  rw[this,uW];simp
 | l + 1,h=>by
  have ih:=tM J O U G s B c Y l fun k hk=>h k (by lia);have e:M.map (ovl G s (s + ((l + 1:Nat):Int)) B)=M.map fun q=>ovl G s (s + l) B q + (if InS q (dP G B (s + l)).1 (dP G B (s + l)).2 then (1:Int) else 0):=IN fun q hq=>by
   rw[show s + ((l + 1:Nat):Int)=s + l + 1 by lia];exact By G (by lia) q (O q hq)
  rw[e,xX,ih,Dv J U,h l (by simp)];rcases Y with rfl | rfl<;>lia
def lnF (a b:Pt):Int × Int × Int:=if a.1 < b.1 then (0,a.2,a.2 - 1) else if a.1 > b.1 then (0,a.2 - 1,a.2) else if a.2 < b.2 then (1,a.1 - 1,a.1) else (1,a.1,a.1 - 1)
def ahF (a b:Pt):Pt × Pt:=if a.1 < b.1 then ((b.1,b.2),(b.1,b.2 - 1)) else if a.1 > b.1 then ((b.1 - 1,b.2 - 1),(b.1 - 1,b.2)) else if a.2 < b.2 then ((b.1 - 1,b.2),(b.1,b.2)) else ((b.1,b.2 - 1),(b.1 - 1,b.2 - 1))
def trF (a b c:Pt):Bool:=decide ((b.1 - a.1) * (c.2 - b.2) > (b.2 - a.2) * (c.1 - b.1))
def alF (M:List Sq)(a b:Pt)(dn line:Int):Int:=(M.map (ovl (decide (dn=1)) (if dn=1 then min a.2 b.2 else min a.1 b.1) (if dn=1 then max a.2 b.2 else max a.1 b.1) line)).sum
section
variable {M:List Sq}
theorem CZ (h:Seg C a b d):∃ l:Nat,0 < l∧b=go a l d∧(max (a.1 - b.1) (b.1 - a.1)) + (max (a.2 - b.2) (b.2 - a.2))=l:=by
 obtain⟨B,l,G,rfl,_⟩:=h;refine⟨l,G,rfl,?_⟩;rcases du B with rfl|rfl|rfl|rfl<;>simp[go,ux,uy]<;>lia
theorem zy (h:Seg C a b d):(C (ahF a b).1.1 (ahF a b).1.2↔cl C b d)∧(C (ahF a b).2.1 (ahF a b).2.2↔cl C b ((d + 3) % 4)):=by
 obtain⟨B,l,G,rfl,_⟩:=h;have e:ahF a (go a l d)=(((go a l d).1 + rtx d,(go a l d).2 + rty d),((go a l d).1 + rtx ((d + 3) % 4),(go a l d).2 + rty ((d + 3) % 4))):=by
  unfold ahF;rcases du B with rfl | rfl | rfl | rfl
  ·rw[if_pos (by simp[go,ux];lia)];simp[rtx,rty];rfl
  ·rw[if_neg (by simp[go,ux]),if_neg (by simp[go,ux]),if_pos (by simp[go,uy];lia)];simp[rtx,rty];rfl
  ·rw[if_neg (by simp[go,ux];lia),if_pos (by simp[go,ux];lia)];simp[rtx,rty];lia
  ·rw[if_neg (by simp[go,ux]),if_neg (by simp[go,ux]),if_neg (by simp[go,uy];lia)];simp[rtx,rty];lia
 rw[e];exact⟨Iff.rfl,Iff.rfl⟩
theorem asc (a b:Int):a + b - a=b:=by lia
theorem zd (h:Seg C a b d)(k:Seg C b c e):(e=(d + 1) % 4→trF a b c=true)∧(e=(d + 3) % 4→trF a b c=false):=by
 obtain⟨G,l,O,rfl,_⟩:=h;obtain⟨U,m,Y,rfl,_⟩:=k;have J:0 < (l:Int) * m:=Int.mul_pos (by lia) (by lia);unfold trF;rcases du G with rfl|rfl|rfl|rfl<;>refine⟨fun B=>Hr ?_,fun B=>Ih ?_⟩<;>subst B<;>simp[go,ux,uy,asc,Int.neg_mul,Int.mul_neg]<;>first|lia|(have:=J;lia)
theorem zx (hn:M.Nodup)(hw:∀ q∈M,0 < q.w)(ha:∀ q∈M,∀ r∈M,∀ x y,InS q x y→InS r x y→q=r)(h:Seg (CM M) a b d):alF M a b (lnF a b).1 (lnF a b).2.1=(max (a.1 - b.1) (b.1 - a.1)) + (max (a.2 - b.2) (b.2 - a.2))∧alF M a b (lnF a b).1 (lnF a b).2.2=0∧((lnF a b).1=0∨(lnF a b).1=1):=by
 obtain⟨l,l0,_,el⟩:=CZ h;obtain⟨h4,B,a0,rfl,U⟩:=h;have ll:B=l:=by
  rcases du h4 with rfl|rfl|rfl|rfl<;>simp[go,ux,uy]at el<;>lia
 subst ll;rw[el];have key:∃ (G:Bool) (s r f:Int),lnF a (go a B d)=((if G then 1 else 0),r,f)∧(if G then min a.2 (go a B d).2 else min a.1 (go a B d).1)=s∧(if G then max a.2 (go a B d).2 else max a.1 (go a B d).1)=s + B∧∀ k:Nat,k < B→CM M (dP G r (s + k)).1 (dP G r (s + k)).2∧¬ CM M (dP G f (s + k)).1 (dP G f (s + k)).2:=by
  rcases du h4 with rfl|rfl|rfl|rfl
  ·refine⟨false,a.1,a.2,a.2 + -1,?_,by simp[go,ux];lia,by simp[go,ux];lia,fun k O =>?_⟩
   ·unfold lnF;rw[if_pos (by simp[go,ux];lia)];rfl
   ·have:=U k O
    simpa[Bd,cl,go,ux,uy,rtx,rty,dP] using this
  ·refine⟨true,a.2,a.1 + -1,a.1,?_,by simp[go,uy];lia,by simp[go,uy];lia,fun k O =>?_⟩
   ·unfold lnF;rw[if_neg (by simp[go,ux]),if_neg (by simp[go,ux]),if_pos (by simp[go,uy];lia)];rfl
   ·have:=U k O
    simpa[Bd,cl,go,ux,uy,rtx,rty,dP] using this
  ·refine⟨false,a.1 - B,a.2 - 1,a.2,?_,by simp[go,ux];lia,by simp[go,ux];lia,fun k O =>?_⟩
   ·unfold lnF;rw[if_neg (by simp[go,ux];lia),if_pos (by simp[go,ux];lia)];rfl
   ·have:=U (B - 1 - k) (by lia)
    have e1:a.1 + -((B - 1 - k:Nat):Int) + -1=a.1 - B + k:=by lia
    simp[Bd,cl,go,ux,uy,rtx,rty]at this;simp only[dP,Hu,if_false];rw[show a.1 + -((B - 1 - k:Nat):Int) + -1=a.1 - B + k by omega]at this;exact this
  ·refine⟨true,a.2 - B,a.1,a.1 - 1,?_,by simp[go,uy];omega,by simp[go,uy];lia,fun k O =>?_⟩
   ·unfold lnF;rw[if_neg (by simp[go,ux]),if_neg (by simp[go,ux]),if_neg (by simp[go,uy];lia)];rfl
   ·have:=U (B - 1 - k) (by lia)
    simp[Bd,cl,go,ux,uy,rtx,rty]at this;simp only[dP,if_true];rw[show a.2 + -((B - 1 - k:Nat):Int) + -1=a.2 - B + k by lia]at this;exact this
 obtain⟨G,s,r,f,e1,Y,e3,O⟩:=key;rw[e1];have dd:decide ((if G then (1:Int) else 0)=1)=G:=by cases G<;>rfl
 have a1:∀ J,alF M a (go a B d) (if G then 1 else 0) J=(M.map (ovl G s (s + B) J)).sum:=fun J=>by
  unfold alF;rw[dd];cases G
  ·rw[if_neg (by decide),if_neg (by decide)];simp only[Hu,if_false]at Y e3;rw[Y,e3]
  ·simp only[if_true]at Y e3 ⊢;rw[Y,e3]
 dsimp only;rw[a1,a1];refine⟨?_,?_,by cases G<;>simp⟩
 ·rw[tM hn hw ha G s r 1 (.inr rfl) B fun k h=>if_pos (O k h).1];simp
 ·rw[tM hn hw ha G s f 0 (.inl rfl) B fun k h=>if_neg (O k h).2];simp
end
end Qs
namespace Qs
open PySem L2
def oM (H:Hp)(u:V)(q:Sq):Prop:=∃ a,u=.ref a∧Ef H a q
def ra (H:Hp)(l:Addr)(M:List Sq):Prop:=∃ us,H l=some (.lst us)∧Paired (oM H) us M
theorem oM.up (h:oM H u q)(s:bS H H'):oM H' u q:=by
 obtain⟨a,e,k⟩:=h;exact⟨a,e,s _ _ k⟩
theorem ra.up (h:ra H l M)(s:ak H H'):ra H' l M:=by
 obtain⟨us,h1,h2⟩:=h;exact⟨us,s _ _ h1,Paired.mapP h2 fun _ _ k=>k.up s.tups⟩
section
variable {P:Program}{w:World}{K:PySem.W.Frag}{mg:Str→Option Value}{base:Heap}{CX:CXT}{f:Addr}{fd:FuncData}
abbrev g_:Stmt:=top 57
theorem dY:aE ["_law_land_here","_law_x","_law_y","_law_left","_law_top","_law_wide"] ["_law_land_here","_law_x","_law_y"] (aq g_):={}
inductive jp  (vs:List V)(H:Hp)(Q:VK):Prop
 | mk (l:Addr) (M:List Sq) (x y:Int) (h_0:vs=[.ref l,.int x,.int y]) (h_1:ra H l M) (h_2:∀ b:Bool,(b=true↔CM M x y)→Q (.bl b) H):jp  vs H Q
def jz:Sp:=fun vs H Q _=>jp  vs H Q
theorem qz (T:Tx K mg)(F:bu K "_law_in_land" "_law_in_land" g_ f fd .none):bA P w K mg base CX 1 f fd ["_law_land_here","_law_x","_law_y"] jz:=by
 refine F.ok dY (fun vs H Q E h =>?_) (fun a0 A outer s H vs Q E B h =>?_)
 ·obtain⟨_,_,_,_,rfl,_⟩:=h;rfl
 obtain⟨l,M,x,y,rfl,⟨us,hl,hM⟩,q'⟩:=h;refine⟨_,(ac (aN HK rfl (bU (pv 0)) (iV rfl (aV (aR (i:=3) dY) (aV (aR (i:=4) dY) (aV (aR (i:=5) dY) d8)))) (ag (aQ (PW.pt (qm (jK r6 eK (pv 3) (pv 1) (ai aI (pv 3) (pv 5))) (tI (jK r6 eK (pv 4) (pv 2) (ai aI (pv 4) (pv 5)))))) (ag (aA dC)) aG))) (ag (aA dC))),?_⟩;refine⟨l,rfl,⟨_,SqL.of hl⟩,cE (xs:=us) (fun (i:Nat) σ H1=>H1=H∧(¬ CM (M.take i) x y)∧∃ J O U:Option V,σ=[some (.ref l),some (.int x),some (.int y),J,O,U]) ⟨rfl,(fun⟨q,Y,_⟩=>absurd Y (by simp)),_,_,_,rfl⟩ (fun i σ H1 _ h=>by rw[h.1];exact SqL.of hl) ?_ ?_⟩
 ·rintro i u σ H1 hu ⟨rfl,G,J,O,U,rfl⟩;obtain⟨q,eq,a,rfl,Y⟩:=bJ hM hu;have et:M.take (i + 1)=M.take i++[q]:=by rw[Ic,eq];rfl
  refine⟨a,_,rfl,SqT.of Y,rfl,_,_,rfl,_,_,rfl,_,_,rfl,rfl,?_⟩;have stay:¬ InS q x y→¬ CM (M.take (i + 1)) x y:=fun n=>by
   rw[et];rintro⟨r,B,hi⟩;rcases HD.mp B with B | B
   ·exact G ⟨r,B,hi⟩
   ·exact n (Hv.mp B▸hi)
  have out:¬ InS q x y→H1=H1∧¬ CM (M.take (i + 1)) x y∧∃ o3' o4' o5':Option V,[some (V.ref l),some (V.int x),some (V.int y),some (V.int (q.x:Int)),some (V.int (q.y:Int)),some (V.int (q.w:Int))]=[some (V.ref l),some (V.int x),some (V.int y),o3',o4',o5']:=fun n=>⟨rfl,stay n,_,_,_,rfl⟩;refine⟨_,rfl,aY (fun c1=>(fG (fG (bE (bE (az (aY (fun c2 =>?_) (fun c2 =>?_)))))))) (fun c1=>(az (aY (fun c=>absurd c (by decide)) (fun _ =>?_))))⟩
  ·refine⟨_,rfl,aY (fun c3=>(fG (fG (bE (bE (az (aY (fun c4 =>?_) (fun c4 =>?_)))))))) (fun c3=>(az (aY (fun c=>absurd c (by decide)) (fun _ =>?_))))⟩
   ·exact q' true ⟨fun _=>⟨q,HH eq,HG c1,HG c2,HG c3,HG c4⟩,fun _=>rfl⟩
   ·exact out fun h=>c4 (Hr h.2.2.2)
   ·exact out fun h=>c3 (Hr h.2.2.1)
  ·exact out fun h=>c2 (Hr h.2.1)
  ·exact out fun h=>c1 (Hr h.1)
 ·rintro σ H1 ⟨rfl,G,J,O,U,rfl⟩;rw[HM (by rw[Paired.length hM];exact Ht _)]at G;exact q' false ⟨fun h=>absurd h (by decide),fun h=>absurd h G⟩
abbrev jG:Stmt:=top 58
theorem tz:aE ["_law_one","_law_other"] ["_law_one","_law_other"] (aq jG):={}
inductive lh  (vs:List V)(H:Hp)(Q:VK):Prop
 | mk (p r:Addr) (a b:Pt) (h_0:vs=[.ref p,.ref r]) (h_1:H p=some (.tup [.int a.1,.int a.2])) (h_2:H r=some (.tup [.int b.1,.int b.2])) (h_3:∀ t H',ak H H'→H' t=some (.tup [.int (lnF a b).1,.int (lnF a b).2.1,.int (lnF a b).2.2])→Q (.ref t) H'):lh  vs H Q
def mo:Sp:=fun vs H Q _=>lh  vs H Q
theorem tX (T:Tx K mg)(F:bu K "_law_lines" "_law_lines" jG f fd .none):bA P w K mg base CX 1 f fd ["_law_one","_law_other"] mo:=by
 refine F.ok tz (fun vs H Q E h =>?_) (fun a0 A outer s H vs Q E hr h =>?_)
 ·obtain⟨_,_,_,_,rfl,_⟩:=h;rfl
 obtain⟨p,r,a,b,rfl,B,hq,O⟩:=h;refine⟨_,(ac (aQ (aF eK (au aw (pv 0) ae) (au aw (pv 1) ae)) (ag (aA (aD (ap ae (ap (au aw (pv 0) ae) (ap (ai bM (au aw (pv 0) ae) ae) am)))))) aG) (ac (aQ (aF kP (au aw (pv 0) ae) (au aw (pv 1) ae)) (ag (aA (aD (ap ae (ap (ai bM (au aw (pv 0) ae) ae) (ap (au aw (pv 0) ae) am)))))) aG) (ac (aQ (aF eK (au aw (pv 0) ae) (au aw (pv 1) ae)) (ag (aA (aD (ap ae (ap (ai bM (au aw (pv 0) ae) ae) (ap (au aw (pv 0) ae) am)))))) aG) (ag (aA (aD (ap ae (ap (au aw (pv 0) ae) (ap (ai bM (au aw (pv 0) ae) ae) am))))))))),?_⟩;have U:3≤sizeLine:=by decide
 refine⟨p,_,_,_,rfl,rfl,SqT.of B,rfl,r,_,_,_,rfl,rfl,SqT.of hq,rfl,bE (az (aY (fun J =>?_) (fun J=>⟨p,_,_,_,rfl,rfl,SqT.of B,rfl,r,_,_,_,rfl,rfl,SqT.of hq,rfl,bE (az (aY (fun Y =>?_) (fun Y=>⟨p,_,_,_,rfl,rfl,SqT.of B,rfl,r,_,_,_,rfl,rfl,SqT.of hq,rfl,bE (az (aY (fun c3 =>?_) (fun c3 =>?_)))⟩)))⟩)))⟩
 ·refine⟨p,_,_,_,rfl,rfl,SqT.of B,rfl,p,_,_,_,rfl,rfl,SqT.of B,rfl,U,fun t G=>O t _ (ak.new G _) ?_⟩;rw[ah];unfold lnF;rw[if_pos (HG J)]
 ·refine⟨p,_,_,_,rfl,rfl,SqT.of B,rfl,p,_,_,_,rfl,rfl,SqT.of B,rfl,U,fun t G=>O t _ (ak.new G _) ?_⟩;rw[ah];unfold lnF;rw[if_neg fun h=>J (Hr h),if_pos (HG Y)]
 ·refine⟨p,_,_,_,rfl,rfl,SqT.of B,rfl,p,_,_,_,rfl,rfl,SqT.of B,rfl,U,fun t G=>O t _ (ak.new G _) ?_⟩;rw[ah];unfold lnF;rw[if_neg fun h=>J (Hr h),if_neg fun h=>Y (Hr h),if_pos (HG c3)]
 ·refine⟨p,_,_,_,rfl,rfl,SqT.of B,rfl,p,_,_,_,rfl,rfl,SqT.of B,rfl,U,fun t G=>O t _ (ak.new G _) ?_⟩;rw[ah];unfold lnF;rw[if_neg fun h=>J (Hr h),if_neg fun h=>Y (Hr h),if_neg fun h=>c3 (Hr h)]
abbrev jI:Stmt:=top 60
theorem iM:aE ["_law_one","_law_other","_law_x","_law_y"] ["_law_one","_law_other"] (aq jI):={}
inductive lC  (vs:List V)(H:Hp)(Q:VK):Prop
 | mk (p r:Addr) (a b:Pt) (h_0:vs=[.ref p,.ref r]) (h_1:H p=some (.tup [.int a.1,.int a.2])) (h_2:H r=some (.tup [.int b.1,.int b.2])) (h_3:∀ t p1 p2 H',ak H H'→H' t=some (.tup [.ref p1,.ref p2])→H' p1=some (.tup [.int (ahF a b).1.1,.int (ahF a b).1.2])→H' p2=some (.tup [.int (ahF a b).2.1,.int (ahF a b).2.2])→Q (.ref t) H'):lC  vs H Q
def mr:Sp:=fun vs H Q _=>lC  vs H Q
theorem tZ (T:Tx K mg)(F:bu K "_law_ahead" "_law_ahead" jI f fd .none):bA P w K mg base CX 1 f fd ["_law_one","_law_other"] mr:=by
 refine F.ok iM (fun vs H Q E h =>?_) (fun a0 A outer s H vs Q E hr h =>?_)
 ·obtain⟨_,_,_,_,rfl,_⟩:=h;rfl
 obtain⟨p,r,a,b,rfl,hp,U,J⟩:=h;refine⟨_,(ac (av (i:=2) iM (au aw (pv 1) ae)) (ac (av (i:=3) iM (au aw (pv 1) ae)) (ac (aQ (aF eK (au aw (pv 0) ae) (au aw (pv 1) ae)) (ag (aA (aD (ap (aD (ap (pv 2) (ap (pv 3) am))) (ap (aD (ap (pv 2) (ap (ai bM (pv 3) ae) am))) am))))) aG) (ac (aQ (aF kP (au aw (pv 0) ae) (au aw (pv 1) ae)) (ag (aA (aD (ap (aD (ap (ai bM (pv 2) ae) (ap (ai bM (pv 3) ae) am))) (ap (aD (ap (ai bM (pv 2) ae) (ap (pv 3) am))) am))))) aG) (ac (aQ (aF eK (au aw (pv 0) ae) (au aw (pv 1) ae)) (ag (aA (aD (ap (aD (ap (ai bM (pv 2) ae) (ap (pv 3) am))) (ap (aD (ap (pv 2) (ap (pv 3) am))) am))))) aG) (ag (aA (aD (ap (aD (ap (pv 2) (ap (ai bM (pv 3) ae) am))) (ap (aD (ap (ai bM (pv 2) ae) (ap (ai bM (pv 3) ae) am))) am)))))))))),?_⟩;have G:2≤sizeLine:=by decide
 unfold ahF at J;refine⟨r,_,_,_,rfl,rfl,SqT.of U,rfl,r,_,_,_,rfl,rfl,SqT.of U,rfl,?_⟩;refine⟨p,_,_,_,rfl,rfl,SqT.of hp,rfl,r,_,_,_,rfl,rfl,SqT.of U,rfl,bE (az (aY (fun Y =>?_) (fun Y=>⟨p,_,_,_,rfl,rfl,SqT.of hp,rfl,r,_,_,_,rfl,rfl,SqT.of U,rfl,bE (az (aY (fun c2 =>?_) (fun c2=>⟨p,_,_,_,rfl,rfl,SqT.of hp,rfl,r,_,_,_,rfl,rfl,SqT.of U,rfl,bE (az (aY (fun c3 =>?_) (fun c3 =>?_)))⟩)))⟩)))⟩
 ·rw[if_pos (HG Y)]at J;exact⟨G,fun B h1=>⟨G,fun p2 h2=>⟨G,fun t O=>fh (fun r B p2 H'=>J r B p2 H') B p2 t h1 h2 O⟩⟩⟩
 ·rw[if_neg fun h=>Y (Hr h),if_pos (HG c2)]at J;exact⟨G,fun B h1=>⟨G,fun p2 h2=>⟨G,fun t O=>fh (fun r B p2 H'=>J r B p2 H') B p2 t h1 h2 O⟩⟩⟩
 ·rw[if_neg fun h=>Y (Hr h),if_neg fun h=>c2 (Hr h),if_pos (HG c3)]at J;exact⟨G,fun B h1=>⟨G,fun p2 h2=>⟨G,fun t O=>fh (fun r B p2 H'=>J r B p2 H') B p2 t h1 h2 O⟩⟩⟩
 ·rw[if_neg fun h=>Y (Hr h),if_neg fun h=>c2 (Hr h),if_neg fun h=>c3 (Hr h)]at J;exact⟨G,fun B h1=>⟨G,fun p2 h2=>⟨G,fun t O=>fh (fun r B p2 H'=>J r B p2 H') B p2 t h1 h2 O⟩⟩⟩
abbrev dZ:Stmt:=top 61
theorem gj:aE ["_law_one","_law_two","_law_three","_law_first"] ["_law_one","_law_two","_law_three"] (aq dZ):={}
inductive fF  (vs:List V)(H:Hp)(Q:VK):Prop
 | mk (p r t:Addr) (a b c:Pt) (h_0:vs=[.ref p,.ref r,.ref t]) (h_1:H p=some (.tup [.int a.1,.int a.2])) (h_2:H r=some (.tup [.int b.1,.int b.2])) (h_3:H t=some (.tup [.int c.1,.int c.2])) (h_4:(-2 ^ 60≤b.1 - a.1∧b.1 - a.1≤2 ^ 60)) (h_5:(-2 ^ 60≤b.2 - a.2∧b.2 - a.2≤2 ^ 60)) (h_6:Q (.bl (trF a b c)) H):fF  vs H Q
def f_:Sp:=fun vs H Q _=>fF  vs H Q
theorem lQ (T:Tx K mg)(F:bu K "_law_turns_right" "_law_turns_right" dZ f fd .none):bA P w K mg base CX 1 f fd ["_law_one","_law_two","_law_three"] f_:=by
 refine F.ok gj (fun vs H Q E h =>?_) (fun O A outer s H vs Q E Y h =>?_)
 ·obtain⟨_,_,_,_,_,_,rfl,_⟩:=h;rfl
 obtain⟨p,r,t,a,b,c,rfl,G,B,J,b1,b2,U⟩:=h;refine⟨_,(ac (av (i:=3) gj (ai cQ (ai bM (au aw (pv 1) ae) (au aw (pv 0) ae)) (ai bM (au aw (pv 2) ae) (au aw (pv 1) ae)))) (ag (aA (dt kP (pv 3) (ai cQ (ai bM (au aw (pv 1) ae) (au aw (pv 0) ae)) (ai bM (au aw (pv 2) ae) (au aw (pv 1) ae))))))),?_⟩;refine⟨r,_,_,_,rfl,rfl,SqT.of B,rfl,p,_,_,_,rfl,rfl,SqT.of G,rfl,t,_,_,_,rfl,rfl,SqT.of J,rfl,r,_,_,_,rfl,rfl,SqT.of B,rfl,.inl ⟨by omega,by omega⟩,?_⟩;exact⟨r,_,_,_,rfl,rfl,SqT.of B,rfl,p,_,_,_,rfl,rfl,SqT.of G,rfl,t,_,_,_,rfl,rfl,SqT.of J,rfl,r,_,_,_,rfl,rfl,SqT.of B,rfl,.inl ⟨by lia,by lia⟩,U⟩
end
theorem yN {a:Pt}{B:Int}(h:B=0∨B=1):atI [V.int a.1,V.int a.2] B=some (V.int (if B=1 then a.2 else a.1)):=by
 rcases h with rfl|rfl<;>rfl
theorem EA {q:Sq}{B:Int}(h:B=0∨B=1):atI [V.int (q.x:Int),V.int (q.y:Int),V.int (q.w:Int)] B=some (V.int (if B=1 then (q.y:Int) else q.x)):=by
 rcases h with rfl|rfl<;>rfl
theorem Cj {q:Sq}{B:Int}(h:B=0∨B=1):atI [V.int (q.x:Int),V.int (q.y:Int),V.int (q.w:Int)] (1 - B)=some (V.int (if B=1 then (q.x:Int) else q.y)):=by
 rcases h with rfl|rfl<;>rfl
theorem E3 {G s e B:Int}{q:Sq}(J:G=0∨G=1)(h1:(if G=1 then (q.x:Int) else q.y)≤B)(h2:B < (if G=1 then (q.x:Int) else q.y) + q.w):ovl (decide (G=1)) s e B q=max 0 (min e ((if G=1 then (q.y:Int) else q.x) + q.w) - max s (if G=1 then (q.y:Int) else q.x)):=by
 unfold ovl;rcases J with rfl | rfl
 ·exact if_pos ⟨h1,h2⟩
 ·exact if_pos ⟨h1,h2⟩
section
variable {P:Program}{w:World}{K:PySem.W.Frag}{mg:Str→Option Value}{base:Heap}{CX:CXT}{f:Addr}{fd:FuncData}
abbrev jH:Stmt:=top 59
theorem dj:aE ["_law_land_here","_law_one","_law_other","_law_down","_law_line","_law_start","_law_end","_law_many","_law_square_here"] ["_law_land_here","_law_one","_law_other","_law_down","_law_line"] (aq jH):={}
inductive lA  (vs:List V)(H:Hp)(Q:VK):Prop
 | mk (l p r:Addr) (M:List Sq) (a b:Pt) (dn line:Int) (h_0:vs=[.ref l,.ref p,.ref r,.int dn,.int line]) (h_1:ra H l M) (h_2:H p=some (.tup [.int a.1,.int a.2])) (h_3:H r=some (.tup [.int b.1,.int b.2])) (h_4:(dn=0∨dn=1)) (h_5:Q (.int (alF M a b dn line)) H):lA  vs H Q
def mq:Sp:=fun vs H Q _=>lA  vs H Q
theorem tY (T:Tx K mg)(F:bu K "_law_along" "_law_along" jH f fd .none):bA P w K mg base CX 1 f fd ["_law_land_here","_law_one","_law_other","_law_down","_law_line"] mq:=by
 refine F.ok dj (fun vs H Q E h =>?_) (fun a0 A outer s H vs Q E hr h =>?_)
 ·obtain⟨_,_,_,_,_,_,_,_,rfl,_⟩:=h;rfl
 obtain⟨l,p,r,M,a,b,G,B,rfl,⟨us,hl,hM⟩,hp,hq,O,q'⟩:=h;refine⟨_,(ac (av (i:=5) dj (aB (fV rfl) rfl T.b_min lY (aa (au aw (pv 1) (pv 3)) (aa (au aw (pv 2) (pv 3)) af)))) (ac (av (i:=6) dj (aB (fW rfl) rfl T.b_max lZ (aa (au aw (pv 1) (pv 3)) (aa (au aw (pv 2) (pv 3)) af)))) (ac (av (i:=7) dj ae) (ac (aN HK rfl (bU (pv 0)) (aR (i:=8) dj) (ag (aQ (jK r6 eK (au aw (pv 8) (ai bM ae (pv 3))) (pv 4) (ai aI (au aw (pv 8) (ai bM ae (pv 3))) (au aw (pv 8) ae))) (ag (av (i:=7) dj (ai aI (pv 7) (aB (fW rfl) rfl T.b_max lZ (aa ae (aa (ai bM (aB (fV rfl) rfl T.b_min lY (aa (pv 6) (aa (ai aI (au aw (pv 8) (pv 3)) (au aw (pv 8) ae)) af))) (aB (fW rfl) rfl T.b_max lZ (aa (pv 5) (aa (au aw (pv 8) (pv 3)) af)))) af)))))) aG))) (ag (aA (pv 7))))))),?_⟩;refine⟨p,_,_,_,rfl,rfl,SqT.of hp,yN O,r,_,_,_,rfl,rfl,SqT.of hq,yN O,_,_,rfl,?_⟩;refine⟨p,_,_,_,rfl,rfl,SqT.of hp,yN O,r,_,_,_,rfl,rfl,SqT.of hq,yN O,_,_,rfl,?_⟩;obtain⟨s0,es⟩:∃ s0:Int,s0=(if G=1 then min a.2 b.2 else min a.1 b.1):=⟨_,rfl⟩;obtain⟨J,ee⟩:∃ J:Int,J=(if G=1 then max a.2 b.2 else max a.1 b.1):=⟨_,rfl⟩;have es':mn (if G=1 then a.2 else a.1) (if G=1 then b.2 else b.1)=s0:=by rw[ii,es];rcases O with rfl|rfl<;>rfl
 have ee':mx (if G=1 then a.2 else a.1) (if G=1 then b.2 else b.1)=J:=by rw[gD,ee];rcases O with rfl | rfl<;>rfl
 have st:∀ i,(M.take i).map (ovl (decide (G=1)) s0 J B)=(M.map (ovl (decide (G=1)) s0 J B)).take i:=fun i=>List.map_take;refine⟨l,rfl,⟨_,SqL.of hl⟩,cE (xs:=us) (fun (i:Nat) σ H1=>H1=H∧∃ (m:Int) (o8:Option V),m=((M.take i).map (ovl (decide (G=1)) s0 J B)).sum∧σ=[some (.ref l),some (.ref p),some (.ref r),some (.int G),some (.int B),some (.int s0),some (.int J),some (.int m),o8]) ⟨rfl,0,none,rfl,?_⟩ (fun i σ H1 _ h=>by rw[h.1];exact SqL.of hl) ?_ ?_⟩
 ·rw[← es',← ee'];rfl
 ·rintro i u σ H1 hu ⟨rfl,m,o8,rfl,rfl⟩;obtain⟨q,eq,x,rfl,Y⟩:=bJ hM hu;have et:M.take (i + 1)=M.take i++[q]:=by rw[Ic,eq];rfl
  rw[et,Im,List.sum_append];have dd:decide (G=1)=true↔G=1:=Io;have U:ovl (decide (G=1)) s0 J B q=0→H1=H1∧∃ (m':Int) (o8':Option V),m'=((M.take i).map (ovl (decide (G=1)) s0 J B)).sum + ([q].map (ovl (decide (G=1)) s0 J B)).sum∧[some (V.ref l),some (V.ref p),some (V.ref r),some (V.int G),some (V.int B),some (V.int s0),some (V.int J),some (V.int ((M.take i).map (ovl (decide (G=1)) s0 J B)).sum),some (V.ref x)]=[some (V.ref l),some (V.ref p),some (V.ref r),some (V.int G),some (V.int B),some (V.int s0),some (V.int J),some (V.int m'),o8']:=fun h=>⟨rfl,_,_,by rw[List.map_singleton,List.sum_singleton,h];simp,rfl⟩;refine⟨x,_,_,_,rfl,rfl,SqT.of Y,Cj O,_,rfl,aY (fun c1=>⟨x,_,_,_,rfl,rfl,SqT.of Y,Cj O,x,_,_,_,rfl,rfl,SqT.of Y,rfl,bE (bE (az (aY (fun c2 =>?_) (fun c2 =>?_))))⟩) (fun c1=>(az (aY (fun c=>absurd c (by decide)) (fun _ =>?_))))⟩
  ·have c1':=HG c1;have c2':=HG c2;refine⟨x,_,_,_,rfl,rfl,SqT.of Y,EA O,x,_,_,_,rfl,rfl,SqT.of Y,rfl,_,_,rfl,x,_,_,_,rfl,rfl,SqT.of Y,EA O,_,_,rfl,_,_,rfl,rfl,_,_,?_,rfl⟩;rw[List.map_singleton,List.sum_singleton]
   congr 1
   show mx 0 (mn J ((if G=1 then (q.y:Int) else q.x) + q.w) - mx s0 (if G=1 then (q.y:Int) else q.x))=_;rw[gD,gD,ii];exact (E3 O c1' c2').symm
  ·refine U ?_;unfold ovl;rw[if_neg];rintro⟨_,h⟩;refine c2 (Hr ?_);rcases O with rfl | rfl<;>exact h
  ·refine U ?_;unfold ovl;rw[if_neg];rintro⟨h,_⟩;refine c1 (Hr ?_);rcases O with rfl | rfl<;>exact h
 ·rintro σ H1 ⟨rfl,m,o8,rfl,rfl⟩;rw[HM (by rw[Paired.length hM];exact Ht _)];unfold alF at q';rw[← es,← ee]at q';exact q'
end
structure Ej (M:List Sq)(B:Int):Prop where
 nd:M.Nodup
 pos:∀ q∈M,0 < q.w
 apart:∀ q∈M,∀ r∈M,∀ x y,InS q x y→InS r x y→q=r
 fit:∀ q∈M,(q.x:Int) + q.w≤B∧(q.y:Int) + q.w≤B
theorem AR (h:Ej M B)(s:Seg (CM M) a b d):(0≤a.1∧a.1≤B∧0≤a.2∧a.2≤B)∧(0≤b.1∧b.1≤B∧0≤b.2∧b.2≤B):=by
 obtain⟨O,l,U,rfl,G⟩:=s;have at_:∀ p:Pt,cl (CM M) p d→(0≤p.1 + rtx d∧p.1 + rtx d < B∧0≤p.2 + rty d∧p.2 + rty d < B):=fun p Y=>by
  obtain⟨q,hq,i⟩:=Y;obtain⟨f1,f2⟩:=h.fit q hq;unfold InS at i
  lia
 have J:=at_ _ (G 0 U).1
 have h1:=at_ _ (G (l - 1) (by lia)).1
 rw[pC]at J;have e:go a l d=go (go a (l - 1) d) 1 d:=by rw[qL,show l - 1 + 1=l by lia]
 rw[e];generalize go a (l - 1) d=c at *;rcases du O with rfl | rfl | rfl | rfl<;>simp[go,ux,uy,rtx,rty]at J h1 ⊢<;>lia
theorem AQ (h:Seg C a b d):(decide (V.int a.1=V.int b.1)=decide (d % 2=1))∧(decide (V.int a.2=V.int b.2)=decide (d % 2=0)):=by
 have h2:=tj h;have J:d % 2=0∨d % 2=1:=by lia
 rcases J with q|q
 ·obtain⟨B,G⟩:=h2.1 q;refine⟨?_,?_⟩
  ·rw[Ih (fun e=>G (V.int.inj e).symm),Ih (by lia)]
  ·rw[Hr (by rw[B]),Hr q]
 ·obtain⟨B,G⟩:=h2.2 q;refine⟨?_,?_⟩
  ·rw[Hr (by rw[B]),Hr q]
  ·rw[Ih (fun e=>G (V.int.inj e).symm),Ih (by lia)]
section
variable {P:Program}{w:World}{K:PySem.W.Frag}{mg:Str→Option Value}{base:Heap}{CX:CXT}{f:Addr}{fd:FuncData}
abbrev fD:Stmt:=top 62
theorem bB:aE ["_law_land_here","_law_one","_law_two","_law_three","_law_upright","_law_down","_law_right_here","_law_left","_law_far","_law_ahead_here","_law_beside_it"] ["_law_land_here","_law_one","_law_two","_law_three"] (aq fD):={}
inductive gQ  (vs:List V)(H:Hp)(Q:VK):Prop
 | mk (l p r t:Addr) (M:List Sq) (B:Int) (a b c:Pt) (h_0:vs=[.ref l,.ref p,.ref r,.ref t]) (h_1:ra H l M) (h_2:Ej M B) (h_3:B≤2 ^ 50) (h_4:H p=some (.tup [.int a.1,.int a.2])) (h_5:H r=some (.tup [.int b.1,.int b.2])) (h_6:H t=some (.tup [.int c.1,.int c.2])) (h_7:Tri (CM M) a b c) (h_8:∀ H',ak H H'→Q (.bl true) H'):gQ  vs H Q
def ip:Sp:=fun vs H Q _=>gQ  vs H Q
theorem nM (T:Tx K mg)(q:bZ CX)(F:bu K "_law_way_right" "_law_way_right" fD f fd .none)(U:Fok P w K mg base CX 1 "_law_lines" ["_law_one","_law_other"] [] mo)(O:Fok P w K mg base CX 1 "_law_along" ["_law_land_here","_law_one","_law_other","_law_down","_law_line"] [] mq)(Y:Fok P w K mg base CX 1 "_law_ahead" ["_law_one","_law_other"] [] mr)(J:Fok P w K mg base CX 1 "_law_in_land" ["_law_land_here","_law_x","_law_y"] [] jz)(G:Fok P w K mg base CX 1 "_law_turns_right" ["_law_one","_law_two","_law_three"] [] f_):
  bA P w K mg base CX 2 f fd ["_law_land_here","_law_one","_law_two","_law_three"] ip:=by
 refine F.ok bB (fun vs H Q E h =>?_) (fun c7 A outer s H vs Q E hr h =>?_)
 ·obtain⟨_,_,_,_,_,_,_,_,_,rfl,_⟩:=h;rfl
 obtain⟨l,p,r,t,M,B,a,b,c,rfl,hl,ok,hB,hp,hq,ht,⟨d,e,s1,s2,tn,ne,e4⟩,q'⟩:=h;refine⟨_,(ac (av (i:=4) bB (dt dS (au aw (pv 1) ae) (au aw (pv 2) ae))) (ac (aQ (PW.pt (kN (aF dS (pv 4) (dt dS (au aw (pv 1) ae) (au aw (pv 2) ae))) (hV (aF dS (pv 4) (dt dS (au aw (pv 2) ae) (au aw (pv 3) ae)))))) (ag (aA dC)) aG) (ac (xg (aj U q hr (aa (pv 1) (aa (pv 2) af))) (iV rfl (aV (aR (i:=5) bB) (aV (aR (i:=6) bB) (aV (aR (i:=7) bB) d8))))) (ac (av (i:=8) bB (ai aI (aB wy rfl T.b_abs Cy (aa (ai bM (au aw (pv 1) ae) (au aw (pv 2) ae)) af)) (aB wy rfl T.b_abs Cy (aa (ai bM (au aw (pv 1) ae) (au aw (pv 2) ae)) af)))) (ac (aQ (aF vF (aj O q hr (aa (pv 0) (aa (pv 1) (aa (pv 2) (aa (pv 5) (aa (pv 6) af)))))) (pv 8)) (ag (aA dC)) aG) (ac (aQ (aF vF (aj O q hr (aa (pv 0) (aa (pv 1) (aa (pv 2) (aa (pv 5) (aa (pv 7) af)))))) ae) (ag (aA dC)) aG) (ac (xg (aj Y q hr (aa (pv 1) (aa (pv 2) af))) (iV rfl (aV (aR (i:=9) bB) (aV (aR (i:=10) bB) d8)))) (ac (aQ (cH (cG (aj J q hr (aa (pv 0) (aa (au aw (pv 9) ae) (aa (au aw (pv 9) ae) af)))))) (ag (aA (aj G q hr (aa (pv 1) (aa (pv 2) (aa (pv 3) af)))))) aG) (ag (aA (xj (aj J q hr (aa (pv 0) (aa (au aw (pv 10) ae) (aa (au aw (pv 10) ae) af)))) (xh (Bs (aj G q hr (aa (pv 1) (aa (pv 2) (aa (pv 3) af))))))))))))))))),?_⟩;have u1:=AQ s1;have u2:=AQ s2;have a2:=uZ s1.1 tn ne;have d4:=s1.1;have pe:e % 2=0↔d % 2=1:=by rcases a2 with⟨h,_⟩|⟨h,_⟩<;>rw[h]<;>omega
 obtain⟨b2,b3,ldn⟩:=zx ok.nd ok.pos ok.apart s1;obtain⟨b4,b5⟩:=zy s1;obtain⟨b6,b7⟩:=zd s1 s2;obtain⟨i1,i2⟩:=AR ok s1;refine⟨p,_,_,_,rfl,rfl,SqT.of hp,rfl,r,_,_,_,rfl,rfl,SqT.of hq,rfl,rfl,?_⟩;have n1:¬ decide (V.bl (decide (V.int a.1=V.int b.1))=V.bl (decide (V.int a.2=V.int b.2)))=true:=fun h=>by
  have h':=V.bl.inj (HG h);rw[u1.1,u1.2,ID,Io,Io]at h';omega
 have n2:¬ decide (V.bl (decide (V.int a.1=V.int b.1))=V.bl (decide (V.int b.1=V.int c.1)))=true:=fun h=>by
  have h':=V.bl.inj (HG h);rw[u1.1,u2.1,ID,Io,Io]at h'
  lia
 refine⟨p,_,_,_,rfl,rfl,SqT.of hp,rfl,r,_,_,_,rfl,rfl,SqT.of hq,rfl,rfl,rfl,az (aY (fun c1=>absurd c1 n1) (fun c1=>⟨r,_,_,_,rfl,rfl,SqT.of hq,rfl,t,_,_,_,rfl,rfl,SqT.of ht,rfl,rfl,rfl,az (aY (fun c2=>absurd c2 n2) (fun c2 =>?_))⟩))⟩;refine⟨p,r,a,b,rfl,hp,hq,fun tl H1 x1 w1 =>?_⟩;have a0:=x1 _ _ hp;have a1:=x1 _ _ hq;have b8:=x1 _ _ ht;have a3:=hl.up x1;refine⟨tl,_,rfl,SqT.of w1,rfl,_,_,rfl,_,_,rfl,_,_,rfl,rfl,?_⟩;generalize lnF a b=ln at *;refine⟨p,_,_,_,rfl,rfl,SqT.of a0,rfl,r,_,_,_,rfl,rfl,SqT.of a1,rfl,_,rfl,?_⟩;refine⟨p,_,_,_,rfl,rfl,SqT.of a0,rfl,r,_,_,_,rfl,rfl,SqT.of a1,rfl,_,rfl,bE ?_⟩;have b9:(if a.1 - b.1 < 0 then -(a.1 - b.1) else a.1 - b.1) + (if a.2 - b.2 < 0 then -(a.2 - b.2) else a.2 - b.2)=(max (a.1 - b.1) (b.1 - a.1)) + (max (a.2 - b.2) (b.2 - a.2)):=by
  split<;>split<;>omega
 refine⟨l,p,r,M,a,b,ln.1,ln.2.1,rfl,a3,a0,a1,ldn,rfl,az (aY (fun c3=>absurd (show (!decide (V.int (alF M a b ln.1 ln.2.1)=V.int ((if a.1 - b.1 < 0 then -(a.1 - b.1) else a.1 - b.1) + (if a.2 - b.2 < 0 then -(a.2 - b.2) else a.2 - b.2))))=true from c3) (by rw[b9,b2,Hr rfl];decide)) (fun c3 =>?_))⟩;refine⟨l,p,r,M,a,b,ln.1,ln.2.2,rfl,a3,a0,a1,ldn,rfl,az (aY (fun c4=>absurd (show (!decide (V.int (alF M a b ln.1 ln.2.2)=V.int 0))=true from c4) (by rw[b3,Hr rfl];decide)) (fun c4 =>?_))⟩;refine⟨p,r,a,b,rfl,a0,a1,fun ta p1 p2 H2 x2 wa a5 a6 =>?_⟩;have a7:=x2 _ _ a0;have a8:=x2 _ _ a1;have a9:=x2 _ _ b8;have b0:=a3.up x2;refine⟨ta,_,rfl,SqT.of wa,rfl,_,_,rfl,_,_,rfl,rfl,?_⟩;have fin:H2=H2→Q (.bl true) H2:=fun _=>q' H2 (x1.trans x2);refine⟨p1,_,_,_,rfl,rfl,SqT.of a5,rfl,p1,_,_,_,rfl,rfl,SqT.of a5,rfl,l,M,_,_,rfl,b0,fun v1 a4 =>?_⟩;rw[b4]at a4;have bd:(-2 ^ 60≤b.1 - a.1∧b.1 - a.1≤2 ^ 60)∧(-2 ^ 60≤b.2 - a.2∧b.2 - a.2≤2 ^ 60):=by lia
 refine (az (aY (fun c5 =>?_) (fun c5 =>?_)))
 ·have nv:¬ cl (CM M) b d:=fun h=>by
   rw[a4.mpr h]at c5;cases c5
  have ee:e=(d + 1) % 4:=by
   rcases a2 with⟨h,_⟩|⟨_,h,_⟩
   ·exact h
   ·exact absurd h nv
  refine⟨p,r,t,a,b,c,rfl,a7,a8,a9,bd.1,bd.2,?_⟩;rw[b6 ee];exact fin rfl
 ·have c0:v1=true:=by
   cases v1 with
   | true=>rfl
   | false=>exact absurd rfl c5
  have yv:=a4.mp c0;obtain⟨ee,_,c3⟩:e=(d + 3) % 4∧cl (CM M) b d∧cl (CM M) b ((d + 3) % 4):=by
   rcases a2 with⟨_,h⟩|h
   ·exact absurd yv h
   ·exact h
  refine⟨p2,_,_,_,rfl,rfl,SqT.of a6,rfl,p2,_,_,_,rfl,rfl,SqT.of a6,rfl,l,M,_,_,rfl,b0,fun v2 b1 =>?_⟩;rw[b5]at b1;have c6:v2=true:=b1.mpr c3;subst c6;refine⟨true,rfl,aY (fun _=>⟨p,r,t,a,b,c,rfl,a7,a8,a9,bd.1,bd.2,?_⟩) (fun c=>absurd rfl c)⟩;rw[b7 ee];exact⟨_,rfl,fin rfl⟩
end
section
variable {P:Program}{w:World}{K:PySem.W.Frag}{mg:Str→Option Value}{base:Heap}{CX:CXT}{f:Addr}{fd:FuncData}
abbrev g7:Stmt:=top 63
theorem gm:aE ["_law_ring","_law_point","_law_number"] ["_law_ring"] (aq g7):={}
inductive jo  (vs:List V)(H:Hp)(Q:VK):Prop
 | mk (l:Addr) (us:List V) (ps:List Pt) (h_0:vs=[.ref l]) (h_1:H l=some (.lst us)) (h_2:jW H us ps) (h_3:4≤us.length) (h_4:Q (.bl true) H):jo  vs H Q
def jy:Sp:=fun vs H Q _=>jo  vs H Q
theorem qy (T:Tx K mg)(F:bu K "_law_is_ring" "_law_is_ring" g7 f fd .none):bA P w K mg base CX 1 f fd ["_law_ring"] jy:=by
 refine F.ok gm (fun vs H Q E h =>?_) (fun Y A outer s H vs Q E hr h =>?_)
 ·obtain⟨_,_,_,rfl,_⟩:=h;rfl
 obtain⟨l,us,ps,rfl,G,hP,h4,q'⟩:=h;refine⟨_,(ac (aQ (PW.pt (kN (cH (cG (aB (bW "list") rfl T.b_isinstance aU (aa (pv 0) (aa (d9 T.b_list yX) af))))) (hV (aF eK (aB bC rfl T.b_len cR (aa (pv 0) af)) ae)))) (ag (aA dC)) aG) (ac (aN HK rfl (bU (pv 0)) (aR (i:=1) gm) (ac (aQ (PW.pt (kN (cH (cG (aB (bW "tuple") rfl T.b_isinstance aU (aa (pv 1) (aa (d9 T.b_tuple gI) af))))) (hV (aF vF (aB bC rfl T.b_len cR (aa (pv 1) af)) ae)))) (ag (aA dC)) aG) (ag (aN HK rfl (tJ (pv 1)) (aR (i:=2) gm) (ag (aQ (PW.pt (kN (cH (cG (aB (bW "int") rfl T.b_isinstance aU (aa (pv 2) (aa (d9 T.b_int eA) af))))) (hV (cG (aB (bW "bool") rfl T.b_isinstance aU (aa (pv 2) (aa (d9 T.b_bool yZ) af))))))) (ag (aA dC)) aG)))))) (ag (aA dC)))),?_⟩
 refine⟨_,_,_,rfl,.lst G,BY,az (aY (fun c=>absurd c (by decide)) (fun _ =>?_))⟩;refine⟨_,_,rfl,.inl ⟨_,SqL.of G,rfl⟩,bE (az (aY (fun c =>?_) (fun _ =>?_)))⟩
 ·have:=HG c
  omega
 refine⟨l,rfl,⟨_,SqL.of G⟩,cE (xs:=us) (fun (i:Nat) σ H1=>H1=H∧∃ O B:Option V,σ=[some (.ref l),O,B]) ⟨rfl,_,_,rfl⟩ (fun i σ H1 _ h=>by rw[h.1];exact SqL.of G) ?_ ?_⟩
 ·rintro i u σ H1 hu ⟨rfl,O,B,rfl⟩;obtain⟨p,ep,a,rfl,J⟩:=bJ hP hu;refine⟨_,_,_,rfl,.tup J,lU,az (aY (fun c=>absurd c (by decide)) (fun _ =>?_))⟩;refine⟨_,_,rfl,.inr ⟨_,SqT.of J,rfl⟩,rfl,az (aY (fun c=>absurd c (by show ¬ (!decide (V.int 2=V.int 2))=true;decide)) (fun _ =>?_))⟩;refine⟨a,rfl,⟨_,SqT.of J⟩,pF (xs:=[.int p.1,.int p.2]) (fun (j:Nat) σ H2=>H2=H1∧∃ B:Option V,σ=[some (.ref l),some (.ref a),B]) ⟨rfl,_,rfl⟩ (fun j σ H2 _ h=>by rw[h.1];exact SqT.of J) ?_ ?_⟩
  ·rintro j x σ H2 U ⟨rfl,B,rfl⟩;obtain⟨k,rfl⟩:∃ k,x=V.int k:=by
    rcases j with _|_|j
    ·exact⟨_,(Option.some.inj U).symm⟩
    ·exact⟨_,(Option.some.inj U).symm⟩
    ·exact absurd U (by simp)
   refine⟨_,_,_,rfl,.int k,BZ,az (aY (fun c=>absurd c (by decide)) (fun _=>⟨_,_,_,rfl,.int k,B0,az (aY (fun c=>absurd c (by decide)) (fun _=>⟨rfl,_,rfl⟩))⟩))⟩
  ·rintro σ H2 ⟨rfl,B,rfl⟩;exact⟨rfl,_,_,rfl⟩
 ·rintro σ H1 ⟨rfl,O,B,rfl⟩;exact q'
end
theorem DB (O:L.Pairwise fS)(hw:∀ q∈L,0 < q.w)(C:cK L A zs)(G:q∈L)(J:r∈L)(U:q.c=r.c)(B:bp q r=true):r.z∈A q.z:=by
 obtain⟨i,hi⟩:=IS G;obtain⟨j,hj⟩:=IS J;have Y:∀ {a b:Sq},a∈L→b∈L→a.c=b.c→gE (cM L) (a.z,b.z)=true:=fun {a b} ha hb e=>by
  unfold gE;rw[cj O ha,cj O hb,e];exact Hr rfl
 refine (C.near q.z r.z).mpr ?_;rcases Kw i j with h | h | h
 ·exact⟨(q.z,r.z),mT hi hj h B,Y G J U,.inl ⟨rfl,rfl⟩⟩
 ·rw[h,hj]at hi;cases hi;rw[eQ]at B
  have:=hw q G
  unfold ie mn mx at B
  repeat' split at B
  all_goals lia
 ·exact⟨(r.z,q.z),mT hj hi h (by rw[nq];exact B),Y J G U.symm,.inr ⟨rfl,rfl⟩⟩
theorem dW {p:Sq→Bool}{l:List Sq}{i:Nat}{q:Sq}(h:l[i]? = some q):(l.take (i + 1)).filter p=(l.take i).filter p++if p q then [q] else []:=by
 rw[Ic,h,Je];cases hp:p q<;>simp[hp]
structure Fld (L:List Sq)(q0:Sq)(M:List Sq):Prop where
 nd:M.Nodup
 first:q0∈M
 sub:∀ q∈M,q∈L∧q.c=q0.c
 closed:∀ q∈M,∀ r∈L,r.c=q0.c→bp q r=true→r∈M
 reach:∀ S:Sq→Prop,S q0→(∀ x∈L,∀ y∈L,x.c=y.c→S x→bp x y=true→S y)→∀ q∈M,S q
structure rN (L:List Sq)(q0:Sq)(i:Nat)(M R:List Sq):Prop where
 perm:(M++R).Perm (L.filter fun q=>decide (q.c=q0.c))
 first:q0∈M
 done:∀ j < i,∀ q,M[j]? = some q→∀ r∈R,¬ bp q r=true
 reach:∀ S:Sq→Prop,S q0→(∀ x∈L,∀ y∈L,x.c=y.c→S x→bp x y=true→S y)→∀ q∈M,S q
theorem rN.mem {L M R:List Sq}{q0:Sq}{i:Nat}(h:rN L q0 i M R){q:Sq}:(q∈M∨q∈R)↔(q∈L∧q.c=q0.c):=by
 rw[← HD,h.perm.mem_iff,Ip,Io]
theorem rN.step {L M R:List Sq}{q0 q:Sq}{i:Nat}(h:rN L q0 i M R)(J:M[i]? = some q):rN L q0 (i + 1) (M++R.filter (bp q)) (R.filter fun r => !bp q r):=by
 have G:=HH J;have hi:=(Hx.mp J).1;refine⟨?_,Iv _ h.first,fun j hj p B r Y =>?_,fun S U O p B =>?_⟩
 ·rw[HW];exact ((List.filter_append_perm (bp q) R).append_left M).trans h.perm
 ·obtain⟨r1,r2⟩:=Ip.mp Y;rw[Iq (by lia)]at B;rcases Jj j i with c|c
  ·exact h.done j c p B r r1
  ·have:j=i:=by lia
   subst this;rw[J]at B;cases B;simpa using r2
 ·rcases HD.mp B with B|B
  ·exact h.reach S U O p B
  ·obtain⟨p1,p2⟩:=Ip.mp B;obtain⟨a1,a2⟩:=h.mem.mp (.inl G);obtain⟨b1,b2⟩:=h.mem.mp (.inr p1);exact O q a1 p b1 (a2.trans b2.symm) (h.reach S U O q G) p2
theorem rN.fin {L M R:List Sq}{q0:Sq}{i:Nat}(h:rN L q0 i M R)(nd:L.Nodup)(hi:M.length≤i):Fld L q0 M:=by
 have G:=h.perm.nodup_iff.mpr (nd.filter _);refine⟨(JL.mp G).1,h.first,fun q B=>h.mem.mp (.inl B),fun q B r J O U =>?_,h.reach⟩;rcases h.mem.mpr ⟨J,O⟩ with c | c
 ·exact c
 ·obtain⟨j,hj⟩:=IS B;exact absurd U (h.done j (by have:=(Hx.mp hj).1;lia) q hj r c)
theorem B_ {L M:List Sq}{q0:Sq}(F:Fld L q0 M)(hw:∀ q∈L,0 < q.w)(h0:q0∈L){A:List Nat→List (List Nat)}{zs:List (List Nat)}(C:cK L A zs):∀ q,q∈M↔q∈dD L A q0.z:=by
 have G:=C.hB;have z0:q0.z∈zs:=by rw[C.ez];exact Hz.mpr ⟨q0,h0,rfl⟩
 have B:∀ q,q∈dD L A q0.z↔q∈L∧q.z∈(nQ A q0.z).map (·.1):=fun q=>vT C h0 q;intro q;constructor
 ·refine F.reach (fun q=>q∈dD L A q0.z) ((B q0).mpr ⟨h0,C.first z0⟩) (fun x hx y O hc hS ht =>?_) q;obtain⟨_,h2⟩:=(B x).mp hS;obtain⟨m,hm,em⟩:=Hz.mp h2;exact (B y).mpr ⟨O,C.closed z0 m hm y.z (by rw[em];exact DB G hw C hx O hc ht)⟩
 ·intro hq;obtain⟨h1,h2⟩:=(B q).mp hq;obtain⟨m,hm,em⟩:=Hz.mp h2
  have:=C.reach z0 (fun z=>∀ r∈L,r.z=z→r∈M) (fun r J e=>by rw[rO G J h0 e];exact F.first) (fun z y hS O r J e =>?_) m hm
  ·exact this q h1 em.symm
  ·obtain⟨d,hd,_,h⟩:=(C.near z y).mp O;obtain⟨q2,U,r2,Y,rfl,tt⟩:=kw hd;have key:∀ p∈L,p.z=z→bp p r=true→r∈M:=fun p hp ep ht=>by
    have a0:=hS p hp ep;refine F.closed p a0 r J ?_ ht;have a1:=C.col O;rw[← ep,← e,cj G J,cj G hp]at a1;rw[V.int.inj (Option.some.inj a1),(F.sub p a0).2]
   rcases h with⟨e3,e4⟩|⟨e3,e4⟩
   ·exact key q2 U e3.symm (by rw[rO G J Y (e.trans e4)];exact tt)
   ·exact key r2 Y e3.symm (by rw[rO G J U (e.trans e4),nq];exact tt)
theorem Ep (gt:aP n t)(U:q∈sqs [] t 0 0 n)(G:dig z=q.z):z.length≤n∧((sqX n (dig z):Nat):Int)=(q.x:Int)∧((sqY n (dig z):Nat):Int)=(q.y:Int)∧((2 ^ (n - z.length):Nat):Int)=(q.w:Int):=by
 obtain⟨w0,J,h4,_,B,ex,Y,ew⟩:=fY t [] 0 0 n gt q U;rw[IV]at J;subst J;have O:z.length=q.z.length:=by rw[← cF,G]
 refine⟨by rw[O];exact B,?_,?_,?_⟩
 ·rw[G,x9 _ _ B,ex,Jb]
 ·rw[G,x8 _ _ B,Y,Jb]
 ·rw[O,ew]
theorem CU (q r:Sq):PyData.eqv (.tuple [.int q.x,.int q.y,.int q.w]) (.tuple [.int r.x,.int r.y,.int r.w])=decide (q.x=r.x∧q.y=r.y∧q.w=r.w):=by
 rw[ID];simp[PyData.eqv,PyData.eqvAll]
 lia
theorem bz.get' {H:Hp}{n:Nat}{us:List V}{L:List Sq}(h:bz H n us (L.map fun q=>(q.z,q.c))){i:Nat}{u:V}(G:us[i]? = some u):∃ q,L[i]? = some q∧PaV H n u (q.z,q.c):=by
 obtain⟨p,B,k⟩:=h.get G;rw[Ir]at B;obtain⟨q,J,rfl⟩:=Iw.mp B;exact⟨q,J,k⟩
section
variable {P:Program}{w:World}{K:PySem.W.Frag}{mg:Str→Option Value}{base:Heap}{CX:CXT}{f:Addr}{fd:FuncData}
abbrev lH:Stmt:=top 56
theorem cC:aE ["_law_told","_law_level","_law_start","_law_squares","_law_land_here","_law_rest","_law_at_here","_law_later","_law_square_here"] ["_law_told","_law_level","_law_start"] (aq lH):={}
inductive m9  (vs:List V)(H:Hp)(Q:VK):Prop
 | mk (lt ps:Addr) (us:List V) (z:Str) (n:Nat) (t:Tr) (L:List Sq) (q0:Sq) (h_0:vs=[.ref lt,.int (n:Int),.ref ps]) (h_1:H lt=some (.lst us)) (h_2:bz H n us (L.map fun q=>(q.z,q.c))) (h_3:H ps=some (.tup [.str z,.int q0.c])) (h_4:IsC z) (h_5:dig z=q0.z) (h_6:L=sqs [] t 0 0 n) (h_7:aP n t) (h_8:n≤40) (h_9:L.length≤1500) (h_10:q0∈L) (h_11:∀ l M H',ak H H'→ra H' l M→Fld L q0 M→Q (.ref l) H'):m9  vs H Q
def n9:Sp:=fun vs H Q _=>m9  vs H Q
theorem vH (T:Tx K mg)(q:bZ CX)(F:bu K "_law_land" "_law_land" lH f fd .none)(G:Fok P w K mg base CX 1 "_law_square" ["_law_code_here","_law_level"] [] gT)(Y:Fok P w K mg base CX 1 "_law_met" ["_law_one","_law_two"] [] pY):
  bA P w K mg base CX 2 f fd ["_law_told","_law_level","_law_start"] n9:=by
 refine F.ok cC (fun vs H Q E h =>?_) (fun i1 A outer s H vs Q E hr h =>?_)
 ·obtain⟨_,_,_,_,_,_,_,_,rfl,_⟩:=h;rfl
 obtain⟨lt,ps,us,z0,n,t,L,q0,rfl,e5,e6,e7,g0,g1,eL,gt,hn,lL,a9,q'⟩:=h;refine⟨_,(ac (vq (i0:=3) (N':=["_law_code_here","_law_colour_here","_law_level","_law_start"]) ["_law_start","_law_level"] ["_law_level","_law_start"] [1,2] 2 {} (bU (pv 0)) (fun _ _ _ _ _=>(tK (K:=K) (n:=2) rfl (aV (jM (i:=0)) (aV (jM (i:=1)) d8)))) (fun _ _ _ _ _=>(aF dS (pv 1) (au (kq (K:=K)) (pv 3) ae))) (fun _ _ _ _ _=>(aj G q hr (aa (pv 0) (aa (pv 2) af)))) cC.nd rfl (Or.inl rfl)) (ac (xf (i:=4) cC.nd rfl (Or.inr rfl) (aK (ap (aj G q hr (aa (au aw (pv 2) ae) (aa (pv 1) af))) am))) (ac (vq (i0:=5) (N':=["_law_square_here","_law_land_here"]) ["_law_land_here"] ["_law_land_here"] [4] 1 {} (bU (pv 3)) (fun _ _ _ _ _=>(jM (i:=0))) (fun _ _ _ _ _=>(aF (xk hr) (pv 0) (au (mJ (K:=K)) (pv 1) ae))) (fun _ _ _ _ _=>(pv 0)) cC.nd rfl (Or.inl rfl)) (ac (av (i:=6) cC ae) (ac (jL HK (aF eK (pv 6) (aB bC rfl T.b_len cR (aa (pv 4) af))) (ac (av (i:=7) cC (aK am)) (ac (aN HK rfl (bU (pv 5)) (aR (i:=8) cC) (ag (aQ (aF kP (aj Y q hr (aa (au bj (pv 4) (pv 6)) (aa (pv 8) af))) ae) (ag (aW (a_ (pv 4) (aa (pv 8) af)))) (ag (aW (a_ (pv 7) (aa (pv 8) af))))))) (ac (av (i:=5) cC (pv 7)) (ag (av (i:=6) cC (ai aI (pv 6) ae))))))) (ag (aA (pv 4)))))))),?_⟩
 have hB:L.Pairwise fS:=by rw[eL];exact dG t [] 0 0 n gt
 have hw:∀ r∈L,0 < r.w:=fun r h=>by rw[eL]at h;exact (fZ t [] 0 0 n gt r h).2.2.2.2
 have g2:=e6.len;rw[Hw]at g2;have at_:∀ r∈L,∀ {z:Str},dig z=r.z→z.length≤n∧((sqX n (dig z):Nat):Int)=(r.x:Int)∧((sqY n (dig z):Nat):Int)=(r.y:Int)∧((2 ^ (n - z.length):Nat):Int)=(r.w:Int):=fun r h z e=>by rw[eL]at h;exact Ep gt h e
 refine⟨[.int (n:Int),.ref ps],rfl,lt,rfl,⟨_,SqL.of e5⟩,jV us (fun D (i:Nat) ys H'=>ak H H'∧H' D=some (.lst ys)∧ys.length≤i∧Paired (oM H') ys ((L.take i).filter fun r=>decide (r.c=q0.c))) (big (by lia)) (fun D i ys H' h=>SqL.of (h.1 _ _ e5)) (fun D i ys H' h=>⟨h.2.1,h.2.2.1⟩) (fun D hD=>⟨ak.new hD _,ah,Ht _,by exact .nil⟩) ?_ ?_ ?_ ?_ ?_⟩
 ·rintro D i u ys H1 hu hD ⟨c1,c2,c3,c4⟩;obtain⟨r,O,p,z,rfl,hp,hC,ez,_⟩:=e6.get' hu;have b0:=HH O;obtain⟨a1,a2,a3,a4⟩:=at_ r b0 ez
  refine⟨p,_,rfl,SqT.of (c1 _ _ hp),rfl,_,_,rfl,_,_,rfl,rfl,?_⟩;refine⟨rfl,ps,_,_,_,rfl,rfl,SqT.of (c1 _ _ e7),rfl,rfl,az (aY (fun c =>?_) (fun c =>?_))⟩
  ·have c':r.c=q0.c:=V.int.inj (HG c);refine⟨z,n,rfl,hC,a1,hn,fun pa H2 s2 c0 =>?_⟩;rw[a2,a3,a4]at c0;have u2:=s2 _ _ c2;have t3:bS H2 (upd H2 D (.lst (ys++[.ref pa]))):=cZ u2 (by intro xs q;cases q);refine⟨u2,ak.set (c1.trans s2) hD _,ah,by rw[Hs];show ys.length + 1≤i + 1;lia,?_⟩;rw[dW O,Hr c'];exact cI (Paired.mapP c4 fun _ _ h=>h.up (s2.tups.trans t3)) (.cons ⟨pa,rfl,t3 _ _ c0⟩ .nil)
  ·have c':¬ r.c=q0.c:=fun k=>c (Hr (Ij V.int k));refine⟨c1,c2,by lia,?_⟩;rw[dW O,Ih c',if_neg (by decide),II];exact c4
 rotate_left
 ·rintro x σ H' R R' k ⟨b1,b2,b3,b4,b5,b6,b7,b8,b9,c5,a5,a6,h⟩;exact⟨b1,b2,b3,b4,b5,b6,b7,b8,b9,c5,a5,a6,k _ _ h⟩
 ·intro σ H' R R' k J;obtain⟨_,b2,J⟩:=aM J;obtain⟨_,b4,J⟩:=aM J;obtain⟨z,m,b5,b6,b7,b8,h⟩:=J;exact (bc b2 (bc b4 ⟨z,m,b5,b6,b7,b8,fun p H2 s2 hp=>k _ _ (h p H2 s2 hp)⟩))
 ·intro σ H' R R' k J;obtain⟨_,b2,J⟩:=aM J;obtain⟨_,b4,J⟩:=aM J;obtain⟨b5,b6,b7,b8,b9,c5,a5,a6,d2,J⟩:=J;obtain⟨_,d3,h⟩:=ff J;exact (bc b2 (bc b4 ⟨b5,b6,b7,b8,b9,c5,a5,a6,d2,lS d3 (k _ _ h)⟩))
 rintro D1 e8 H1 i2 ⟨s1,u1,l1,p1⟩;rw[HM (by lia)]at p1;obtain⟨B,eB⟩:∃ B,B=L.filter fun r=>decide (r.c=q0.c):=⟨_,rfl⟩;rw[← eB]at p1;have d4:∀ r,r∈B↔r∈L∧r.c=q0.c:=fun r=>by rw[eB,Ip,Io]
 have lB:B.length≤L.length:=by rw[eB];exact IL _ _
 have i3:=Paired.length p1;obtain⟨a1,a2,a3,a4⟩:=at_ q0 a9 g1
 refine⟨ps,_,_,_,rfl,rfl,SqT.of (s1 _ _ e7),rfl,z0,n,rfl,g0,a1,hn,fun pa H2 s2 c0=>⟨(leZ rfl),fun la e9 =>?_⟩⟩;rw[a2,a3,a4]at c0;have s3:=ak.new e9 (.lst [.ref pa]);have u3:upd H2 la (.lst [.ref pa]) la=some (.lst [.ref pa]):=ah;generalize upd H2 la (.lst [.ref pa])=H3 at *;have c9:=s2.trans s3;have f0:=c9 _ _ u1;have g3:Paired (oM H3) e8 B:=Paired.mapP p1 fun _ _ h=>h.up c9.tups;have d1:=s3 _ _ c0;refine⟨[.ref la],rfl,D1,rfl,⟨_,SqL.of f0⟩,jV e8 (fun D (i:Nat) ys H'=>ak H3 H'∧H' D=some (.lst ys)∧ys.length≤i∧Paired (oM H') ys ((B.take i).filter fun r=>decide (r.z≠q0.z))) (big (by lia)) (fun D i ys H' h=>SqL.of (h.1 _ _ f0)) (fun D i ys H' h=>⟨h.2.1,h.2.2.1⟩) (fun D hD=>⟨ak.new hD _,ah,Ht _,by exact .nil⟩) ?_ ?_ (fun _ _ _ _ _ k h=>k _ _ h) ?_ ?_⟩
 ·rintro D i u ys H4 hu hD ⟨c1,c2,c3,c4⟩;obtain⟨r,O,p,rfl,hp⟩:=bJ g3 hu;have g4:=HH O;have b0:=((d4 r).mp g4).1;refine⟨rfl,la,_,_,_,rfl,rfl,SqL.of (c1 _ _ u3),rfl,_,_,.tup (c1 _ _ hp) (.cons (.int _) (.cons (.int _) (.cons (.int _) .nil))),.tup (c1 _ _ d1) (.cons (.int _) (.cons (.int _) (.cons (.int _) .nil))),rfl,rfl,?_⟩;have ez:PyData.eqv (.tuple [.int r.x,.int r.y,.int r.w]) (.tuple [.int q0.x,.int q0.y,.int q0.w])=decide (r.z=q0.z):=by
   rw[CU,ID,Io,Io];constructor
   ·rintro⟨e1,e2,e3⟩
    have:=hw r b0
    rcases kD hB b0 a9 with e|e|e
    ·rw[e]
    ·unfold Sep at e
     lia
    ·unfold Sep at e
     lia
   ·intro e;rw[rO hB b0 a9 e];exact⟨rfl,rfl,rfl⟩
  refine (az (aY (fun c =>?_) (fun c =>?_)))
  ·have c':(!PyData.eqv (.tuple [.int r.x,.int r.y,.int r.w]) (.tuple [.int q0.x,.int q0.y,.int q0.w]))=true:=c;rw[ez]at c';have n1:r.z≠q0.z:=by simpa using c'
   have t3:bS H4 (upd H4 D (.lst (ys++[.ref p]))):=cZ c2 (by intro xs q;cases q);refine⟨c2,ak.set c1 hD _,ah,by rw[Hs];show ys.length + 1≤i + 1;lia,?_⟩;rw[dW O,Hr n1];exact cI (Paired.mapP c4 fun _ _ h=>h.up t3) (.cons ⟨p,rfl,t3 _ _ (c1 _ _ hp)⟩ .nil)
  ·have c':¬ (!PyData.eqv (.tuple [.int r.x,.int r.y,.int r.w]) (.tuple [.int q0.x,.int q0.y,.int q0.w]))=true:=c;rw[ez]at c';have n1:¬ r.z≠q0.z:=by simpa using c'
   refine⟨c1,c2,by lia,?_⟩;rw[dW O,Ih n1,if_neg (by decide),II];exact c4
 rotate_left
 ·intro σ H' R R' k J;obtain⟨_,b2,h⟩:=aM J;exact (bc b2 (k _ _ h))
 ·intro σ H' R R' k J;obtain⟨_,b2,J⟩:=aM J;obtain⟨_,b4,J⟩:=aM J;obtain⟨b5,b6,b7,b8,b9,c5,a5,a6,d2,d5,d3,g5,g6,g7,J⟩:=J;obtain⟨_,g8,h⟩:=ff J;exact (bc b2 (bc b4 ⟨b5,b6,b7,b8,b9,c5,a5,a6,d2,d5,d3,g5,g6,g7,lS g8 (k _ _ h)⟩))
 rintro D3 g9 H4 d6 ⟨s4,u4,l4,p4⟩;rw[HM (by lia)]at p4;obtain⟨R0,eR⟩:∃ R0,R0=B.filter fun r=>decide (r.z≠q0.z):=⟨_,rfl⟩;rw[← eR]at p4;have h3:H la=none:=(s1.trans s2).free e9;have nd:L.Nodup:=by
  have:=sN hB
  exact List.Pairwise.imp (fun h e=>h (Ij _ e)) (IG.mp this)
 have w0:rN L q0 0 [q0] R0:=by
  refine⟨?_,Hv.mpr rfl,fun j hj=>absurd hj (JV _),fun S h0 _ q hq=>by rw[Hv.mp hq];exact h0⟩;rw[← eB];refine (List.perm_ext_iff_of_nodup ?_ (by rw[eB];exact nd.filter _)).mpr fun r =>?_
  ·refine IZ.mpr ⟨fun h =>?_,by rw[eR,eB];exact (nd.filter _).filter _⟩;rw[eR]at h
   have:=(Ip.mp h).2
   simp at this
  ·show r∈q0::R0↔r∈B;rw[eR,HZ,Ip,Io];constructor
   ·rintro (e | e)
    ·rw[e];exact (d4 q0).mpr ⟨a9,rfl⟩
    ·exact e.1
   ·intro h;by_cases e:r.z=q0.z
    ·exact .inl (rO hB ((d4 r).mp h).1 a9 e)
    ·exact .inr ⟨h,e⟩
 have h4:∀ {i:Nat} {M R:List Sq},rN L q0 i M R→M.length + R.length≤1500:=fun h=>by
  have:=h.perm.length_eq
  rw[Hs,← eB]at this
  lia
 refine pP (fun σ H5=>∃ (i:Nat) (lr:Addr) (rs ms:List V) (M R:List Sq) (o7 o8:Option V),ak H H5∧H lr=none∧lr≠la∧H5 la=some (.lst ms)∧Paired (oM H5) ms M∧H5 lr=some (.lst rs)∧Paired (oM H5) rs R∧rN L q0 i M R∧i≤M.length∧σ=[some (.ref lt),some (.int (n:Int)),some (.ref ps),some (.ref D1),some (.ref la),some (.ref lr),some (.int (i:Int)),o7,o8]) (fun σ _=>match σ with | _::_::_::_::_::_::some (.int i)::_=>2000 - i.toNat | _=>0)
  ⟨0,D3,g9,[.ref pa],[q0],R0,none,none,s1.trans (c9.trans s4),(s1.trans c9).free d6,(fun e=>by rw[e,u3]at d6;cases d6),s4 _ _ u3,.cons ⟨pa,rfl,s4 _ _ d1⟩ .nil,u4,p4,w0,HE _,rfl⟩ ?_ ?_
 ·rintro σ H5 ⟨i,lr,rs,ms,M,R,o7,o8,s5,i4,f1,um,pm,ur,pr,fw,hi,rfl⟩;have lm:=Paired.length pm;have i5:=Paired.length pr;have lw:=h4 fw;refine⟨_,_,rfl,.inl ⟨_,SqL.of um,rfl⟩,bE (az (aY (fun c =>?_) (fun c =>?_)))⟩
  rotate_left
  ·have c':¬ ((i:Int) < (ms.length:Int)):=fun h=>c (Hr h);exact (q' la M H5 s5 ⟨ms,um,pm⟩ (fw.fin nd (by lia)))
  have c':(i:Int) < (ms.length:Int):=HG c;have f2:i < M.length:=by lia
  have d7:M[i]? = some M[i]:=HU f2;generalize M[i]=qi at d7;refine⟨(leZ rfl),nw fun ll H6 c6 s6 u6 =>?_⟩;have f3:H ll=none:=s5.free c6;have c7:ll≠la:=fun e=>by rw[e,um]at c6;cases c6
  have f4:ll≠lr:=fun e=>by rw[e,ur]at c6;cases c6
  have f5:=s6 _ _ um;have f6:=s6 _ _ ur;have h5:Paired (oM H6) rs R:=Paired.mapP pr fun _ _ h=>h.up s6.tups;refine⟨lr,rfl,⟨_,SqL.of f6⟩,cE (xs:=rs) (fun (k:Nat) σ H7=>k≤rs.length∧(∀ b o,b≠la→b≠ll→H6 b=some o→H7 b=some o)∧(∃ U,H7 la=some (.lst U)∧Paired (oM H7) U (M++(R.take k).filter (bp qi)))∧(∃ a0,H7 ll=some (.lst a0)∧Paired (oM H7) a0 ((R.take k).filter fun r => !bp qi r))∧∃ o8:Option V,σ=[some (.ref lt),some (.int (n:Int)),some (.ref ps),some (.ref D1),some (.ref la),some (.ref lr),some (.int (i:Int)),some (.ref ll),o8])
   ⟨HE _,fun _ _ _ _ e=>e,⟨ms,f5,by simpa using Paired.mapP pm fun _ _ h=>h.up s6.tups⟩,⟨[],u6,by exact .nil⟩,_,rfl⟩ (fun k σ H7 _ h=>SqL.of (h.2.1 _ _ f1 (Ne.symm f4) f6)) ?_ ?_⟩
  ·rintro k u σ H7 hu ⟨hk,k7,⟨U,c8,a7⟩,⟨a0,d0,a8⟩,h6,rfl⟩;obtain⟨r,O,p,rfl,hp⟩:=bJ h5 hu;have h7:bS H6 H7:=fun b xs e=>k7 b _ (fun z=>by rw[z,f5]at e;cases e) (fun z=>by rw[z,u6]at e;cases e) e;have h8:=Paired.length a7;have i6:=Paired.length a8;have i7:=IL (bp qi) (R.take k);have i8:=IL (fun r => !bp qi r) (R.take k);have i9:=List.length_take_le' k R;rw[Hs]at h8;obtain⟨v1,f7⟩:∃ v1,U[i]? = some v1:=⟨U[i]'(by lia),HU _⟩;obtain⟨j0,f8,pq,rfl,h9⟩:=bJ a7 f7;rw[Iq f2,d7]at f8;cases f8;have d9:Ef H7 p r:=h7 _ _ hp;refine⟨la,_,_,_,rfl,rfl,SqL.of c8,bD f7,pq,p,qi,r,rfl,h9,d9,fun im H8 s8 f9=>(bE (az (aY (fun c1 =>?_) (fun c1 =>?_))))⟩
   ·have tt:bp qi r=true:=f9.mp (HG c1);have e0:=s8 _ _ c8;have t9:bS H8 (upd H8 la (.lst (U++[.ref p]))):=cZ e0 (by intro xs q;cases q);refine⟨.inl ⟨rfl,_,SqL.of e0⟩,la,U,_,rfl,rfl,e0,GF (by lia),(Hx.mp hu).1,fun b o h1 h2 e=>by rw[aH h1];exact s8 _ _ (k7 b o h1 h2 e),⟨_,ah,?_⟩,⟨a0,by rw[aH c7];exact s8 _ _ d0,?_⟩,_,rfl⟩
    ·rw[dW O,tt,← HW];exact cI (Paired.mapP a7 fun _ _ h=>h.up (s8.tups.trans t9)) (.cons ⟨p,rfl,t9 _ _ (s8 _ _ d9)⟩ .nil)
    ·rw[dW O,tt];simpa using Paired.mapP a8 fun _ _ h=>h.up (s8.tups.trans t9)
   ·have tt:bp qi r=false:=by
     cases e:bp qi r with
     | false=>rfl
     | true=>exact absurd (Hr (f9.mpr e)) c1
    have e4:=s8 _ _ d0;have t9:bS H8 (upd H8 ll (.lst (a0++[.ref p]))):=cZ e4 (by intro xs q;cases q);refine⟨.inl ⟨rfl,_,SqL.of e4⟩,ll,a0,_,rfl,rfl,e4,GF (by lia),(Hx.mp hu).1,fun b o h1 h2 e=>by rw[aH h2];exact s8 _ _ (k7 b o h1 h2 e),⟨U,by rw[aH (Ne.symm c7)];exact s8 _ _ c8,?_⟩,⟨_,ah,?_⟩,_,rfl⟩
    ·rw[dW O,tt];simpa using Paired.mapP a7 fun _ _ h=>h.up (s8.tups.trans t9)
    ·rw[dW O,tt];exact cI (Paired.mapP a8 fun _ _ h=>h.up (s8.tups.trans t9)) (.cons ⟨p,rfl,t9 _ _ (s8 _ _ d9)⟩ .nil)
  ·rintro σ H7 ⟨_,k7,⟨U,c8,a7⟩,⟨a0,d0,a8⟩,h6,rfl⟩;rw[HM (by lia)]at a7 a8;have s7:ak H H7:=fun b o e=>k7 b o (fun z=>by rw[z,h3]at e;cases e) (fun z=>by rw[z,f3]at e;cases e) (s6 _ _ (s5 _ _ e));refine⟨⟨i + 1,ll,a0,U,_,_,_,_,s7,f3,c7,c8,a7,d0,a8,fw.step d7,by rw[Hs];lia,rfl⟩,?_⟩;show 2000 - ((i:Int) + 1).toNat < 2000 - (i:Int).toNat
   lia
 ·intro σ H' R R' k J;obtain⟨_,b2,J⟩:=aM J;obtain⟨_,b4,J⟩:=aM J;obtain⟨b5,b6,b7,b8,J⟩:=J;obtain⟨_,_,a5,a6,J⟩:=ko J;obtain⟨_,d5,h⟩:=ff J;exact (bc b2 (bc b4 ⟨b5,b6,b7,b8,xr a5 a6 (lS d5 (k _ _ h))⟩))
end
def ptR (ps:List Pt)(i:Nat):Pt:=(ps[i]?).getD (0,0)
theorem Bi (h:i < ps.length):ps[i]? = some (ptR ps i):=by
 unfold ptR;rw[HU h];rfl
structure Eg (C:Int→Int→Prop)(ps:List Pt):Prop where
 four:4≤ps.length
 tri:∀ k,k < ps.length→Tri C (ptR ps (prv ps.length (prv ps.length k))) (ptR ps (prv ps.length k)) (ptR ps k)
 low:∀ p∈ps,leP (ptR ps 0) p
 len:ps.length≤9000000
theorem tF (h:Lnd L M W col)(lG:(GL L M).length≤9000000)(J:(DG L M s.1 s.2).isSome=true)(low:∀ z∈cP (DG L M) s,leP s.1 z.1):Eg (CM M) (kF (cP (DG L M) s))∧ptR (kF (cP (DG L M) s)) 0=s.1:=by
 obtain⟨G,e,O,U,r0,lo⟩:=AV (oP h) J low;have len:(kF (cP (DG L M) s)).length≤9000000:=by
  obtain⟨N,h1,h2,h3⟩:=nI h J;have Y:cP (DG L M) s=cD (DG L M) s N:=oW ⟨h1,h3⟩;unfold kF jU;rw[Hw]
  have:=IL (eP (cP (DG L M) s)) (List.range (cP (DG L M) s).length)
  rw[Jx,Y,mC]at this;rw[Y,mC]
  lia
 have el:(kF (cP (DG L M) s)).length=G.length:=by rw[e,Hw]
 have at_:∀ i,i < G.length→ptR (kF (cP (DG L M) s)) i=(cL G i).1:=fun i hi=>by
  unfold ptR;rw[e,Ir,tH hi];rfl
 have e0:ptR (kF (cP (DG L M) s)) 0=s.1:=by rw[at_ 0 O,r0]
 refine⟨⟨by rw[el];exact Cr U O,fun k B =>?_,fun p hp=>by rw[e0];exact lo p hp,len⟩,e0⟩;rw[el]at B ⊢;rw[at_ _ (lP (lP B)),at_ _ (lP B),at_ _ B];exact D5 U B
theorem Ci (h:Lnd L M W col)(B:q∈M):∃ k:Pt × Nat,(DG L M k.1 k.2).isSome=true:=by
 have U:=h.pos q (h.sub q B);obtain⟨m,G,_,lo⟩:=Ex (P:=fun m:Nat=>CM M (q.x:Int) (m:Int)) (n:=q.y) ⟨q,B,by unfold InS;lia⟩;have J:Bd (CM M) ((q.x:Int),(m:Int)) 0:=by
  unfold Bd cl rtx rty;refine⟨by simpa using G,fun O =>?_⟩;have hc':CM M ((q.x:Int)) ((m:Int) + -1):=by simpa using O
  rcases JE m with e|e
  ·obtain⟨r,_,i⟩:=hc';unfold InS at i
   lia
  ·refine lo (m - 1) (by lia) ?_;rw[show ((m - 1:Nat):Int)=(m:Int) + -1 by lia];exact hc'
 obtain⟨a,l,k,e,_⟩:=(pcs h).all (by decide) J;exact⟨(a,0),by rw[e];rfl⟩
theorem Fd (h:leP a b)(n:a≠b):ltI (a.2,a.1) (b.2,b.1)=true:=by
 cases e:ltI (a.2,a.1) (b.2,b.1) with
 | true=>rfl
 | false =>
  have:=BV e
  unfold leP at h this;exact absurd (Prod.ext (by lia) (by lia)) n
theorem Fe (h:leP a b):ltI (b.2,b.1) (a.2,a.1)=false:=by
 unfold leP at h;unfold ltI jQ;by_cases c:b.2=a.2
 ·rw[if_pos c];exact Ih (by dsimp only;lia)
 ·rw[if_neg c];exact Ih (by dsimp only;lia)
theorem AU (h:Lnd L M W col)(J:(GL L M).length≤9000000)(O:q∈M)(U:∀ k,k∈ys↔k∈mU L M)(Y:ys.Pairwise fun a b=>ltI (b.1.2,b.1.1) (a.1.2,a.1.1)=false):(∀ ps∈(bN (DG L M) ys).1,Eg (CM M) ps)∧(bN (DG L M) ys).1.Pairwise (fun a b=>ltI ((ptR a 0).2,(ptR a 0).1) ((ptR b 0).2,(ptR b 0).1)=true)∧(bN (DG L M) ys).1≠[]:=by
 have hd':∀ k,k∈ys↔(DG L M k.1 k.2).isSome=true:=fun k=>(U k).trans fg;obtain⟨ss,I⟩:=rgI (oP h) hd' (Y.imp fun e=>BV e) ys.length;rw[Jh]at I;have B:∀ s∈ss,(DG L M s.1 s.2).isSome=true:=fun s e=>(hd' s).mp (I.from_ s e);rw[I.told];refine⟨fun ps hp =>?_,?_,?_⟩
 ·obtain⟨s,e,rfl⟩:=Hz.mp hp;exact (tF h J (B s e) (I.low s e)).1
 ·rw[IG];refine List.Pairwise.imp_of_mem (fun {s s'} m G e =>?_) I.asc;rw[(tF h J (B s m) (I.low s m)).2,(tF h J (B s' G) (I.low s' G)).2];refine Fd e.1 fun c=>e.2 ?_;rw[← Aq (oP h) (B s m) (B s' G) (I.low s m) (I.low s' G) c];exact (oP h).self (B s m)
 ·obtain⟨k,hk⟩:=Ci h O;obtain⟨s,e,_⟩:=(I.gone k).mp (I.all k ((hd' k).mpr hk));intro c;rw[List.map_eq_nil_iff]at c;rw[c]at e;cases e
theorem De (hi:i < us.length)(h2:2≤us.length)(h:us[prv us.length (prv us.length i)]? = some v):atI us ((i:Int) - 2)=some v:=by
 unfold atI ixN;unfold prv at h;have e:∀ j:Nat,j < us.length→(j:Int)=(i:Int) - 2∨(j:Int)=(i:Int) - 2 + us.length→us[j]? = some v→(if (0:Int)≤(i:Int) - 2 then (if (i:Int) - 2 < us.length then some ((i:Int) - 2).toNat else none) else if -(us.length:Int)≤(i:Int) - 2 then some ((i:Int) - 2 + us.length).toNat else none).bind (fun j=>us[j]?)=some v:=fun j hj B G=>by
  rcases B with B|B
  ·rw[if_pos (by lia),if_pos (by lia),Option.bind_some,show ((i:Int) - 2).toNat=j by lia];exact G
  ·rw[if_neg (by lia),if_pos (by lia),Option.bind_some,show ((i:Int) - 2 + us.length).toNat=j by lia];exact G
 refine e _ ?_ ?_ h
 ·split<;>split<;>lia
 ·split<;>split<;>lia
section
variable {P:Program}{w:World}{K:PySem.W.Frag}{mg:Str→Option Value}{base:Heap}{CX:CXT}{f:Addr}{fd:FuncData}
abbrev jF:Stmt:=top 64
theorem cU:aE ["_law_found","_law_land_here","_law_last","_law_ring","_law_first","_law_some","_law_k"] ["_law_found","_law_land_here"] (aq jF):={}
def GJ (H:Hp)(u:V)(ps:List Pt):Prop:=∃ l us,u=.ref l∧H l=some (.lst us)∧jW H us ps
inductive k_  (vs:List V)(H:Hp)(Q:VK):Prop
 | mk (lf ll:Addr) (us:List V) (pss:List (List Pt)) (M:List Sq) (B:Int) (h_0:vs=[.ref lf,.ref ll]) (h_1:H lf=some (.lst us)) (h_2:Paired (GJ H) us pss) (h_3:ra H ll M) (h_4:Ej M B) (h_5:B≤2 ^ 50) (h_6:(∀ ps∈pss,Eg (CM M) ps)) (h_7:pss.Pairwise (fun a b=>ltI ((ptR a 0).2,(ptR a 0).1) ((ptR b 0).2,(ptR b 0).1)=true)) (h_8:pss≠[]) (h_9:∀ H',ak H H'→Q (.bl true) H'):k_  vs H Q
def mj:Sp:=fun vs H Q _=>k_  vs H Q
theorem tW (T:Tx K mg)(q:bZ CX)(F:bu K "_law_right" "_law_right" jF f fd .none)(J:Fok P w K mg base CX 1 "_law_is_ring" ["_law_ring"] [] jy)(G:Fok P w K mg base CX 2 "_law_way_right" ["_law_land_here","_law_one","_law_two","_law_three"] [] ip):
  bA P w K mg base CX 3 f fd ["_law_found","_law_land_here"] mj:=by
 refine F.ok cU (fun vs H Q E h =>?_) (fun f5 A outer s H vs Q E hr h =>?_)
 ·obtain⟨_,_,_,_,_,_,rfl,_⟩:=h;rfl
 obtain⟨lf,ll,us,a9,M,B,rfl,a0,b0,d1,ok,hB,b1,c0,d2,q'⟩:=h;refine⟨_,(ac (aQ (PW.pt (kN (cH (cG (aB (bW "list") rfl T.b_isinstance aU (aa (pv 0) (aa (d9 T.b_list yX) af))))) (hV (aF (BA hr) (pv 0) (aK am))))) (ag (aA dC)) aG) (ac (av (i:=2) cU (aD (ap (yl sP ae) (ap ae am)))) (ac (aN HK rfl (bU (pv 0)) (aR (i:=3) cU) (ac (aQ (cH (cG (aj J q hr (aa (pv 3) af)))) (ag (aA dC)) aG) (ac (av (i:=4) cU (aD (ap (au aw (au bj (pv 3) ae) ae) (ap (au aw (au bj (pv 3) ae) ae) am)))) (ac (Dd (i0:=5) (N':=["_law_point"]) [] [] [] 1 {} (bU (pv 3)) (fun _ _ _ _ _=>(jM (i:=0))) (fun _ _ _ _ _=>(aD (ap (au (kq (K:=K)) (pv 0) ae) (ap (au (kq (K:=K)) (pv 0) ae) am)))) cU.nd rfl (Or.inl rfl)) (ac (aQ (PW.pt (kN (aF (E4 hr) (pv 4) (pv 2)) (hV (aF (xk hr) (pv 4) (aB (An rfl hr.nest) rfl T.b_min lY (aa (pv 5) af)))))) (ag (aA dC)) aG) (ac (av (i:=2) cU (pv 4)) (ag (aN HK rfl (bQ rfl T.b_range (aa (aB bC rfl T.b_len cR (aa (pv 3) af)) af)) (aR (i:=6) cU) (ag (aQ (cH (cG (aj G q hr (aa (pv 1) (aa (au bj (pv 3) (ai bM (pv 6) ae)) (aa (au bj (pv 3) (ai bM (pv 6) ae)) (aa (au bj (pv 3) (pv 6)) af))))))) (ag (aA dC)) aG)))))))))) (ag (aA dC))))),?_⟩
 have lu:=Paired.length b0;have d3:us≠[]:=fun e=>d2 (Ie (by rw[← lu,e];rfl));refine⟨_,_,_,rfl,.lst a0,BY,az (aY (fun c=>absurd c (by decide)) (fun _ =>?_))⟩;refine⟨(leZ rfl),nw fun e0 H1 f6 s1 u1 =>?_⟩;refine⟨lf,e0,us,rfl,rfl,s1 _ _ a0,u1,d3,az (aY (fun c=>absurd c (by decide)) (fun _ =>?_))⟩;refine⟨_,rfl,(leZ rfl),fun Y a4 =>?_⟩;have s2:=ak.new a4 (.tup [.int (-1),.int 0]);have u2:upd H1 Y (.tup [.int (-1),.int 0]) Y=some (.tup [.int (-1),.int 0]):=ah
 change wM _ _ _ _ (upd H1 Y (.tup [.int (-1),.int 0]))
 generalize upd H1 Y (.tup [.int (-1),.int 0])=H2 at *;have c5:=s1.trans s2;refine⟨lf,rfl,⟨_,SqL.of (c5 _ _ a0)⟩,cE (xs:=us) (fun (i:Nat) σ H3=>i≤us.length∧ak H H3∧(∃ (Y:Addr) (la:Int × Int) (o3 o4 o5 o6:Option V),H3 Y=some (.tup [.int la.1,.int la.2])∧(∀ ps∈a9.drop i,ltI la ((ptR ps 0).2,(ptR ps 0).1)=true)∧σ=[some (.ref lf),some (.ref ll),some (.ref Y),o3,o4,o5,o6])) ⟨HE _,c5,Y,(-1,0),_,_,_,_,u2,fun ps hp =>?_,rfl⟩ (fun i σ H3 _ h=>SqL.of (h.2.1 _ _ a0)) ?_ ?_⟩
 ·have rg:=b1 ps (JN hp);have r4:=rg.four;obtain⟨d,e,_,g,_⟩:=rg.tri 0 (by lia)
  have:=(AR ok g).2.2.2.1
  unfold ltI jQ;rw[if_neg (by dsimp only;lia)];exact Hr (by dsimp only;assumption)
 ·rintro i u σ H3 hu ⟨hi,s3,Y,la,o3,o4,o5,o6,a4,d4,rfl⟩;obtain⟨ps,a5,lr,vs,rfl,d5,a6⟩:=bJ b0 hu;have rg:=b1 ps (HH a5);have lv:=Paired.length a6;have r4:=rg.four;have O:=s3 _ _ d5;have a2:=a6.up s3.tups;refine⟨lr,vs,ps,rfl,O,a2,by lia,az (aY (fun c=>absurd c (by decide)) (fun _ =>?_))⟩;have get:∀ k,k < ps.length→∃ a:Addr,vs[k]? = some (.ref a)∧∀ {H':Hp},ak H H'→H' a=some (.tup [.int (ptR ps k).1,.int (ptR ps k).2]):=fun k hk=>by
   obtain⟨v,hv⟩:∃ v,vs[k]? = some v:=⟨vs[k]'(by lia),HU _⟩;obtain⟨p,hp,a,rfl,ha⟩:=bJ a6 hv;rw[Bi hk]at hp;cases hp;exact⟨a,hv,fun s=>s _ _ ha⟩
  obtain⟨p0,v0,h0⟩:=get 0 (by lia);refine⟨lr,_,_,_,rfl,rfl,SqL.of O,bD v0,p0,_,_,_,rfl,rfl,SqT.of (h0 s3),rfl,lr,_,_,_,rfl,rfl,SqL.of O,bD v0,p0,_,_,_,rfl,rfl,SqT.of (h0 s3),rfl,(leZ rfl),fun pf d6 =>?_⟩;have s4:=ak.new d6 (.tup [.int (ptR ps 0).2,.int (ptR ps 0).1]);have u4:upd H3 pf (.tup [.int (ptR ps 0).2,.int (ptR ps 0).1]) pf=some (.tup [.int (ptR ps 0).2,.int (ptR ps 0).1]):=ah
  change wM _ _ _ _ (upd H3 pf (.tup [.int (ptR ps 0).2,.int (ptR ps 0).1]))
  generalize upd H3 pf (.tup [.int (ptR ps 0).2,.int (ptR ps 0).1])=H4 at *;have d7:=s3.trans s4;have U:=s4 _ _ O;have c6:=a2.up s4.tups;have f7:=rg.len;refine⟨[],rfl,lr,rfl,⟨_,SqL.of U⟩,lV vs (fun D (j:Nat) ys H'=>ak H4 H'∧H' D=some (.lst ys)∧ys.length≤j∧jW H' ys ((ps.take j).map fun p=>(p.2,p.1))) (H_ (by lia:vs.length≤9000000) (by decide)) (fun D j ys H' h=>SqL.of (h.1 _ _ U)) (fun D j ys H' h=>⟨h.2.1,h.2.2.1⟩) (fun D hD=>⟨ak.new hD _,ah,Ht _,by exact .nil⟩) ?_ ?_ (fun _ _ _ _ _ k h=>k _ _ h) ?_⟩
  ·rintro D j u ys H5 hu hD ⟨c1,c2,c3,c4⟩;obtain⟨p,hp,a,rfl,ha⟩:=bJ c6 hu;have c7:=c1 _ _ ha;refine⟨rfl,a,_,_,_,rfl,rfl,SqT.of c7,rfl,a,_,_,_,rfl,rfl,SqT.of c7,rfl,(leZ rfl),fun t ht =>?_⟩;have s6:=ak.new ht (.tup [.int p.2,.int p.1]);have u6:upd H5 t (.tup [.int p.2,.int p.1]) t=some (.tup [.int p.2,.int p.1]):=ah;have c8:=s6 _ _ c2;refine⟨c8,?_⟩;generalize upd H5 t (.tup [.int p.2,.int p.1])=H6 at *;have t7:bS H6 (upd H6 D (.lst (ys++[.ref t]))):=cZ c8 (by intro xs q;cases q);refine⟨ak.set (c1.trans s6) hD _,ah,by rw[Hs];show ys.length + 1≤j + 1;lia,?_⟩;rw[Ic,hp,Im];exact cI (c4.up (s6.tups.trans t7)) (.cons ⟨t,rfl,t7 _ _ u6⟩ .nil)
  rotate_left
  ·intro σ H' R R' k h_;obtain⟨_,b2,h_⟩:=aM h_;obtain⟨b3,b4,b5,b6,b7,b8,b9,d8,h_⟩:=h_;obtain⟨_,e1,h_⟩:=aM h_;obtain⟨e2,e3,e4,e5,e6,e7,e8,e9,f0,h⟩:=h_;exact (bc b2 (⟨b3,b4,b5,b6,b7,b8,b9,d8,bc e1 ⟨e2,e3,e4,e5,e6,e7,e8,e9,f0,fun t ht=>k _ _ (h t ht)⟩⟩))
  rintro D ys H5 hD ⟨s5,u5,l5,p5⟩;rw[HM (by lia)]at p5;have c9:=d7.trans s5;have f1:=Paired.length p5;rw[Hw]at f1;have f2:=d4 ps (HH (i:=0) (by rw[JY];exact a5));refine⟨pf,Y,_,_,_,_,rfl,rfl,s5 _ _ u4,(s4.trans s5) _ _ a4,az (aY (fun c =>?_) (fun _ =>?_))⟩
  ·have c':(!ltI (la.1,la.2) ((ptR ps 0).2,(ptR ps 0).1))=true:=c;rw[show (la.1,la.2)=la from rfl,f2]at c';cases c'
  refine⟨D,(ps.map fun p:Pt=>((p.2,p.1):Int × Int)),ys,rfl,u5,p5,by lia,fun b p hp hb low =>?_⟩;have ep:p=((ptR ps 0).2,(ptR ps 0).1):=by
   obtain⟨p',a7,rfl⟩:=Hz.mp hp;refine vS.tot _ _ (Fe (rg.low p' a7)) (low _ (Hz.mpr ⟨ptR ps 0,HH (Bi (by lia)),rfl⟩))
  subst ep;refine⟨_,_,.tup (s5 _ _ u4) (.cons (.int _) (.cons (.int _) .nil)),.tup hb (.cons (.int _) (.cons (.int _) .nil)),rfl,rfl,az (aY (fun c =>?_) (fun _ =>?_))⟩
  ·have c':(!PyData.eqv (.tuple [.int (ptR ps 0).2,.int (ptR ps 0).1]) (.tuple [.int (ptR ps 0).2,.int (ptR ps 0).1]))=true:=c;rw[show PyData.eqv (.tuple [.int (ptR ps 0).2,.int (ptR ps 0).1]) (.tuple [.int (ptR ps 0).2,.int (ptR ps 0).1])=true by simp[PyData.eqv,PyData.eqvAll]]at c';cases c'
  have a3:=s5 _ _ U;refine⟨_,_,rfl,.inl ⟨_,SqL.of a3,rfl⟩,_,rfl,(by simp),(by lia),bV (fun k σ H6=>ak H5 H6∧∃ o6:Option V,σ=[some (.ref lf),some (.ref ll),some (.ref pf),some (.ref lr),some (.ref pf),some (.ref D),o6]) ⟨ak.refl H5,_,rfl⟩ ?_ ?_⟩
  ·rintro k σ H6 hk ⟨s6,f3,rfl⟩;have hk':k < ps.length:=by
    rw[Iy]at hk
    lia
   rw[show (0:Int) + (k:Int)=k from JK _];have a1:=c9.trans s6;obtain⟨x0,w0,g0⟩:=get k hk';obtain⟨x1,w1,g1⟩:=get _ (lP hk');obtain⟨x2,w2,g2⟩:=get _ (lP (lP hk'));have a8:=SqL.of (K:=K) (s6 _ _ a3);have y1:atI vs ((k:Int) - 1)=some (.ref x1):=Bl (by lia) (by rw[lv];exact w1);have y2:atI vs ((k:Int) - 2)=some (.ref x2):=De (by lia) (by lia) (by rw[lv];exact w2);refine⟨lr,_,_,_,rfl,rfl,a8,y2,lr,_,_,_,rfl,rfl,a8,y1,lr,_,_,_,rfl,rfl,a8,bD w0,ll,x2,x1,x0,M,B,_,_,_,rfl,d1.up a1,ok,hB,g2 a1,g1 a1,g0 a1,rg.tri k hk',fun H7 s7=>(az (aY (fun c=>absurd c (by decide)) (fun _=>⟨s6.trans s7,_,rfl⟩)))⟩
  ·rintro σ H6 ⟨s6,f3,rfl⟩;refine⟨(Hx.mp hu).1,c9.trans s6,pf,((ptR ps 0).2,(ptR ps 0).1),_,_,_,_,s6 _ _ (s5 _ _ u4),fun f4 a7 =>?_,rfl⟩;have d0:=Hx.mp a5;have h1:=c0.sublist (List.drop_sublist i a9);rw[Ix d0.1,d0.2]at h1;exact (JF.mp h1).1 f4 a7
 ·rintro σ H3 ⟨_,s3,_,_,_,_,_,_,_,_,rfl⟩;exact q' _ s3
end
theorem ve (t:fz T H)(h:H l=some (.lst us)):fz T (upd H l (.lst vs)):=fun q J=>by
 obtain⟨ps,B,O,U⟩:=t q J;refine⟨ps,by rw[aH fun z=>by rw[z,h]at B;cases B];exact B,O,fun pos Y e =>?_⟩;obtain⟨c',e1,G⟩:=U pos Y e;exact⟨c',e1,by rw[aH fun z=>by rw[z,h]at G;exact nomatch G];exact G⟩
theorem AS (s:ck T H H')(h:H l=none):ck T H (upd H' l o):=fun b o' e B=>by
 rw[aH fun z=>by rw[z,h]at e;cases e];exact s b o' e B
theorem GN (h:∀ q,q∈M↔q∈M'):CM M=CM M':=by
 funext x y
 refine propext ⟨fun⟨q,B,i⟩=>⟨q,(h q).mp B,i⟩,fun⟨q,B,i⟩=>⟨q,(h q).mpr B,i⟩⟩
theorem ra.upT (h:ra H l M)(s:ck T H H')(t:fz T H):ra H' l M:=by
 obtain⟨us,h1,h2⟩:=h;exact⟨us,s.keep t h1 (by intro ps z;cases z),Paired.mapP h2 fun _ _ k=>k.up (s.tups t)⟩
theorem RgV.weak (h:RgV H0 lt H u ps):GJ H u ps:=by
 obtain⟨l,us,e,_,_,B,G⟩:=h;exact⟨l,us,e,B,G⟩
section
variable {P:Program}{w:World}{K:PySem.W.Frag}{mg:Str→Option Value}{base:Heap}{CX:CXT}{f:Addr}{fd:FuncData}
abbrev my:Stmt:=top 65
theorem gn:aE ["_law_script","_law_sheet_here","_law_told","_law_k","_law_cell","_law_start","_law_left","_law_top","_law_wide","_law_land_here","_law_found"] ["_law_script"] (aq my):={}
inductive zc  (K:PySem.W.Frag)(Tb:List (Addr × Str))(vs:List V)(H:Hp)(Q:VK):Prop
 | mk (a:Addr) (ns:List Int) (h_0:vs=[.ref a]) (h_1:SqL K H a (ns.map V.int)) (h_2:ns.length≤63) (h_3:fz Tb H) (h_4:∀ H',Q (.bl true) H'):zc K Tb vs H Q
def AM  (K:PySem.W.Frag)(Tb:List (Addr × Str)):Sp:=fun vs H Q _=>zc K Tb vs H Q
theorem Fa (T:Tx K mg)(q:bZ (CXe P w))(F:bu K "law" "law" my f fd .none)(O:Fok P w K mg base (CXe P w) 45 "_law_sheet" ["_law_script"] [] (mi K))(G:Fok P w K mg base (CXe P w) 42 "_law_leaves" ["_law_tree","_law_code_here"] [] (gU 41))(a0:Fok P w K mg base (CXe P w) 1 "_law_at" ["_law_script","_law_k"] [] (iq K))(J:Fok P w K mg base (CXe P w) 1 "_law_square" ["_law_code_here","_law_level"] [] gT)(U:Fok P w K mg base (CXe P w) 2 "_law_land" ["_law_told","_law_level","_law_start"] [] n9)(Y:Fok P w K mg base (CXe P w) 50 "rings" ["sheet","x","y"] [] (pW P w Tb))(B:Fok P w K mg base (CXe P w) 3 "_law_right" ["_law_found","_law_land_here"] [] mj):
  bA P w K mg base (CXe P w) 51 f fd ["_law_script"] (AM K Tb):=by
 refine F.ok gn (fun vs H Q E h =>?_) (fun i6 A outer s H vs Q E hr h =>?_)
 ·obtain⟨_,_,rfl,_⟩:=h;rfl
 obtain⟨a,ns,rfl,hS,c9,f5,q'⟩:=h;refine⟨_,(ac (av (i:=1) gn (aj O q hr (aa (pv 0) af))) (ac (av (i:=2) gn (aj G q hr (aa (au aw (pv 1) ae) (aa cq af)))) (ac (aN HK rfl (bQ rfl T.b_range (aa (ai aI ae (bI eY rfl T.b_int eA (aa (dt eK (aB bC rfl T.b_len cR (aa (pv 2) af)) ae) af))) af)) (aR (i:=3) gn) (ac (av (i:=4) gn (ai aI (aj a0 q hr (aa (pv 0) (aa (ai aI ae (pv 3)) af))) (ai cQ ae (pv 3)))) (ac (av (i:=5) gn (au bj (pv 2) (ai aL (pv 4) (aB bC rfl T.b_len cR (aa (pv 2) af))))) (ac (xg (aj J q hr (aa (au aw (pv 5) ae) (aa (au aw (pv 1) ae) af))) (iV rfl (aV (aR (i:=6) gn) (aV (aR (i:=7) gn) (aV (aR (i:=8) gn) d8))))) (ac (av (i:=9) gn (aj U q hr (aa (pv 2) (aa (au aw (pv 1) ae) (aa (pv 5) af))))) (ac (av (i:=10) gn (aj Y q hr (aa (pv 1) (aa (ai aI (pv 6) (ai aL (ai aJ (pv 4) ae) (pv 8))) (aa (ai aI (pv 7) (ai aL (ai aJ (pv 4) ae) (pv 8))) af))))) (ac (aQ (cH (cG (aj B q hr (aa (pv 10) (aa (pv 9) af))))) (ag (aA dC)) aG) (ac (aW (E2 PySem.F.plainAttrs_list PySem.F.slot_list_reverse PySem.F.type_list_reverse xv (au bj (pv 10) ae))) (ac (aW (a_ (pv 10) (aa (aK (ap (aD (ap ae (ap ae am))) am)) af))) (ag (aQ (cH (cG (aj B q hr (aa (aj Y q hr (aa (pv 1) (aa (pv 6) (aa (pv 7) af)))) (aa (pv 9) af))))) (ag (aA dC)) aG))))))))))) (ag (aA dC))))),?_⟩;refine⟨a,ns,rfl,hS,c9,fun v n t H1 s1 hv hn gt ct =>?_⟩;obtain⟨ps,x,rfl,d0,hx⟩:=hv;refine⟨ps,_,_,_,rfl,rfl,SqT.of d0,rfl,x,t,"",n,n,rfl,hx,gt,dE▸IsC.nil,by rw[show ("" : Str).length=0 by decide +kernel];simp,hn,by lia,by decide,by lia,fun lt us H2 s2 i7 u2 b5 =>?_⟩
 obtain⟨L,eL⟩:∃ L,L=sqs [] t 0 0 n:=⟨_,rfl⟩;have hB:L.Pairwise fS:=by rw[eL];exact dG t [] 0 0 n gt
 have lc:L.length=cnt t:=by rw[eL];exact fe t [] 0 0 n
 rw[iz,gM t [] 0 0 n,← eL]at b5;have f6:=b5.len;rw[Hw]at f6;have pL:0 < L.length:=by rw[lc];exact yW t
 have d1:=s1.trans s2;have a5:=d1.tabs f5;have f7:=d1.seq hS;have d2:=s2 _ _ d0;have f8:=hx.up s2.tups;have b6:∀ q∈L,q.x + q.w≤2 ^ n∧q.y + q.w≤2 ^ n∧0 < q.w:=fun q hq=>by
  rw[eL]at hq;obtain⟨_,h1,_,h2,h3⟩:=fZ t [] 0 0 n gt q hq
  lia
 have d3:((2 ^ n:Nat):Int)≤2 ^ 50:=by
  have:2 ^ n≤2 ^ 50:=IU (by decide) (by lia)
  exact_mod_cast this
 have d4:∀ b:Bool,(0:Int)≤1 + (if b then 1 else 0)∧(1:Int) + (if b then 1 else 0) < 3:=by
  intro b;cases b<;>decide
 have kS:∀ {H':Hp},ck Tb H2 H'→SqL K H' a (ns.map V.int):=fun st=>f7.upT st a5;have kp:∀ {H':Hp},ck Tb H2 H'→H' ps=some (.tup [.int (n:Int),x]):=fun st=>st.tups a5 _ _ d2;have kt:∀ {H':Hp},ck Tb H2 H'→bT H' x t:=fun st=>f8.up (st.tups a5);have kl:∀ {H':Hp},ck Tb H2 H'→H' lt=some (.lst us):=fun st=>st.keep a5 u2 (by intro ps z;cases z);have ku:∀ {H':Hp},ck Tb H2 H'→bz H' n us (L.map fun q=>(q.z,q.c)):=fun st=>b5.up (st.tups a5);refine⟨_,_,rfl,.inl ⟨_,SqL.of u2,rfl⟩,.inr ⟨_,rfl,_,rfl,Kt (by decide) (d4 _).1,Int.lt_trans (d4 _).2 (by decide),?_⟩⟩;refine bV (fun (j:Nat) σ H3=>ck Tb H2 H3∧fz Tb H3∧∃ o3 o4 o5 o6 o7 o8 o9 c4:Option V,σ=[some (.ref a),some (.ref ps),some (.ref lt),o3,o4,o5,o6,o7,o8,o9,c4]) ⟨ck.refl _,a5,_,_,_,_,_,_,_,_,rfl⟩ ?_ ?_
 rotate_left
 ·rintro σ H3 ⟨_,_,o3,o4,o5,o6,o7,o8,o9,c4,rfl⟩;exact q' _
 rintro j σ H3 hj ⟨a8,f9,o3,o4,o5,o6,o7,o8,o9,c4,rfl⟩;rw[show (0:Int) + (j:Int)=j from JK _];refine⟨a,ns,11 + j,(by show [V.ref a,V.int (11 + (j:Int))]=[V.ref a,V.int ((11 + j:Nat):Int)];rw[show (11:Int) + (j:Int)=((11 + j:Nat):Int) by rfl]),kS a8,c9,.inl ⟨by decide,by decide⟩,bE ?_⟩;dsimp only;generalize cell ns (11 + j) + 3 * (j:Int)=ce;have d5:(0:Int) < (us.length:Int):=by lia
 obtain⟨q0,pa,z,a6,g0,b7,hz,ez,a1,a2,a3,a4⟩:∃ (q0:Sq) (pa:Addr) (z:Str),q0∈L∧atI us (ce % (us.length:Int))=some (.ref pa)∧(∀ {H':Hp},ck Tb H2 H'→H' pa=some (.tup [.str z,.int q0.c]))∧IsC z∧dig z=q0.z∧z.length≤n∧((sqX n (dig z):Nat):Int)=(q0.x:Int)∧((sqY n (dig z):Nat):Int)=(q0.y:Int)∧((2 ^ (n - z.length):Nat):Int)=(q0.w:Int):=by
  have h1:=JA ce (show (us.length:Int)≠0 by lia);have h2:=Jf ce d5;obtain⟨m,em⟩:∃ m:Nat,ce % (us.length:Int)=(m:Int):=⟨_,(Int.toNat_of_nonneg h1).symm⟩;rw[em]at h2 ⊢;have hm:m < us.length:=by lia
  obtain⟨q0,hq,p,z,e,hp,hz,ez,_⟩:=b5.get' (HU hm);have d6:=HH hq;obtain⟨b1,b2,b3,b4⟩:=Ep gt (q:=q0) (by rw[← eL];exact d6) (z:=z) ez;exact⟨q0,p,z,d6,bD (by rw[HU hm,e]),fun st=>st.tups a5 _ _ hp,hz,ez,b1,b2,b3,b4⟩
 have i3:=b6 q0 a6;refine⟨_,_,rfl,.inl ⟨_,SqL.of (kl a8),rfl⟩,d5,lt,_,_,.ref pa,rfl,rfl,SqL.of (kl a8),g0,?_⟩;refine⟨pa,_,_,_,rfl,rfl,SqT.of (b7 a8),rfl,ps,_,_,_,rfl,rfl,SqT.of (kp a8),rfl,z,n,rfl,hz,a1,hn,fun pq H4 s4 d7 =>?_⟩;rw[a2,a3,a4]at d7;have a9:=a8.trans s4.toT;have g1:=s4.tabs f9;refine⟨pq,_,rfl,SqT.of d7,rfl,_,_,rfl,_,_,rfl,_,_,rfl,rfl,?_⟩;refine⟨ps,_,_,_,rfl,rfl,SqT.of (kp a9),rfl,lt,pa,us,z,n,t,L,q0,rfl,kl a9,ku a9,b7 a9,hz,ez,eL,gt,hn,by lia,a6,fun ll M H5 s5 d9 fl =>?_⟩;have c5:=a9.trans s5.toT;have c6:=s5.tabs g1;have ok:Ej M ((2 ^ n:Nat):Int):=by
  refine⟨fl.nd,fun r hr=>(b6 r (fl.sub r hr).1).2.2,fun r hr r' g2 x y i i' =>?_,fun r hr =>?_⟩
  ·rcases kD hB (fl.sub r hr).1 (fl.sub r' g2).1 with e|e|e
   ·exact e
   ·unfold Sep at e;unfold InS at i i'
    lia
   ·unfold Sep at e;unfold InS at i i'
    lia
  ·obtain⟨h1,h2,_⟩:=b6 r (fl.sub r hr).1
   lia
 have b8:∀ {A:List Nat→List (List Nat)} {zs:List (List Nat)} {ys:List (Pt × Nat)},cK L A zs→(∀ k,k∈ys↔k∈mU L (dD L A q0.z))→ys.Pairwise (fun a b=>ltI (b.1.2,b.1.1) (a.1.2,a.1.1)=false)→(∀ ps∈(bN (DG L (dD L A q0.z)) ys).1,Eg (CM M) ps)∧(bN (DG L (dD L A q0.z)) ys).1.Pairwise (fun a b=>ltI ((ptR a 0).2,(ptR a 0).1) ((ptR b 0).2,(ptR b 0).1)=true)∧(bN (DG L (dD L A q0.z)) ys).1≠[]:=fun {A zs ys} C hd hs=>by
  obtain⟨c7,b9⟩:=BS gt (q0:=q0) (by rw[← eL];exact C) (by rw[← eL];exact a6);rw[← eL]at c7 b9;have z0:q0.z∈zs:=by rw[C.ez];exact Hz.mpr ⟨q0,a6,rfl⟩
  have lM:(dD L A q0.z).length≤1500:=by
   unfold dD;rw[Hw];exact H_ (C.bi z0).len C.len
  have lG:(GL L (dD L A q0.z)).length≤9000000:=by
   have h1:=uQ (L:=L) (M:=dD L A q0.z) c7.sub;have h2:(dD L A q0.z).length * (4 * L.length)≤1500 * (4 * 1500):=Jr lM (by lia)
   lia
  rw[GN (B_ fl (fun r hr=>(b6 r hr).2.2) a6 C)];exact AU c7 lG b9 hd hs
 have w0:(0:Int) < (q0.w:Int):=by lia
 obtain⟨x1,g3,e0⟩:∃ x1:Nat,(q0.x:Int) + ce / 3 % (q0.w:Int)=(x1:Int)∧q0.x≤x1∧x1 < q0.x + q0.w:=by
  have h1:=JA (ce / 3) (show (q0.w:Int)≠0 by lia);have h2:=Jf (ce / 3) w0;exact⟨((q0.x:Int) + ce / 3 % (q0.w:Int)).toNat,by lia,by lia,by lia⟩
 obtain⟨y1,g4,e1⟩:∃ y1:Nat,(q0.y:Int) + ce / 7 % (q0.w:Int)=(y1:Int)∧q0.y≤y1∧y1 < q0.y + q0.w:=by
  have h1:=JA (ce / 7) (show (q0.w:Int)≠0 by lia);have h2:=Jf (ce / 7) w0;exact⟨((q0.y:Int) + ce / 7 % (q0.w:Int)).toNat,by lia,by lia,by lia⟩
 refine⟨ci (by decide) (by decide),w0,ci (by decide) (by decide),w0,?_⟩;refine⟨ps,n,x1,y1,x,t,q0,(by show [V.ref ps,V.int ((q0.x:Int) + ce / 3 % (q0.w:Int)),V.int ((q0.y:Int) + ce / 7 % (q0.w:Int))]=_;rw[g3,g4]),kp c5,kt c5,gt,hn,ct,by rw[← eL];exact a6,⟨e0.1,e0.2,e1.1,e1.2⟩,c6,fun A1 zs ys lf uf H6 C hd hs e2 g5 g6 e3 hR g7 =>?_⟩;rw[← eL]at C hd hR;obtain⟨r1,r2,r3⟩:=b8 C hd hs;have e4:=d9.upT e2 c6;refine⟨lf,ll,uf,_,M,_,rfl,e3,Paired.mapP hR fun _ _ h=>h.weak,e4,ok,d3,r1,r2,r3,fun H7 s7=>(az (aY (fun c=>absurd c (by decide)) (fun _ =>?_)))⟩;have lR:=Paired.length hR;have u0:0 < uf.length:=by
  rcases JE uf.length with e|e
  ·exact absurd (Ie (by rw[← lR];exact e)) r3
  ·exact e
 obtain⟨v0,e5⟩:∃ v0,uf[0]? = some v0:=⟨uf[0],HU u0⟩;obtain⟨i8,_,l0,b0,rfl,g8,g9,h0,_⟩:=bJ hR e5;have e6:=s7 _ _ e3;have c8:=s7 _ _ h0;have h4:=e2.trans s7.toT;have h5:=s7.tabs g5;refine⟨lf,_,_,_,rfl,rfl,SqL.of e6,bD e5,.inl ⟨rfl,_,SqL.of c8⟩,l0,b0,rfl,rfl,c8,?_⟩;have h6:ck Tb H5 (upd H7 l0 (.lst b0.reverse)):=AS h4 g9;have h7:fz Tb (upd H7 l0 (.lst b0.reverse)):=ve h5 c8;have e7:upd H7 l0 (.lst b0.reverse) lf=some (.lst uf):=by rw[aH (Ne.symm g8)];exact e6
 generalize upd H7 l0 (.lst b0.reverse)=H8 at *;refine⟨.inl ⟨rfl,_,SqL.of e7⟩,(leZ rfl),fun pz h8=>⟨(leZ rfl),fun lz h9 =>?_⟩⟩;have s9:=(ak.new h8 (.tup [.int 0,.int 0])).trans (ak.new h9 (.lst [.ref pz]));have c0:=s9 _ _ e7;have e8:=h6.trans s9.toT;have e9:=s9.tabs h7;refine⟨lf,uf,_,rfl,rfl,c0,Jp g7 (by decide),?_⟩;have c1:=AS (o:=.lst (uf++[.ref lz])) e8 g6;have c2:=ve (vs:=uf++[.ref lz]) e9 c0;generalize upd (upd (upd H8 pz (.tup [.int 0,.int 0])) lz (.lst [.ref pz])) lf (.lst (uf++[.ref lz]))=i9 at *;have a7:=c5.trans c1;refine⟨ps,n,q0.x,q0.y,x,t,q0,rfl,kp a7,kt a7,gt,hn,ct,by rw[← eL];exact a6,⟨Ht _,by lia,Ht _,by lia⟩,c2,fun A2 j0 j1 i0 i1 j2 C2 f0 i2 c3 f1 i4 f2 f3 i5 =>?_⟩;rw[← eL]at C2 f0 f3;obtain⟨t1,t2,t3⟩:=b8 C2 f0 i2;exact⟨i0,ll,i1,_,M,_,rfl,f2,Paired.mapP f3 fun _ _ h=>h.weak,(d9.upT c1 c6).upT c3 c2,ok,d3,t1,t2,t3,fun j3 f4=>(az (aY (fun c=>absurd c (by decide)) (fun _=>⟨a7.trans (c3.trans f4.toT),f4.tabs f1,_,_,_,_,_,_,_,_,rfl⟩)))⟩
end
theorem kd4 {P:Program}{w:World}{K:PySem.W.Frag}{aC B G p2 J:Addr}{O U Y a0:Tok}{nC:Nat}(y:K.lookup aC=some ⟨.type "dict",none,.dict #[⟨PyData.keyHash w.params "up",.str "up" O,.ref B⟩,⟨PyData.keyHash w.params "right",.str "right" U,.ref G⟩,⟨PyData.keyHash w.params "down",.str "down" Y,.ref p2⟩,⟨PyData.keyHash w.params "left",.str "left" a0,.ref J⟩] nC,#[]⟩):
  KD P w K aC [(.inr "up",.ref B),(.inr "right",.ref G),(.inr "down",.ref p2),(.inr "left",.ref J)]:=by
 refine⟨_,[(.inr "up",.ref B),(.inr "right",.ref G),(.inr "down",.ref p2),(.inr "left",.ref J)],y,.cons ⟨rfl,rfl⟩ (.cons ⟨rfl,rfl⟩ (.cons ⟨rfl,rfl⟩ (.cons ⟨rfl,rfl⟩ .nil))),_,_,⟨rfl,rfl,rfl⟩,rfl,fun e he =>?_,.cons (gH ⟨_,rfl⟩) rfl (.cons (gH ⟨_,rfl⟩) rfl (.cons (gH ⟨_,rfl⟩) rfl (.cons (gH ⟨_,rfl⟩) rfl .nil))),(by show ([.inr "up",.inr "right",.inr "down",.inr "left"]:List Key).Nodup;decide +kernel)⟩
 simp only[List.mem_toArray,HZ,KE,or_false]at he;rcases he with rfl | rfl | rfl | rfl
 ·exact⟨.inr "up",gH ⟨_,rfl⟩,rfl⟩
 ·exact⟨.inr "right",gH ⟨_,rfl⟩,rfl⟩
 ·exact⟨.inr "down",gH ⟨_,rfl⟩,rfl⟩
 ·exact⟨.inr "left",gH ⟨_,rfl⟩,rfl⟩
theorem gF {us:List Value}{n:Nat}(h:us.length=n + 1):∃ a t,us=a::t∧t.length=n:=by
 cases us with
 | nil=>cases h
 | cons a t=>exact⟨a,t,rfl,Nat.succ.inj h⟩
theorem Gk {us:List Value}(h:us.length=1):∃ a,us=[a]:=by
 obtain⟨a,G,B,h⟩:=gF h;have e:=Ie h;subst e;subst B;exact⟨a,rfl⟩
theorem Ew {us:List Value}(h:us.length=2):∃ a b,us=[a,b]:=by
 obtain⟨a,J,B,h⟩:=gF h;obtain⟨b,O,G,h⟩:=gF h;have e:=Ie h;subst e;subst G;subst B;exact⟨a,b,rfl⟩
theorem Ev {us:List Value}(h:us.length=3):∃ a b c,us=[a,b,c]:=by
 obtain⟨a,O,B,h⟩:=gF h;obtain⟨b,U,G,h⟩:=gF h;obtain⟨c,Y,J,h⟩:=gF h;have e:=Ie h;subst e;subst J;subst G;subst B;exact⟨a,b,c,rfl⟩
theorem Gj {us:List Value}(h:us.length=4):∃ a b c d,us=[a,b,c,d]:=by
 obtain⟨a,U,B,h⟩:=gF h;obtain⟨b,Y,G,h⟩:=gF h;obtain⟨c,u2,J,h⟩:=gF h;obtain⟨d,u3,O,h⟩:=gF h;have e:=Ie h;subst e;subst O;subst J;subst G;subst B;exact⟨a,b,c,d,rfl⟩
theorem Gi {us:List Value}(h:us.length=5):∃ a b c d e,us=[a,b,c,d,e]:=by
 obtain⟨a,Y,B,h⟩:=gF h;obtain⟨b,u1,G,h⟩:=gF h;obtain⟨c,u2,J,h⟩:=gF h;obtain⟨d,u3,O,h⟩:=gF h;obtain⟨e,u4,U,h⟩:=gF h;have e:=Ie h;subst e;subst U;subst O;subst J;subst G;subst B;exact⟨a,b,c,d,e,rfl⟩
theorem G9 {us:List Value}{d:Value}(h:(us++[d]).length=2):∃ a,us=[a]:=by
 match us,h with
 | [a],_=>exact⟨a,rfl⟩
 | [],h=>simp at h
 | _::_::_,h=>simp at h
structure Df (K:PySem.W.Frag)(x:Str)(st:Stmt)(f:Addr)(fd:FuncData):Prop where
 F:bu K x x st f fd .none
 a:PySem.W.nsIn K mainGlobals x=some (some (.ref f))
theorem df {K:PySem.W.Frag}{x:Str}{st:Stmt}{f:Addr}{U:Value}{od J:Option Addr}{G:Array (Option Value)}{kV doc O B ct:Value}(a:PySem.W.nsIn K mainGlobals x=some (some (.ref f)))(l:K.lookup f=some ⟨U,od,.func (PySem.W.fnOf x x (b_ st) (bO st) (aq st) .none kV doc O J B ct),G⟩)
  (c:PySem.W.codeIn K B x=true) (k:PySem.W.keepIn K (.ref f)=true):Df K x st f (PySem.W.fnOf x x (b_ st) (bO st) (aq st) .none kV doc O J B ct):=⟨pE l c k,a⟩
theorem bd1 {K:PySem.W.Frag}{x q:Str}{st:Stmt}{f:Addr}{fd:FuncData}{G:Value}{J:Str}(F:bu K x q st f fd G)(h:∀ (kV doc O:Value) (U:Option Addr) (B ct:Value) (a:Value),bindArgs (PySem.W.fnOf x q (b_ st) (bO st) (aq st) G kV doc O U B ct) ⟨[a],[]⟩=pure [(J,a)]:=by intros;rfl):eF K fd [J] []:=F.binds fun _ _ _ _ _ _ us Y=>by
 obtain⟨a,rfl⟩:=Gk Y;exact h _ _ _ _ _ _ _ 
theorem bd2 {K:PySem.W.Frag}{x q:Str}{st:Stmt}{f:Addr}{fd:FuncData}{G:Value}{J O:Str}(F:bu K x q st f fd G)(h:∀ (kV doc U:Value) (Y:Option Addr) (B ct:Value) (a b:Value),bindArgs (PySem.W.fnOf x q (b_ st) (bO st) (aq st) G kV doc U Y B ct) ⟨[a,b],[]⟩=pure [(J,a),(O,b)]:=by intros;rfl):eF K fd [J,O] []:=F.binds fun _ _ _ _ _ _ us hl=>by
 obtain⟨a,b,rfl⟩:=Ew hl;exact h _ _ _ _ _ _ _ _ 
theorem bd3 {K:PySem.W.Frag}{x q:Str}{st:Stmt}{f:Addr}{fd:FuncData}{G:Value}{J O p2:Str}(F:bu K x q st f fd G)(h:∀ (kV doc U:Value) (Y:Option Addr) (B ct:Value) (a b c:Value),bindArgs (PySem.W.fnOf x q (b_ st) (bO st) (aq st) G kV doc U Y B ct) ⟨[a,b,c],[]⟩=pure [(J,a),(O,b),(p2,c)]:=by intros;rfl):eF K fd [J,O,p2] []:=F.binds fun _ _ _ _ _ _ us hl=>by
 obtain⟨a,b,c,rfl⟩:=Ev hl;exact h _ _ _ _ _ _ _ _ _ 
theorem bd4 {K:PySem.W.Frag}{x q:Str}{st:Stmt}{f:Addr}{fd:FuncData}{G:Value}{J O p2 U:Str}(F:bu K x q st f fd G)(h:∀ (kV doc Y:Value) (an:Option Addr) (B ct:Value) (a b c d:Value),bindArgs (PySem.W.fnOf x q (b_ st) (bO st) (aq st) G kV doc Y an B ct) ⟨[a,b,c,d],[]⟩=pure [(J,a),(O,b),(p2,c),(U,d)]:=by intros;rfl):eF K fd [J,O,p2,U] []:=F.binds fun _ _ _ _ _ _ us hl=>by
 obtain⟨a,b,c,d,rfl⟩:=Gj hl;exact h _ _ _ _ _ _ _ _ _ _ 
theorem bd5 {K:PySem.W.Frag}{x q:Str}{st:Stmt}{f:Addr}{fd:FuncData}{G:Value}{J O p2 U Y:Str}(F:bu K x q st f fd G)(h:∀ (kV doc pm:Value) (an:Option Addr) (B ct:Value) (a b c d e:Value),bindArgs (PySem.W.fnOf x q (b_ st) (bO st) (aq st) G kV doc pm an B ct) ⟨[a,b,c,d,e],[]⟩=pure [(J,a),(O,b),(p2,c),(U,d),(Y,e)]:=by intros;rfl):eF K fd [J,O,p2,U,Y] []:=F.binds fun _ _ _ _ _ _ us hl=>by
 obtain⟨a,b,c,d,e,rfl⟩:=Gi hl;exact h _ _ _ _ _ _ _ _ _ _ _ 
theorem FJ {l:PySem.W.OpenLaw}{w:World}{K:PySem.W.Frag}{h:Heap}{mg:Str→Option Value}{fa f0 f1 f2 f3 f4 f5 f6 f7 f8 f9 r6 r7 r8 r9 s0 s1 s2 s3 s4 s5 s6 s7 s8 s9 t0 m5 t1 t2 t3 t4 t5 t6 t7 t8 t9 u8 u9 v0 v1 v2 v3 v4 v5 v6 v7 v8 v9 w0 m6:Addr}{g0 g1 g2 g3 g4 g5 g6 g8 g9 w1 w2 w3 w4 w5 w6 w7 w8 w9 x0 x1 x2 x3 x4 x5 x6 x7 x8 x9 g30 g31 g32 g33 g34 g35 g36 g37 g38 g39 g40 g41 g42 g43 g44 g45 g46 g47:FuncData}(X:K.In h)(G:h.Ns mainGlobals mg)(hfa:mg "law" = some (.ref fa))
  {od7 an7 n7 n8 n9 l9:Option Addr} {sl7 o0 o1:Array (Option Value)} {oc7 kV7 dc7 pm7 o2 ct7 o3 o4 o5 o6 h9 o7 o8 m0 m1 m2 i0 m3:Value}
  {o9:Addr} {do7:Option Addr} {dn7:Nat} {p4:Array (Option Value)} {p5:Tok}
  (m7:Df K "is_side" nE f0 g0)
  (m8:Df K "is_code" nF f1 g1)
  (m9:Df K "need_code" jD f2 g2)
  (n0:Df K "need_side" jC f3 g3)
  (n1:Df K "beside" qh f4 g4)
  (n2:Df K "is_whole" lK f5 g5)
  (n3:Df K "is_level" lN f6 g6)
  (a7:PySem.W.nsIn K mainGlobals "need_level" = some (some (.ref f7))) (l7:K.lookup f7=some ⟨oc7,od7,.func (PySem.W.fnOf "need_level" "need_level" (b_ dk) (bO dk) (aq dk) (.ref o9) kV7 dc7 pm7 an7 o2 ct7),sl7⟩) (c7:PySem.W.codeIn K o2 "need_level" = true) (k7:PySem.W.keepIn K (.ref f7)=true)
  (d7:K.lookup o9=some ⟨.type "tuple",do7,.seq #[.int 0 p5] dn7,p4⟩)
  (n4:Df K "width_of" lF f8 g8)
  (n5:Df K "need_place" iO f9 g9)
  (i1:Df K "code_at" nG r6 w1)
  (i2:Df K "corner" qg r7 w2)
  (e6:Df K "leaves_below" gy r8 w3)
  (i3:Df K "leaves" qe r9 w4)
  (e7:Df K "leaves_along" gz s0 w5)
  (i4:Df K "beyond_leaf" hJ s1 w6)
  (i5:Df K "touches" nA s2 w7)
  (i6:Df K "leaf_at" nB s3 w8)
  (i7:Df K "alike_around" gB s4 w9)
  (i8:Df K "members_from" gw s5 x0)
  (i9:Df K "bare_parts" iT s6 x1)
  (j0:Df K "ends_of_part" gA s7 x2)
  (j1:Df K "pieces_round" gp s8 x3)
  (j2:Df K "piece_behind" gr s9 x4)
  (j3:Df K "ring_from" jB t0 x5)
  (a25:PySem.W.nsIn K mainGlobals "rings" = some (some (.ref m5))) (p6:K.lookup m5=some ⟨o3,n7,.func (PySem.W.fnOf "rings" "rings" (b_ iN) (bO iN) (aq iN) .none o4 o5 o6 n8 h9 o7),o0⟩) (p7:PySem.W.codeIn K h9 "rings" = true) (k25:PySem.W.keepIn K (.ref m5)=true)
  (j4:Df K "_law_at" qf t1 x6)
  (j5:Df K "_law_code" lJ t2 x7)
  (j6:Df K "_law_colour" iS t3 x8)
  (j7:Df K "_law_paints" iQ t4 x9)
  (j8:Df K "_law_tree_of" gY t5 g30)
  (e8:Df K "_law_tree_by" gZ t6 g31)
  (j9:Df K "_law_grid" lI t7 g32)
  (k0:Df K "_law_tree_of_rows" dM t8 g33)
  (k1:Df K "_law_sheet_by_digits" cW t9 g34)
  (k2:Df K "_law_sheet" jE u8 g35)
  (e9:Df K "_law_leaves" iR u9 g36)
  (k3:Df K "_law_square" iP v0 g37)
  (k4:Df K "_law_met" nD v1 g38)
  (k5:Df K "_law_land" lH v2 g39)
  (k6:Df K "_law_in_land" g_ v3 g40)
  (k8:Df K "_law_lines" jG v4 g41)
  (k9:Df K "_law_along" jH v5 g42)
  (l0:Df K "_law_ahead" jI v6 g43)
  (l1:Df K "_law_turns_right" dZ v7 g44)
  (l2:Df K "_law_way_right" fD v8 g45)
  (l3:Df K "_law_is_ring" g7 v9 g46)
  (l4:Df K "_law_right" jF w0 g47)
  (a48:PySem.W.nsIn K mainGlobals "law" = some (some (.ref m6))) (l48:K.lookup m6=some ⟨o8,n9,.func (PySem.W.fnOf "law" "law" (b_ my) (bO my) (aq my) .none m0 m1 m2 l9 i0 m3),o1⟩) (c48:PySem.W.codeIn K i0 "law" = true) (k48:PySem.W.keepIn K (.ref m6)=true)
  (z0:PySem.W.nsIn K mainGlobals "isinstance" = some none)
  (z1:PySem.W.nsIn K mainGlobals "int" = some none)
  (z2:PySem.W.nsIn K mainGlobals "bool" = some none)
  {zt3:Tok} (z3:PySem.W.nsIn K mainGlobals "MOST" = some (some (.int 40 zt3)))
  (z4:PySem.W.nsIn K mainGlobals "all" = some none)
  (z5:PySem.W.nsIn K mainGlobals "str" = some none)
  (z6:PySem.W.nsIn K mainGlobals "len" = some none)
  {zt7:Tok} (z7:PySem.W.nsIn K mainGlobals "QUARTERS" = some (some (.str "0123" zt7)))
  (z8:PySem.W.nsIn K mainGlobals "range" = some none)
  (z9:PySem.W.nsIn K mainGlobals "tuple" = some none)
  (z10:PySem.W.nsIn K mainGlobals "sorted" = some none)
  (z11:PySem.W.nsIn K mainGlobals "dict" = some none)
  (z12:PySem.W.nsIn K mainGlobals "max" = some none)
  (z13:PySem.W.nsIn K mainGlobals "min" = some none)
  (z14:PySem.W.nsIn K mainGlobals "abs" = some none)
  (z15:PySem.W.nsIn K mainGlobals "list" = some none)
  {aS aC p0 p1 p2 p3:Addr} {oS r0 r1 r2 r3:Option Addr} {ts0 ts1 ts2 ts3 dk0 dk1 dk2 dk3:Tok} {nC nS:Nat} {slS:Array (Option Value)}
  (u0:PySem.W.nsIn K mainGlobals "SIDES" = some (some (.ref aS))) (u1:K.lookup aS=some ⟨.type "tuple",oS,.seq #[.str "up" ts0,.str "right" ts1,.str "down" ts2,.str "left" ts3] nS,slS⟩)
  (u2:PySem.W.nsIn K mainGlobals "CROSSINGS" = some (some (.ref aC))) (u3:K.lookup aC=some ⟨.type "dict",none,.dict #[⟨PyData.keyHash w.params "up",.str "up" dk0,.ref p0⟩,⟨PyData.keyHash w.params "right",.str "right" dk1,.ref p1⟩,⟨PyData.keyHash w.params "down",.str "down" dk2,.ref p2⟩,⟨PyData.keyHash w.params "left",.str "left" dk3,.ref p3⟩] nC,#[]⟩)
  {ta0 tb0:Tok} {nn0:Nat} {sk0:Array (Option Value)} (u4:K.lookup p0=some ⟨.type "tuple",r0,.seq #[.str "2301" ta0,.str "23" tb0] nn0,sk0⟩)
  {ta1 tb1:Tok} {nn1:Nat} {sk1:Array (Option Value)} (u5:K.lookup p1=some ⟨.type "tuple",r1,.seq #[.str "1032" ta1,.str "02" tb1] nn1,sk1⟩)
  {ta2 tb2:Tok} {nn2:Nat} {sk2:Array (Option Value)} (u6:K.lookup p2=some ⟨.type "tuple",r2,.seq #[.str "2301" ta2,.str "01" tb2] nn2,sk2⟩)
  {ta3 tb3:Tok} {nn3:Nat} {sk3:Array (Option Value)} (u7:K.lookup p3=some ⟨.type "tuple",r3,.seq #[.str "1032" ta3,.str "13" tb3] nn3,sk3⟩)
  {B a1:Addr}
  (y0:PySem.W.nsIn K mainGlobals "NoSide" = some (some (.ref B)))
  (y1:PySem.W.nsIn K mainGlobals "SheetError" = some (some (.ref a1)))
  (y2:PySem.W.excIn K B bmV "ValueError.__new__" = true)
  (y3:PySem.W.findIn K (.ref B) "__getattribute__" = some (some (.builtin "BaseException.__getattribute__")))
  (y4:PySem.W.findIn K (.ref B) "__getattr__" = some none)
  (y5:PySem.W.findIn K (.ref B) "__class__" = some (some (.builtin "object.__class__")))
  (y6:PySem.W.subIn K (.ref B) (.type "object")=some true)
  (y7:PySem.W.subIn K (.ref B) (.type "BaseException")=some true)
  {h6:ClassData}
  (y8:PySem.W.clsIn K B=some h6)
  (y9:PySem.W.exmOne K (.ref B) (.ref a1)=some true)
  (y10:PySem.W.kitOne K (.ref B) (.type "ValueError")=some true)
  {ts:List Addr} {c8 l5:Addr} {p8:Value} {p9:Option Addr} {m4:Array Value} {q4:Array (Option Value)}
  (q5:h9=.ref l5) (q6:K.lookup l5=some ⟨p8,p9,.fields m4,q4⟩) (q7:m4[11]? = some (.ref c8)) (q8:PySem.W.codeHdIn K l5 c8=true) (n25:K.lookup c8=none) (m25:c8∈ts)
  (nd:([c8]:List Addr).Nodup)
  : ∃ (fd:FuncData) (Ps:List Addr) (sp:Sp),(∀ (s:Shared) (v:Value),BindsTo s fd ⟨[v],[]⟩ [("_law_script",v)])∧(∀ Pt∈Ps,Pt∈ts∧K.lookup Pt=none∧∃ c,PySem.W.CodeHd h c Pt) ∧
   (∀ base:Heap,K.In base→base.Ns mainGlobals mg→ni mg base→bA l.prog w K mg base (CXe l.prog w) 51 fa fd ["_law_script"] sp) ∧
   ∀ (H:Hp) (a:Addr) (ns:List Int),ns.length≤63→(∀ Pt∈Ps,H Pt=some (.tbl #[]))→SqL K H a (ns.map V.int)→sp [.ref a] H (fun v _=>v=.bl true) fun _ _ _=>False:=by
 have e:=hfa.symm.trans (PySem.W.mg_of X G a48);cases e;have T:Tx K mg:=⟨PySem.W.mg_none_of X G z0,PySem.W.mg_none_of X G z1,PySem.W.mg_none_of X G z2,⟨_,PySem.W.mg_of X G z3⟩,PySem.W.mg_none_of X G z4,PySem.W.mg_none_of X G z5,PySem.W.mg_none_of X G z6,⟨_,PySem.W.mg_of X G z7⟩,PySem.W.mg_none_of X G z8,PySem.W.mg_none_of X G z9,PySem.W.mg_none_of X G z10,PySem.W.mg_none_of X G z11,PySem.W.mg_none_of X G z12,PySem.W.mg_none_of X G z13,PySem.W.mg_none_of X G z14,PySem.W.mg_none_of X G z15⟩;have U:Ty l.prog w K mg:=⟨⟨aS,PySem.W.mg_of X G u0,_,_,_,u1,rfl,rfl,(by show 4≤sizeLine;decide),.cons ⟨_,rfl⟩ (.cons ⟨_,rfl⟩ (.cons ⟨_,rfl⟩ (.cons ⟨_,rfl⟩ .nil)))⟩,aC,p0,p1,p2,p3,PySem.W.mg_of X G u2,kd4 u3,⟨_,_,_,u4,rfl,rfl,(by show 2≤sizeLine;decide),.cons ⟨_,rfl⟩ (.cons ⟨_,rfl⟩ .nil)⟩,⟨_,_,_,u5,rfl,rfl,(by show 2≤sizeLine;decide),.cons ⟨_,rfl⟩ (.cons ⟨_,rfl⟩ .nil)⟩,⟨_,_,_,u6,rfl,rfl,(by show 2≤sizeLine;decide),.cons ⟨_,rfl⟩ (.cons ⟨_,rfl⟩ .nil)⟩,⟨_,_,_,u7,rfl,rfl,(by show 2≤sizeLine;decide),.cons ⟨_,rfl⟩ (.cons ⟨_,rfl⟩ .nil)⟩⟩;have Y:Yx K mg:=⟨B,a1,PySem.W.mg_of X G y0,PySem.W.mg_of X G y1,⟨PySem.W.mg_of X G y0,y2⟩,⟨y3,y4,y5,y6,y7,by rw[y8];rfl⟩,y9,y10⟩;have F7:=pE (st:=dk) l7 c7 k7;have q9:=pE (st:=iN) p6 p7 k25;have F48:=pE (st:=my) l48 c48 k48;have b7:=F7.bindsD (ps:=["level","least"]) (ds:=[]) d7 rfl fun _ _ _ _ _ _ us hl=>by obtain⟨a,b,rfl⟩:=Ew ((Ij List.length (II us)).symm.trans hl);exact⟨_,rfl,rfl⟩
 have bd7:=F7.bindsD (ps:=["level","least"]) (ds:=[.int 0 p5]) d7 rfl fun _ _ _ _ _ _ us hl=>by obtain⟨a,rfl⟩:=G9 hl;exact⟨_,rfl,rfl⟩
 have b25:=q9.binds (ps:=["sheet","x","y"]) fun _ _ _ _ _ _ us hl=>by obtain⟨a,b,c,rfl⟩:=Ev hl;exact rfl
 have r4:=AH q5 q6 q7 q8;have r5:=DT (st:=iN) p6 p7 r4;obtain⟨Tb,n6⟩:∃ Tb:List (Addr × Str),Tb=[(c8,w_)]:=⟨_,rfl⟩;have hnd:(Tb.map (·.1)).Nodup:=by rw[n6];exact nd
 have h7:(c8,w_)∈Tb:=by rw[n6];simp
 refine⟨PySem.W.fnOf "law" "law" (b_ my) (bO my) (aq my) .none m0 m1 m2 l9 i0 m3,Tb.map (·.1),AM K Tb,fun s v=>.of_eq rfl,fun Pt l8 =>?_,fun base KXb _ hB =>?_,fun H a ns hl hO hS=>⟨a,ns,rfl,hS,hl,fz.start hO,fun _=>rfl⟩⟩
 ·rw[n6]at l8;have l8:=Hv.mp l8;subst l8;exact⟨m25,n25,(vf X r4).elim fun c h=>⟨c,h.2⟩⟩
 have O:∀ {x st f fd j ps sp},Df K x st f fd→bA l.prog w K mg base (CXe l.prog w) j f fd ps sp→eF K fd ps []→Fok l.prog w K mg base (CXe l.prog w) j x ps [] sp:=fun d o b=>fok d.F o b (PySem.W.mg_of X G d.a);have h1:=O m7 (xp T U m7.F) (bd1 m7.F);have h2:=O m8 (vV T m8.F) (bd1 m8.F);have b0:=O m9 (tU T bq m9.F h2) (bd1 m9.F);have e1:=O n0 (tT T Y bq n0.F h1) (bd1 n0.F);have h8:=O n1 (zR T Y U bq n1.F b0 e1) (bd2 n1.F);have b3:=O n2 (vK T n2.F) (bd1 n2.F);have b4:=O n3 (vL T bq n3.F b3) (bd1 n3.F);have d1:Fok l.prog w K mg base (CXe l.prog w) 3 "need_level" ["level","least"] [] (dA):=fok F7 (kQ T bq F7 b4) b7 (PySem.W.mg_of X G a7)
 have b6:Fok l.prog w K mg base (CXe l.prog w) 3 "need_level" ["level","least"] [.int 0] (dA):=Hg F7 (kQ T bq F7 b4) bd7 (.cons ⟨_,rfl⟩ .nil) (PySem.W.mg_of X G a7)
 have b5:=O n4 (vG T n4.F) (bd1 n4.F);have d2:=O n5 (rD T bq n5.F b5 b3) (bd3 n5.F);have h3:=O i1 (xq T bq i1.F b6 d2) (bd3 i1.F);have e0:=O i2 (zQ T bq i2.F b0 d1 b5) (bd2 i2.F);have b8:=O e6 (jj T bq e6.F (bd2 e6.F) (PySem.W.mg_of X G e6.a) 41) (bd2 e6.F);have b2:=O i3 (zO T bq i3.F b8) (bd1 i3.F);have b9:=O e7 (jk T bq e7.F (bd3 e7.F) (PySem.W.mg_of X G e7.a) 41) (bd3 e7.F);have a5:=O i4 (qA T Y U bq i4.F h8 b9) (bd3 i4.F);have h4:=O i5 (xl T Y bq i5.F b2 a5) (bd1 i5.F);have h5:=O i6 (xm T bq i6.F h3) (bd3 i6.F);have c0:=O i7 (oI T bq i7.F b2 h4) (bd1 i7.F);have c1:=O i8 (oG T i8.F) (bd2 i8.F);have d3:=O i9 (rH T Y U bq i9.F e0 a5) (bd4 i9.F);have c2:=O j0 (oH T j0.F) (bd4 j0.F);have c3:=O j1 (oE T bq j1.F b2 e0 d3 c2) (bd2 j1.F);have c4:=O j2 (oF T j2.F) (bd2 j2.F);have e2:=O j3 (tR T bq j3.F c4) (bd2 j3.F);have l6:Fok l.prog w K mg base (CXe l.prog w) 50 "rings" ["sheet","x","y"] [] (pW l.prog w Tb):=fok q9 (BF T bq r5 KXb hB h7 hnd h5 c0 c1 c3 e2) b25 (PySem.W.mg_of X G a25)
 have a2:=O j4 (zP T j4.F) (bd2 j4.F);have e3:=O j5 (vJ T j5.F) (bd2 j5.F);have a6:=O j6 (rG T j6.F) (bd1 j6.F);have c9:=O j7 (rF T bq j7.F a2 e3 a6) (bd4 j7.F);have a3:=O j8 (qx T j8.F) (bd4 j8.F);have a4:=O e8 (jO T bq e8.F a3 (bd1 e8.F) (PySem.W.mg_of X G e8.a) 41) (bd1 e8.F);have e4:=O j9 (vI T bq j9.F a2) (bd3 j9.F);have J:=O k0 (kE T bq k0.F a3) (bd1 k0.F);have a0:=O k1 (iY T bq k1.F J a4) (bd1 k1.F);have d4:=O k2 (tV T bq k2.F a2 a0 J e4 c9 a6 a4) (bd1 k2.F);have d0:=O e9 (kR T bq e9.F (bd2 e9.F) (PySem.W.mg_of X G e9.a) 41) (bd2 e9.F);have a8:=O k3 (rE T k3.F) (bd2 k3.F);have h0:=O k4 (xo T k4.F) (bd2 k4.F);have e5:=O k5 (vH T bq k5.F a8 h0) (bd3 k5.F);have c5:=O k6 (qz T k6.F) (bd3 k6.F);have d5:=O k8 (tX T k8.F) (bd2 k8.F);have d6:=O k9 (tY T k9.F) (bd5 k9.F);have d8:=O l0 (tZ T l0.F) (bd2 l0.F);have a9:=O l1 (lQ T l1.F) (bd3 l1.F);have b1:=O l2 (nM T bq l2.F d5 d6 d8 c5 a9) (bd4 l2.F);have c6:=O l3 (qy T l3.F) (bd1 l3.F);have d9:=O l4 (tW T bq l4.F c6 b1) (bd2 l4.F);exact Fa T bq F48 d4 d0 a2 a8 e5 l6 d9
theorem GP {l:PySem.W.OpenLaw}{q:Program}{B:List Str}{Y:(Str→Option Value)→Heap→Prop}{G:World→Heap→Prop}{d:DefRec}{K:Params→PySem.W.Frag}{ts:List Addr}(hn:l.most=some 63)(J:d.params.defaults=[])
  (hY:∀ (w:World) (h:Heap),G w h→(K w.params).In h) (hT:∀ (w:World) (h:Heap),G w h→∀ P∈ts,h.get? P=some (PySem.W.tabObj #[]))
  (F:∀ (w:World) (mg:Str→Option Value) (O:Addr) (h:Heap),(K w.params).In h→h.Ns mainGlobals mg→mg d.name=some (.ref O) →
   ∃ (fd:FuncData) (Ps:List Addr) (sp:Sp),(∀ (s:Shared) (u:Value),BindsTo s fd ⟨[u],[]⟩ [("_law_script",u)])∧(∀ Pt∈Ps,Pt∈ts∧(K w.params).lookup Pt=none∧∃ c,PySem.W.CodeHd h c Pt) ∧
    (∀ base:Heap,(K w.params).In base→base.Ns mainGlobals mg→ni mg base→bA l.prog w (K w.params) mg base (CXe l.prog w) 51 O fd ["_law_script"] sp) ∧
    ∀ (H:Hp) (a:Addr) (U:List Int),U.length≤63→(∀ P∈Ps,H P=some (.tbl #[]))→SqL (K w.params) H a (U.map V.int)→sp [.ref a] H (fun v _=>v=.bl true) fun _ _ _=>False) :
  PySem.W.WalkO q B Y G l.row.toRowW d [] (fun f vs=>PySem.call f vs) :=
 L2.Ax (n:=63) (k:=51) (x := "_law_script") (CX:=fun w=>(CXe l.prog w)) hn (by decide) J ⟨rfl,by decide,by decide⟩ hY hT F fun _ _ _ _ _ z=>bq _ _ _ _ _ z
end Qs
end
end
-- Names taken ahead: a twin equation of the head whose name stands already is not laid anew.
open Lean in
local macro_rules
 | `(#check $s:str)=>return mkNullNode (← (s.getString.splitOn " ").toArray.mapM fun n => `(theorem $(mkIdent (.str `PySem.W.Fast ("tw" ++ n))) : True:=⟨⟩))
#check "10065736289498416839 9288786363642076008 10039859935617669290 3572753330207231081 18319425388926891463 8273382119019009676 7458314150615254156 8176197340367281489 16408629239754212339 13133882929758482282 640000877793427927 15681857124649758530 16568154583498053623 5970313458218261336 18359126963752951531 4650735093823526359 3005872526223716325 13502708476138799745 4801530022801978720 7849294177001480093 4570343341623194203 1910177515872012237 14649300019284351341 3845832104055722097 3671282868504344590 11445989396308357898 11108166550843900048 17349079548318183979 18192474224949509574 17149606777172356287 13574250266823022388 9327486730490887926 16122009838583038152 13528226633025321369 11483459173068957205 17889630630846637035 18176585715388858649 7112101830669809948 13800859476332347424 11152503784368954501 14343337881221403157 1996350010677226862 12713812216750998993 11873954654781988426 10875792920784560287 16712000056692150574 17782494781426827282 9894745110078892770 1600166733707230664 16154102116175721854 17115845691649372822 7949360081053002997 6951064956738163082 3211890783837999710 4056158369547359894 5771537996911713830 14905183674071655592 16663779554587944274 7689153120842696539 1056484852160821004 14841602076659254782 927810078689745673 7219165856259296730 14661349887738388466 11057496917358503959 1879281537697815043 5590490320758748986 17456920137984606885 4811370381977037206 15879430373469775339 15662260930069737580 9648445233600536273 18743651927694982 7826303888182760247 16649438735778234959 15916648855348911918 4795162509690292698 3720203203812126006 5554169276443626389 12861946067261142788 7985877177969799625 3207066187134350679 18415348676536714924 15580799019122130604 13855268740395949939 15185460488760428791 17695495766548189301 9815354069472680748 8056985860405050871 17440786378377225087 12725521247170449140 8481787061373726057 3587372300150816309 9911548945102933516 6299833780607658225 7092820968044110930 6009484230503406915 9204421196049548481 13154804985431867274 2115727038224729644 12886638074158500076 6274847032015648736 8824139998594187592 15095100334000685739 1733701309794309143 1063650318506296624 379522695048714303 6368736408299252209 17599757576674066462 6010271561306102 14621323617728718525 3560663926764520129 5210003702100311701 2091880218566320558 14681850847410346994 1729194971810393221 12698366514881050072 14158715533665581791 6774681542871289838 8432333865656328801 11708202244921161265 1804408931489176111 12226714861923650895 6983232656698111343 3336393089651619474 2753792289102648519 2319325637158701955 16248493897327691655 3180677495995443728 17332605600679605385 10677547565226741332 5523615883202138062 17887342169350661621 15436747889903463136 9191061147514621626 5381880843001180848 758764158575749538 9768926053079588331 7040701274041348368 6917234023949072522 9690085411651699766 13315847824104602664 14890701966648133925 11176609487922278578 7278289286879328341 367872891873625035 7885442699404102206 6178867521546376266 9499635151450604523 9312329602683327569 14240071585079438208 10818876469486915587 2771654802503044827 11990540093818199621 12405041096090495839 16786690872428334077 9458167495644015561 11978835194582606705 1314937600619818465 5254439043698100191 16826843275764035198 1999022687191603524 10940575781952677523 13967767841473628610 8567759874724826877 74984607711101451 4571198828335339535 14574277754771743423 16728360518000217744 9206778512156692606 12684133885731425229 3467231753316413783 9944024406485868618 1898429689041599310 15615091020632509655 3328150084623223049 1965992811757251176 8282044558311812718 10175760005149379361 10689422239069899640 6117194892172614734 9779332342988385465 3806082440451537309 13046239365059067735 6685135629480040846 6306917517157422007 10083660728710734224 17117663765253069729 5705691998217339143 8662636530975837931 9491095565715447399 11697169678334316635 14135689043894924550 7197901767137722300 5507089617112043501 12223502151965516791 9304004317364799153 10592442423703233991 8226413044534367927 18031596658970667527 8227991667656707380 18264345975257518643 949675200659983657 16545359758528246069 17348054800691851356 12478586918562185172 2478794816661177516 10087982698844024241 10001748846713800920 16845850929811061363 17336845660204376211 6131928601017785439 17607559867523550248 17720615433774798533 4629769529836053611 17589529401670329463 4425964442915588203 18443799541811417086 16784337538698462209 6354236157380786449 9853397228004614860 8632225131158247526 753679805592187462 3845275017820680135 14391843085697224431 17790214450752928469 17231996936936317045 5739744847413585398 7721100068314815135 17200108875773098219 5620299407373155701 7837516160445655001 10495533641478399112 10207920285820413065 18016056705758511360 16532426968478557350 3685508591482899044 9122265793258031127 5653331969140263449 7576002716303325220 4937079967548288807 9423779430444878284"
open PySem PySem.W PyProof.Rows
set_option maxRecDepth 100000 in
set_option maxHeartbeats 0 in
theorem PySem.Challenge.cw_quartersheet_k65_rings_gone_along_holds : PySem.Challenge.rw_quartersheet_k65_rings_gone_along.Holds := by
 w_on;o_law;k_head;(case hw=>w_witness2)
 k_fill
 refine Qs.GP (l:=PySem.Challenge.rw_quartersheet_k65_rings_gone_along) rfl rfl (fun w h Y=>PySem.W.km_in_of Y) (fun w h Y=>PySem.W.km_tabs_of Y) ?F
 case F =>
  intro w mg fa h KX G hmg
  refine' Qs.FJ KX G hmg (Qs.df ..) (Qs.df ..) (Qs.df ..) (Qs.df ..) (Qs.df ..) (Qs.df ..) (Qs.df ..) _ _ _ _ _ (Qs.df ..) (Qs.df ..) (Qs.df ..) (Qs.df ..) (Qs.df ..) (Qs.df ..) (Qs.df ..) (Qs.df ..) (Qs.df ..) (Qs.df ..) (Qs.df ..) (Qs.df ..) (Qs.df ..) (Qs.df ..) (Qs.df ..) (Qs.df ..) (Qs.df ..) _ _ _ _ (Qs.df ..) (Qs.df ..) (Qs.df ..) (Qs.df ..) (Qs.df ..) (Qs.df ..) (Qs.df ..) (Qs.df ..) (Qs.df ..) (Qs.df ..) (Qs.df ..) (Qs.df ..) (Qs.df ..) (Qs.df ..) (Qs.df ..) (Qs.df ..) (Qs.df ..) (Qs.df ..) (Qs.df ..) (Qs.df ..) (Qs.df ..) (Qs.df ..) _ _ _ _ _ _ _ _ _ _ _ _ _ _ _ _ _ _ _ _ _ _ _ _ _ _ _ _ _ _ _ _ _ _ _ _ _ _ _ _ _ _ _ _ _ _
  all_goals try first | k_is | exact rfl | kernel_rfl | decide | k_exc | kts_exm | kit_is
