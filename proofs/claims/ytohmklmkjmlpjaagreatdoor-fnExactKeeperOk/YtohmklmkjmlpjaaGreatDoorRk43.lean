/- Parts. -/
import Derived.Test.YtohmklmkjmlpjaaGreatDoorRk41
namespace Go.Proofs.YtohmklmkjmlpjaaGreatDoor
open Go.Proofs.Tryz
set_option maxHeartbeats 4000000
set_option maxRecDepth 100000
open Go.RowKit
open Mth
variable (w0 w:World) (wb:Nat) (n:Nd) (A:bQ) (G:aX) (c:Nat->Nat) (v:Value) (L:List Mg) (o:gK) {l R:List jK} {i k g:Nat} {rest:List Value}
abbrev aCL (s:jK):Value:= .agg (gJ s.i s.t s.k s.n)
theorem Vs (s:jK) (B:Nat) (m:Mg) (w:World) (hB:jI w B m):
 Calls prog 221 #[aCL s,.pointer (some ⟨B,0,none⟩)] w (eG w (.bool (iV m s))):=by
 have hBl:=aA hB;obtain⟨⟨p0,p1,p2,p3,p4,p5,p6⟩,_⟩:=eF hB;clear hB;obtain⟨mK,mF,mT,mI,mL,mk,mN⟩:=m;obtain⟨si,st,sk,sn⟩:=s;unfold iV;dsimp only at *;by_cases h1:si=mI
 .by_cases h2:st=mF
  .subst h1 h2;go_in
   go_wp2_with fail;go_ret;exact⟨Aac,ay w _⟩
  .have q2:(st == mF)=false:=by simpa using h2
   subst h1;go_in
   go_wp2_with fail;go_ret;exact⟨by simp[h2],ay w _⟩
 .have q1:(si == mI)=false:=Aaw
  go_in
  go_wp2_with fail;go_ret;exact⟨Abb,ay w _⟩
def pE (l:List jK) (m:Mg):Nat:=l.findIdx (iV m)
theorem aeA (a:Option Addr) (cap:Nat) (l:List jK) (B:Nat) (m:Mg) (w:World) (hl:l.length<=1000) (ha:SentAt w a l) (hB:jI w B m):
 Calls prog 250 #[.slice a l.length cap,.func (.func 221) #[] #[.pointer (some ⟨B,0,none⟩)]] w λe w'=>e= .returned (.int .i64 (if pE l m < l.length then(pE l m:Int) else -1))/\aI w w':=by
 have HC:=Hq (λs w1 (hb:aI w w1)=>Vs s B m w1 (au hB hb));have HA:=Hq ha
 have HN:Hid (∀i (hi:i < l.length),i < pE l m->iV m l[i]=false):=λi hi h=>by
  have:=List.not_of_lt_findIdx h
  simpa using this
 have HY:Hid (∀(hi:pE l m < l.length),iV m l[pE l m]=true):=λhi=>List.findIdx_getElem (w:=hi)
 have HLE:Hid (pE l m<=l.length):=List.findIdx_le_length;clear ha hB;generalize pE l m=R at *;go_in
 go_wp2_with fail;go_loopw [8] (λi wr=>∃k:Nat,k<=R/\i= .int .i64 k/\aI w wr) (λi _=>l.length - (intOf i).toNat)
 case atStart=>exact AQ
 case round=>
  obtain⟨k,hk,rfl,hbw⟩:=hrel;have HB:=Hq hbw;by_cases hkl:k < l.length
  .have aBU:(k:Int) < (l.length:Int):=Aaa
   obtain⟨g,off,e0,hg,q0,q1,q2,q3⟩:=SentAt.four (GR.At.below HA hbw) k hkl;have HCk:=Hq (HC l[k]);have HNk:=Hq (HN k hkl)
   have HYk:Hid (k=R->iV m l[k]=true):=λe=>by
    subst e
    exact HY hkl
   subst e0;clear hbw HC HN HY;generalize l[k]=sk at *;obtain⟨si,st,sx,sn⟩:=sk;dsimp only at q0 q1 q2 q3 HCk HNk HYk;by_cases hR:k=R
   .have hq:=ah HYk hR;subst hR;open ars in exact UQ
   .have hq:=ah HNk Aaa;open arq in exact UQ
  .have hRl:¬R < l.length:=Aaa
   have hke:k=l.length:=by have:=ah HLE;omega
   subst hke;have hnlt:decide ((l.length:Int) < (l.length:Int))=false:=Aac
   go_wp2_with fail;go_ret;exact⟨Aac,HB⟩
abbrev zS:List Value:=[.int .i64 0,.int .i64 0,.string ⟨#[]⟩,.int .i64 0]
theorem Hu (w:World) (ty:TypeId) (g o c:Nat) (cur:Array Value) (hg:w.heap[g]?=some (.cells cur 91 (0,0))) (hfit:o+4<=cur.size):
 (Builtin.clear_ #[36] ty #[.slice (some ⟨g,o,none⟩) 1 c]).run prog w= .ok (.tuple #[]) (w.setRow g (cur.toList.take o++zS++cur.toList.drop (o+4)).toArray):=by
 have hst:=run_storeCells_at prog g o 91 zS 0 cur w hg (by simpa using hfit) (by intro u hu;simp only[zS,List.mem_cons,List.not_mem_nil,or_false] at hu;rcases hu with rfl|rfl|rfl|rfl<;>rfl);have hzc:(Builtin.zeroCells (Value.cells (.agg (gJ 0 0 ⟨#[]⟩ 0))) 1).toList=zS:=Aab
 have h1:(Builtin.clear_ #[36] ty #[.slice (some ⟨g,o,none⟩) 1 c]).run prog w=((storeCells ⟨g,o,none⟩ zS).run prog w).andThen λ_ w'=> .ok (.tuple #[]) w':=by
  simp[Builtin.clear_,run_underlying underlying36];rw [hzc]
 rw [h1,hst];rfl
theorem mG (l:List jK):(GR.flat aS l).length=l.length*4:=GR.flat_length aS 4 bH l
theorem Qq:∀(vs a b:List Value) (o:Nat),o+vs.length<=a.length->GR.setRun (a++b) o vs=GR.setRun a o vs++b:=by
 intro vs;induction vs with
 |nil=>intro a b o _;rfl
 |cons v vs ih=>
  intro a b o h;simp only[List.length_cons] at h;show GR.setRun ((a++b).set o v) (o+1) vs=GR.setRun (a.set o v) (o+1) vs++b
  rw [List.set_append_left _ _ Aaa,ih _ _ _ (by rw [List.length_set];omega)]
abbrev SB (w:World) (g:Nat) (R:List jK) (rest:List Value):Prop:=w.heap[g]?=some (.cells (GR.flat aS R++rest).toArray 91 (0,0))
theorem SB.four {w:World} (h:SB w g R rest) (i:Nat) (hi:i < R.length):w.cell? ⟨g,i*4,none⟩=some (.int .i64 R[i].i)/\w.cell? ⟨g,i*4+1,none⟩=some (.int .i64 R[i].t)/\w.cell? ⟨g,i*4+2,none⟩=some (.string R[i].k)/\w.cell? ⟨g,i*4+3,none⟩=some (.int .i64 R[i].n):=by
 have hc:∀j,j < 4->w.cell? ⟨g,i*4+j,none⟩=(aS R[i])[j]?:=λj hj=>by
  rw [cell_of_row w g _ _ 91 (0,0) h,List.getElem?_toArray,List.getElem?_append_left (by rw [mG];omega)]
  exact GR.flat_at aS 4 bH R i hi j hj
 exact⟨hc 0 Aaa,hc 1 Aaa,hc 2 Aaa,hc 3 Aaa⟩
theorem SB.set {w:World} (h:SB w g R rest) (i:Nat) (hi:i < R.length) (x:jK):SB (GR.setW w g (i*4) (aS x)) g (R.set i x) rest:=by
 have h2:=GR.setW_blk (aS x) (o:=i*4) h;rw [Qq _ _ _ _ (by rw [mG,bH];omega),GR.flat_set aS 4 bH R i x hi] at h2;exact h2
namespace Mth
def lC (l:List jK) (i k:Nat):List jK:=(l.eraseIdx i).take k++l.drop k
theorem SE (h:i < l.length):lC l i i=l:=by
 unfold lC;rw [List.eraseIdx_eq_take_drop_succ,List.take_append_of_le_length Abj,List.take_take,Nat.min_self,List.take_append_drop]
theorem OP (h:i < l.length) (hk:k < l.length):(lC l i k).length=l.length:=by
 unfold lC;rw [List.length_append,List.length_take,List.length_eraseIdx_of_lt h,List.length_drop];omega
theorem aep (h:i < l.length) (hk:k+1 < l.length):(lC l i k)[k+1]?=some l[k+1]:=by
 unfold lC;rw [List.getElem?_append_right (by rw [List.length_take,List.length_eraseIdx_of_lt h];omega),List.length_take,List.length_eraseIdx_of_lt h,List.getElem?_drop];rw [show k+(k+1 - min k (l.length - 1))=k+1 by omega,List.getElem?_eq_getElem hk]
theorem WR (h:i<=k) (hk:k+1 < l.length):(lC l i k).set k l[k+1]=lC l i (k+1):=by
 have hlt:(List.take k (l.eraseIdx i)).length=k:=by rw [List.length_take,List.length_eraseIdx_of_lt Aaa];omega
 unfold lC;rw [List.set_append_right _ _ Aaa,hlt,Nat.sub_self,List.drop_eq_getElem_cons (show k < l.length by omega),List.set_cons_zero];have hke:k < (l.eraseIdx i).length:=by rw [List.length_eraseIdx_of_lt Aaa];omega
 rw [List.take_succ_eq_append_getElem hke,List.getElem_eraseIdx_of_ge hke h,List.append_assoc];rfl
theorem aa7 (h:i < l.length):lC l i (l.length - 1)=l.eraseIdx i++l.drop (l.length - 1):=by
 unfold lC;rw [List.take_of_length_le (by rw [List.length_eraseIdx_of_lt h];omega)]
theorem aaK {l:List jK} {m:Mg} (h:¬pE l m < l.length):l.filter (λs=> !iV m s)=l:=by
 rw [List.filter_eq_self];intro s hs;have h1:¬∃x∈l,iV m x=true:=λhx=>h (List.findIdx_lt_length_of_exists hx)
 cases hq:iV m s with
 |false=>rfl
 |true=>exact absurd ⟨s,hs,hq⟩ h1
theorem ad1 {m:Mg} (hp:l.Pairwise (λs t=>s.i < t.i)) (h:pE l m < l.length):l.filter (λs=> !iV m s)=l.eraseIdx (pE l m):=by
 have hy:iV m l[pE l m]=true:=List.findIdx_getElem (w:=h);have hid:l[pE l m].i=m.I:=(of_decide_eq_true hy).1
 have hno:∀j (hj:j < l.length),j≠pE l m->iV m l[j]=false:=λj hj hne=>by
  cases hq:iV m l[j] with
  |false=>rfl
  |true=>
   exfalso
   have h1:l[j].i=m.I:=(of_decide_eq_true hq).1;rcases Nat.lt_or_gt_of_ne hne with hlt|hgt
   .have:=List.pairwise_iff_getElem.1 hp j _ hj h hlt;omega
   .have:=List.pairwise_iff_getElem.1 hp _ j h hj hgt;omega
 have e:l=l.take (pE l m)++l[pE l m]::l.drop (pE l m+1):=by rw [<-List.drop_eq_getElem_cons h,List.take_append_drop]
 rw [List.eraseIdx_eq_take_drop_succ];generalize pE l m=R at *;have ef:l.filter (λs=> !iV m s)=(l.take R++l[R]::l.drop (R+1)).filter (λs=> !iV m s):=by rw [<-e]
 rw [ef,List.filter_append,List.filter_cons_of_neg (by rw [hy];simp)];congr 1
 .rw [List.filter_eq_self];intro s hs;obtain⟨j,hj,rfl⟩:=List.mem_iff_getElem.1 hs;rw [List.length_take] at hj;rw [List.getElem_take,hno j Aaa Aaa];rfl
 .rw [List.filter_eq_self];intro s hs;obtain⟨j,hj,rfl⟩:=List.mem_iff_getElem.1 hs;rw [List.length_drop] at hj;rw [List.getElem_drop,hno (R+1+j) Aaa Aaa];rfl
end Mth
theorem Sq (g cap:Nat) (l:List jK) (rest:List Value) (B R:Nat) (m:Mg) (w:World) (hl:l.length<=1000) (hR:R < l.length) (hno:∀j (hj:j < l.length),R < j->iV m l[j]=false) (hnc:l.length<=cap) (hcm:cap<=maxLen) (hrl:l.length*4+rest.length=cap*4) (hB:jI w B m) (hS:SB w g l rest) (hix:Calls Tryz.prog 250 #[.slice (some ⟨g,0,none⟩) l.length cap,.func (.func 221) #[] #[.pointer (some ⟨B,0,none⟩)]] w (eG w (.int .i64 (R:Int)))):
 Calls Tryz.prog 220 #[.slice (some ⟨g,0,none⟩) l.length cap,.func (.func 221) #[] #[.pointer (some ⟨B,0,none⟩)]] w λe w'=>e= .returned (.slice (some ⟨g,0,none⟩) (l.length - 1) cap)/\(∃aiZ,SB w' g (l.eraseIdx R) aiZ/\(l.length - 1)*4+aiZ.length=cap*4)/\w.grownBy w' (some g):=by
 have hne:B≠g:=λe=>by
  unfold jI at hB
  unfold SB at hS
  rw [e,hS] at hB
  simp at hB
 have HC:=Hq (λs w1 (hg:w.grownBy w1 (some g))=>Vs s B m w1 ((hg.block B (aA hB) (λe=>hne (by injection e))).trans hB));have l7:=Hq hno;have NI:=Hq hS;have HIX:=Hq hix;have hRI:¬((R:Int)= -1):=Aaa
 have hRb:((R:Int) == -1)=false:=beq_eq_false_iff_ne.2 hRI;clear hB hno hS hix hne;go_in
 go_wp2_with fail;refine HIX.mono ?_;rintro e w1 ⟨rfl,hb1⟩;have D9:=Hq (au NI hb1);have IW:=Hq (gP hb1 (some g));clear hb1 HIX;go_wp2_with fail;go_loopw [5,6] (λi j wr=>∃k jj:Nat,jj=k+1/\R<=k/\k < l.length/\i= .int .i64 k/\j= .int .i64 jj/\SB wr g (lC l R k) rest/\w.grownBy wr (some g)) (λi j _=>l.length - (intOf j).toNat)
 case atStart=>exact⟨R,R+1,rfl,Nat.le_refl _,hR,rfl,rfl,by rw [SE hR];exact D9,IW⟩
 case round=>
  obtain⟨k,jj,hjj,hk1,hk2,rfl,rfl,hSk,hGk⟩:=hrel;have HJJ:=Hq hjj;have HSk:=Hq hSk;have HGk:=Hq hGk;have hgl:=aA hSk;clear hSk hGk;by_cases hlt:k+1 < l.length
  .have OU:(jj:Int) < (l.length:Int):=Aaa
   have hkI:(k:Int) < (l.length:Int):=Aaa
   have ayg:k+1 < (lC l R k).length:=by rw [OP hR hk2];exact hlt
   have hqs:=SB.four HSk (k+1) ayg
   have hat:(lC l R k)[k+1]=l[k+1]:=by
    have:=aep hR hlt;rw [List.getElem?_eq_getElem ayg] at this;exact Option.some.inj this
   rw [hat] at hqs;have HST:=Hq (WR hk1 hlt);have HNk:=Hq (l7 (k+1) hlt Aaa);have HCk:=Hq (HC l[k+1]);clear hat;generalize l[k+1]=sk at *;rw [<-hjj] at hqs;obtain⟨q0,q1,q2,q3⟩:=hqs;clear hjj;obtain⟨si,st,sx,sn⟩:=sk;dsimp only at q0 q1 q2 q3 HNk HCk;go_upto_region 8 with fail;refine wp_at (λW hW=>?_);have e1:W.heap[wr.heap.size]?=some (.cells (gJ si st sx sn) 91 (0,0)):=Acn
   have iR:Hid (aI wr W):=by rw [hW];exact ay wr _
   obtain⟨c0,c1,c2,c3⟩:=iE e1;have hwl:=aA e1;have E1:=Hq e1;clear hW e1 q0 q1 q2 q3;go_wp2_with fail;refine(HCk W (HGk.andThen (gP iR none) (λj hj=>by cases hj))).mono ?_;rintro e W2 ⟨rfl,hb2⟩;have E2:=Hq (au E1 hb2);have HB2:=Hq (iR.trans (hb2.mono iR.size));have HS2:=Hq (au HSk HB2);have HG2:=Hq (HGk.andThen (gP HB2 none) (λj hj=>by cases hj));have ayk:k < (lC l R k).length:=Aaa
   obtain⟨r0,r1,r2,r3⟩:=SB.four HS2 k ayk;have f0:=aj HS2 (k*4);have f1:=aj HS2 (k*4+1);have f2:=aj HS2 (k*4+2);have f3:=aj HS2 (k*4+3);have aDg:=aA HS2;have akA:=aA E2;rw [ah HNk];clear c0 c1 c2 c3 hb2;obtain⟨c0,c1,c2,c3⟩:=iE E2;have Ea:=Hq (SB.set HS2 k ayk ⟨si,st,sx,sn⟩)
   have DY:Hid (W2.grownBy (GR.setW W2 g (k*4) (aS ⟨si,st,sx,sn⟩)) (some g)):=by
    have h:=aT (g:=g) (aS ⟨si,st,sx,sn⟩) W2 (k*4);exact⟨h.os,h.tape,h.output,h.size,λx hx hne=>h.block x hx (λhm=>hne (by have:x=g:=(by simpa using hm);rw [this]))⟩
   rw [ah HST] at Ea;go_wp2_with fail;go_roundw
   case rel=>exact⟨k+1,jj+1,by have:=ah HJJ;omega,Aaa,hlt,Aah,Aah,Ea,HG2.andThen DY (λj hj=> .inr hj)⟩
   case measure=>simp[intOf];omega
  .have hke:l.length - 1=k:=Aaa
   have hjl:jj=l.length:=Aaa
   have akf:l.length - k=1:=Aaa
   have ayh:=OP hR hk2;have hend:=aa7 hR;rw [hke] at hend;have hel:(l.eraseIdx R).length=k:=by rw [List.length_eraseIdx_of_lt hR];exact hke
   have hXl:(GR.flat aS (lC l R k)++rest).length=cap*4:=by rw [List.length_append,mG,ayh];exact hrl
   have hcl:∀ty c,(Builtin.clear_ #[36] ty #[.slice (some ⟨g,k*4,none⟩) 1 c]).run Tryz.prog wr= .ok (.tuple #[]) (wr.setRow g ((GR.flat aS (lC l R k)++rest).take (k*4)++zS++(GR.flat aS (lC l R k)++rest).drop (k*4+4)).toArray):=λty c=>by
    have h:=Hu wr ty g (k*4) c _ HSk (by rw [List.size_toArray,hXl];omega)
    exact h
   have HFB:Hid (SB (wr.setRow g ((GR.flat aS (lC l R k)++rest).take (k*4)++zS++(GR.flat aS (lC l R k)++rest).drop (k*4+4)).toArray) g (l.eraseIdx R) (zS++(GR.flat aS (lC l R k)++rest).drop (k*4+4))):=by
    have h:=setRow_heap wr g _ ((GR.flat aS (lC l R k)++rest).take (k*4)++zS++(GR.flat aS (lC l R k)++rest).drop (k*4+4)).toArray 91 _ HSk
    have ht:(GR.flat aS (lC l R k)++rest).take (k*4)=GR.flat aS (l.eraseIdx R):=by
     rw [hend,GR.flat_append,List.append_assoc];exact List.take_left' (by rw [mG,hel])
    rw [ht] at h;show SB _ g (l.eraseIdx R) _
    unfold SB;rw [<-List.append_assoc,ht];exact h
   have HRL:Hid (k*4+(zS++(GR.flat aS (lC l R k)++rest).drop (k*4+4)).length=cap*4):=by
    show k*4+(zS++(GR.flat aS (lC l R k)++rest).drop (k*4+4)).length=cap*4
    rw [List.length_append,List.length_drop,hXl];show k*4+(4+_)=_
    omega
   have HGF:Hid (w.grownBy (wr.setRow g ((GR.flat aS (lC l R k)++rest).take (k*4)++zS++(GR.flat aS (lC l R k)++rest).drop (k*4+4)).toArray) (some g)):=by
    refine HGk.andThen (row':=some g) ⟨rfl,rfl,rfl,Aac,λx hx hne=>setRow_other wr g x _ (λe=>hne Aao)⟩ (λj hj=> .inr hj)
   have hkc:k<=cap:=Aaa
   have hkI:(k:Int)<=(l.length:Int):=Aaa
   have aDp:(k:Int)<=(cap:Int):=Aaa
   have hcm2:cap<=9223372036854775807:=Acf
   have HKE:=Hq hke;generalize (GR.flat aS (lC l R k)++rest).take (k*4)++zS++(GR.flat aS (lC l R k)++rest).drop (k*4+4)=X2 at *;subst hjl;have hnlt:decide ((l.length:Int) < (l.length:Int))=false:=Aac
   clear HC l7 NI D9 IW HSk HGk hend hXl hel ayh hlt hke;go_wp2_with (simp only[akf,hcl])
   go_ret;exact⟨by rw [ah HKE];first|done|rfl,⟨_,HFB,by rw [ah HKE];exact HRL⟩,HGF⟩
def YR (w:World) (B:Nat) (v:Value) (l:List jK) (e:Ending) (w':World):Prop:=∃a c,e= .returned (.slice a l.length c)/\w'.ownsRow B 91 4 (.slice a l.length c) l.length (GR.flat aS l)/\w.grownBy w' v.ownBlock/\∀x,(Value.slice a l.length c).ownBlock=some x->v.ownBlock=some x
theorem KF (a:Option Addr) (cap:Nat) (l:List jK) (B:Nat) (w:World) (hix:Calls Tryz.prog 250 #[.slice a l.length cap,.func (.func 221) #[] #[.pointer (some ⟨B,0,none⟩)]] w (eG w (.int .i64 (-1)))):
 Calls Tryz.prog 220 #[.slice a l.length cap,.func (.func 221) #[] #[.pointer (some ⟨B,0,none⟩)]] w (eG w (.slice a l.length cap)):=by
 have HIX:=Hq hix;clear hix;go_in
 go_wp2_with fail;refine HIX.mono ?_;rintro e w1 ⟨rfl,hb1⟩;have HB:=Hq hb1;clear hb1 HIX;go_wp2_with fail;go_ret;exact⟨rfl,HB⟩
theorem aef (B0:Nat) (a:Option Addr) (cap:Nat) (l:List jK) (B:Nat) (m:Mg) (w:World) (hl:l.length<=1000) (hp:l.Pairwise (λs t=>s.i < t.i)) (hB:jI w B m) (ho:w.ownsRow B0 91 4 (.slice a l.length cap) l.length (GR.flat aS l)):
 Calls Tryz.prog 220 #[.slice a l.length cap,.func (.func 221) #[] #[.pointer (some ⟨B,0,none⟩)]] w (YR w B0 (.slice a l.length cap) (l.filter (λs=> !iV m s))):=by
 have hat:SentAt w a l:=by
  obtain⟨a',cp,he,ha⟩:=GR.own_at (enc:=aS) (sz:=4) (l:=l) bH ho;cases he
  exact ha
 have hix:=aeA a cap l B m w hl hat hB;by_cases h:pE l m < l.length
 .rw [if_pos h] at hix;rw [ad1 hp h];have hy:iV m l[pE l m]=true:=List.findIdx_getElem (w:=h);have hid:l[pE l m].i=m.I:=(of_decide_eq_true hy).1
  have hno:∀j (hj:j < l.length),pE l m < j->iV m l[j]=false:=λj hj hlt=>by
   cases hq:iV m l[j] with
   |false=>rfl
   |true=>
    exfalso
    have h1:l[j].i=m.I:=(of_decide_eq_true hq).1;have:=List.pairwise_iff_getElem.1 hp _ j h hj hlt;omega
  open atZ in exact ZX
 .rw [if_neg h] at hix;rw [aaK h];refine(KF a cap l B w hix).mono ?_;rintro e w' ⟨rfl,hb⟩;exact⟨a,cap,rfl,GR.own_below ho hb,gP hb _,λx hx=>hx⟩
theorem WK.setOut {w0 w w':World} {wb:Nat} {n:Nd} {A:bQ} {G:aX} {c:Nat->Nat} {v:Value} {L:List Mg} {a:Option Addr} {cp:Nat} (h:WK w0 w wb n A G c v L) (hg:w.grownBy w' (Value.slice A.o n.out.length A.co).ownBlock) (ho:w'.ownsRow w0.heap.size 91 4 (.slice a l.length cp) l.length (GR.flat aS l)) (hx:∀x,(Value.slice a l.length cp).ownBlock=some x->(Value.slice A.o n.out.length A.co).ownBlock=some x):
 w'.heap[wb]?=some (.cells (VR n A v) 192 (0,0))/\WK w0 (w'.setCell ⟨wb,5,none⟩ (.slice a l.length cp)) wb (setOut n l) ⟨A.k,A.p,a,A.s,A.r,A.ck,A.cp,cp,A.cs,A.cr⟩ G c v L:=by
 have hN:=h.no;have k3:KC c 3 w w':=KC.grown hg (λx hx=>hN.co x hx);have hb1:=k3.obj h.blk (by rw [h.cw];omega);have k8:KC c 8 w' (w'.setCell ⟨wb,5,none⟩ (.slice a l.length cp)):=KC.set h.cw;have hbel:=k3.below h.keep hN.lo Aaa h.keep.size;have hco:∀x,(Value.slice a l.length cp).ownBlock=some x->c x=3:=λx hx'=>hN.co x (hx x hx')
 refine⟨hb1,k8.below hbel hN.lo Aaa (Nat.le_trans h.keep.size k3.size),aN hb1 5 (.slice a l.length cp),⟨k8.w (k3.w hN.k hN.ck Aaa) hN.ck Aaa,k8.w (k3.w hN.p hN.cp Aaa) hN.cp Aaa,k8.own ho hco Aaa,k8.seen (k3.seen hN.s hN.c4 hN.ci Aaa Aaa) hN.c4 hN.ci Aaa Aaa,k8.own (k3.own hN.r hN.cr Aaa) hN.cr Aaa,hN.lo,hN.ck,hN.cp,hco,hN.c4,hN.ci,hN.cr,hN.ni⟩,k8.own (k3.own h.m h.cm Aaa) h.cm Aaa,h.cm,h.cw⟩
theorem Un (hz:eU n 1048576) (hb:hasB n.kids o.m.F=false) (hK:o.m.K=0) (h:WK w0 w wb n A G c v L):Calls Tryz.prog 181 #[.pointer (some ⟨wb,0,none⟩),jG o] w λe w'=>e= .returned (.int .i64 (fO n o.m).2.2)/\∃A' G' c' v',WK w0 w' wb (fO n o.m).1 A' G' c' v' (L++(fO n o.m).2.1):=by
 have HKD:=Hq (λw1 (ha:dw w1 A n)=>Bl n A o.m.F w1 (Nat.le_trans hz.k Aaa) ha.k);rw [hb] at HKD
 have HR:Hid (fO n o.m=(n,[],1)):=by
  show fO n o.m=_
  unfold fO;rw [if_neg Aaa,if_neg Aaa,if_neg (by rw [hb];simp)]
 rw [ah HR];clear hz hb HR;open aA1 in exact av7
theorem Q5 (E:Nat->Addr) (hz:eU n 1048576) (hok:dW n=true) (hm:cZ o.m=true) (hL:L.length<=2097100) (hb:hasB n.kids o.m.F=true) (hK:o.m.K=0) (h:WK w0 w wb n A G c v L) (he:iG w0 E):Calls Tryz.prog 181 #[.pointer (some ⟨wb,0,none⟩),jG o] w λe w'=>e= .returned (.int .i64 (fO n o.m).2.2)/\∃A' G' c' v',WK w0 w' wb (fO n o.m).1 A' G' c' v' (L++(fO n o.m).2.1):=by
 have hw:=JA hm hK;have HKD:=Hq (λw1 (ha:dw w1 A n)=>Bl n A o.m.F w1 (Nat.le_trans hz.k Aaa) ha.k);rw [hb] at HKD;have Gq:=Hq (λW (hW:WK w0 W wb n A G c v L)=>ai1 w0 W wb n A G c v L o.m.F o.m.k o.m.N E hok hw.1 hw.2.1 hw.2.2 hL hW he)
 have HR:Hid (fO n o.m=((eZ n o.m.F o.m.k o.m.N).1,(eZ n o.m.F o.m.k o.m.N).2.1,0)):=by
  show fO n o.m=_
  unfold fO;rw [if_neg Aaa,if_neg Aaa,if_pos hb]
 rw [ah HR];clear hz hok hm hL he HR hw hb;generalize eZ n o.m.F o.m.k o.m.N=TT at *;open aA0 in exact av7
theorem BU (E:Nat->Addr) (hz:eU n 1048576) (hok:dW n=true) (hm:cZ o.m=true) (hF:dZ n o.m.F=true) (hks:o.m.k.size<=1048576) (hL:L.length<=2097100) (hb:(takeN n o.m).2=false) (hK:o.m.K=1) (h:WK w0 w wb n A G c v L) (he:iG w0 E):Calls Tryz.prog 181 #[.pointer (some ⟨wb,0,none⟩),jG o] w λe w'=>e= .returned (.int .i64 (fO n o.m).2.2)/\∃A' G' c' v',WK w0 w' wb (fO n o.m).1 A' G' c' v' (L++(fO n o.m).2.1):=by
 have hw:=EW hm hK;have NJ:=Hq (λW (hW:WK w0 W wb n A G c v L)=>adf w0 W wb n A G c v L o.m E hz hok hF hks hw.2.2.2.1 Aaa hw.2.1 hW he);rw [hb] at NJ
 have HR:Hid (fO n o.m=((takeN n o.m).1,[],1)):=by
  show fO n o.m=_
  unfold fO;rw [if_pos hK,hb];rfl
 open aup in exact agx
theorem Dn (E:Nat->Addr) (hz:eU n 1048576) (hok:dW n=true) (hm:cZ o.m=true) (hF:dZ n o.m.F=true) (hks:o.m.k.size<=1048576) (hL:L.length<=2097100) (hb:(takeN n o.m).2=true) (hK:o.m.K=1) (h:WK w0 w wb n A G c v L) (he:iG w0 E):Calls Tryz.prog 181 #[.pointer (some ⟨wb,0,none⟩),jG o] w λe w'=>e= .returned (.int .i64 (fO n o.m).2.2)/\∃A' G' c' v',WK w0 w' wb (fO n o.m).1 A' G' c' v' (L++(fO n o.m).2.1):=by
 have hw:=EW hm hK;have NJ:=Hq (λW (hW:WK w0 W wb n A G c v L)=>adf w0 W wb n A G c v L o.m E hz hok hF hks hw.2.2.2.1 Aaa hw.2.1 hW he);rw [hb] at NJ
 have HR:Hid (fO n o.m=((takeN n o.m).1,[Wx n o.m],0)):=by
  show fO n o.m=_
  unfold fO;rw [if_pos hK,hb];rfl
 open auo in exact agx
theorem Um (hok:dW n=true) (hK:o.m.K=2) (h:WK w0 w wb n A G c v L):Calls Tryz.prog 181 #[.pointer (some ⟨wb,0,none⟩),jG o] w λe w'=>e= .returned (.int .i64 (fO n o.m).2.2)/\∃A' G' c' v',WK w0 w' wb (fO n o.m).1 A' G' c' v' (L++(fO n o.m).2.1):=by
 have ho:=rM (bY hok).2.2.2.2.1;have HDL:=Hq (λW B (hB:jI W B o.m) hO=>aef w0.heap.size A.o A.co n.out B o.m W Aaa ho.1 hB hO);unfold YR at HDL
 have HR:Hid (fO n o.m=(setOut n (n.out.filter (λs=> !iV o.m s)),[],0)):=by
  show fO n o.m=_
  unfold fO;rw [if_neg Aaa,if_pos hK]
 rw [ah HR];clear hok ho HR;open ari in exact ZL
theorem alf (E:Nat->Addr) (hz:eU n 1048576) (hok:dW n=true) (hm:cZ o.m=true) (hF:dZ n o.m.F=true) (hks:o.m.k.size<=1048576) (hL:L.length<=2097100) (h:WK w0 w wb n A G c v L) (he:iG w0 E):Calls Tryz.prog 181 #[.pointer (some ⟨wb,0,none⟩),jG o] w λe w'=>e= .returned (.int .i64 (fO n o.m).2.2)/\∃A' G' c' v',WK w0 w' wb (fO n o.m).1 A' G' c' v' (L++(fO n o.m).2.1):=by
 rcases Jz hm with hK|hK|hK
 .cases hb:hasB n.kids o.m.F with
  |false=>exact Un w0 w wb n A G c v L o hz hb hK h
  |true=>exact Q5 w0 w wb n A G c v L o E hz hok hm hL hb hK h he
 .cases hb:(takeN n o.m).2 with
  |false=>exact BU w0 w wb n A G c v L o E hz hok hm hF hks hL hb hK h he
  |true=>exact Dn w0 w wb n A G c v L o E hz hok hm hF hks hL hb hK h he
 .exact Um w0 w wb n A G c v L o hok hK h
end Go.Proofs.YtohmklmkjmlpjaaGreatDoor
