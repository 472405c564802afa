/- Parts. -/
import Derived.Test.YtohmklmkjmlpjaaGreatDoorRc41
namespace Go.Proofs.YtohmklmkjmlpjaaGreatDoor
open Go.Proofs.Tryz
set_option maxHeartbeats 4000000
set_option maxRecDepth 100000
open Go.RowKit
open Mth
variable (w0 w:World) (wb:Nat) (n:Nd) (A:bV) (G:aR) (c:Nat->Nat) (v:Value) (L:List Mg) (o:gW) {l R:List jM} {i k g:Nat} {rest:List Value}
abbrev aER (s:jM):Value:= .agg (gV s.i s.t s.k s.n)
theorem WW (s:jM) (B:Nat) (m:Mg) (w:World) (hB:kC w B m):
 Calls prog 221 #[aER s,.pointer (some ⟨B,0,none⟩)] w (dZ w (.bool (jg m s))):=by
 have hBl:=aA hB;obtain⟨⟨p0,p1,p2,p3,p4,p5,p6⟩,_⟩:=eT hB;clear hB;obtain⟨mK,mF,mT,mI,mL,mk,mN⟩:=m;obtain⟨si,st,sk,sn⟩:=s;unfold jg;dsimp only at *;by_cases h1:si=mI
 .by_cases h2:st=mF
  .subst h1 h2;go_in
   go_wp2_with fail;go_ret;exact⟨Aac,ay w _⟩
  .have q2:(st == mF)=false:=by simpa using h2
   subst h1;go_in
   go_wp2_with fail;go_ret;exact⟨by simp[h2],ay w _⟩
 .have q1:(si == mI)=false:=Aax
  go_in
  go_wp2_with fail;go_ret;exact⟨Abc,ay w _⟩
def qB (l:List jM) (m:Mg):Nat:=l.findIdx (jg m)
theorem afC (a:Option Addr) (cap:Nat) (l:List jM) (B:Nat) (m:Mg) (w:World) (hl:l.length<=1000) (ha:SentAt w a l) (hB:kC w B m):
 Calls prog 250 #[.slice a l.length cap,.func (.func 221) #[] #[.pointer (some ⟨B,0,none⟩)]] w λe w'=>e= .returned (.int .i64 (if qB l m < l.length then(qB l m:Int) else -1))/\aI w w':=by
 have HC:=Hq (λs w1 (hb:aI w w1)=>WW s B m w1 (au hB hb));have HA:=Hq ha
 have HN:Hid (∀i (hi:i < l.length),i < qB l m->jg m l[i]=false):=λi hi h=>by
  have:=List.not_of_lt_findIdx h
  simpa using this
 have HY:Hid (∀(hi:qB l m < l.length),jg m l[qB l m]=true):=λhi=>aIb (w:=hi)
 have HLE:Hid (qB l m<=l.length):=List.findIdx_le_length;clear ha hB;generalize qB l m=R at *;go_in
 go_wp2_with fail;go_loopw [8] (λi wr=>∃k:Nat,k<=R/\i= .int .i64 k/\aI w wr) (λi _=>l.length - (intOf i).toNat)
 case atStart=>exact BM
 case round=>
  obtain⟨k,hk,rfl,hbw⟩:=hrel;have HB:=Hq hbw;by_cases hkl:k < l.length
  .have aDZ:(k:Int) < (l.length:Int):=Aaa
   obtain⟨g,off,e0,hg,q0,q1,q2,q3⟩:=SentAt.four (GR.At.below HA hbw) k hkl;have HCk:=Hq (HC l[k]);have HNk:=Hq (HN k hkl)
   have HYk:Hid (k=R->jg m l[k]=true):=λe=>by
    subst e
    exact HY hkl
   subst e0;clear hbw HC HN HY;generalize l[k]=sk at *;obtain⟨si,st,sx,sn⟩:=sk;dsimp only at q0 q1 q2 q3 HCk HNk HYk;by_cases hR:k=R
   .have hq:=ah HYk hR;subst hR;open ata in exact Wj
   .have hq:=ah HNk Aaa;open as9 in exact Wj
  .have hRl:¬R < l.length:=Aaa
   have hke:k=l.length:=by have:=ah HLE;omega
   subst hke;have hnlt:decide ((l.length:Int) < (l.length:Int))=false:=Aac
   go_wp2_with fail;go_ret;exact⟨Aac,HB⟩
abbrev zS:List Value:=[.int .i64 0,.int .i64 0,.string ⟨#[]⟩,.int .i64 0]
theorem Ja (w:World) (ty:TypeId) (g o c:Nat) (cur:Array Value) (hg:w.heap[g]?=some (.cells cur 91 (0,0))) (hfit:o+4<=cur.size):
 (Builtin.clear_ #[36] ty #[.slice (some ⟨g,o,none⟩) 1 c]).run prog w= .ok (.tuple #[]) (w.setRow g (cur.toList.take o++zS++cur.toList.drop (o+4)).toArray):=by
 have hst:=run_storeCells_at prog g o 91 zS 0 cur w hg (by simpa using hfit) (by intro u hu;simp only[zS,aGF,aHx,or_false] at hu;rcases hu with rfl|rfl|rfl|rfl<;>rfl);have hzc:(Builtin.zeroCells (Value.cells (.agg (gV 0 0 ⟨#[]⟩ 0))) 1).toList=zS:=Aab
 have h1:(Builtin.clear_ #[36] ty #[.slice (some ⟨g,o,none⟩) 1 c]).run prog w=((storeCells ⟨g,o,none⟩ zS).run prog w).andThen λ_ w'=> .ok (.tuple #[]) w':=by
  simp[Builtin.clear_,run_underlying underlying36];rw [hzc]
 rw [h1,hst];rfl
theorem nJ (l:List jM):(GR.flat aM l).length=l.length*4:=GR.flat_length aM 4 aZ l
theorem Rc:∀(vs a b:List Value) (o:Nat),o+vs.length<=a.length->GR.setRun (a++b) o vs=GR.setRun a o vs++b:=by
 intro vs;induction vs with
 |nil=>intro a b o _;rfl
 |cons v vs ih=>
  intro a b o h;simp only[aHt] at h;show GR.setRun ((a++b).set o v) (o+1) vs=GR.setRun (a.set o v) (o+1) vs++b
  rw [List.set_append_left _ _ Aaa,ih _ _ _ (by rw [aHU];omega)]
abbrev SB (w:World) (g:Nat) (R:List jM) (rest:List Value):Prop:=w.heap[g]?=some (.cells (GR.flat aM R++rest).toArray 91 (0,0))
theorem SB.four {w:World} (h:SB w g R rest) (i:Nat) (hi:i < R.length):w.cell? ⟨g,i*4,none⟩=some (.int .i64 R[i].i)/\w.cell? ⟨g,i*4+1,none⟩=some (.int .i64 R[i].t)/\w.cell? ⟨g,i*4+2,none⟩=some (.string R[i].k)/\w.cell? ⟨g,i*4+3,none⟩=some (.int .i64 R[i].n):=by
 have hc:∀j,j < 4->w.cell? ⟨g,i*4+j,none⟩=(aM R[i])[j]?:=λj hj=>by
  rw [aGu w g _ _ 91 (0,0) h,aHN,aHJ (by rw [nJ];omega)]
  exact GR.flat_at aM 4 aZ R i hi j hj
 exact⟨hc 0 Aaa,hc 1 Aaa,hc 2 Aaa,hc 3 Aaa⟩
theorem SB.set {w:World} (h:SB w g R rest) (i:Nat) (hi:i < R.length) (x:jM):SB (GR.setW w g (i*4) (aM x)) g (R.set i x) rest:=by
 have h2:=GR.setW_blk (aM x) (o:=i*4) h;rw [Rc _ _ _ _ (by rw [nJ,aZ];omega),GR.flat_set aM 4 aZ R i x hi] at h2;exact h2
namespace Mth
def lW (l:List jM) (i k:Nat):List jM:=(l.eraseIdx i).take k++l.drop k
theorem Ue (h:i < l.length):lW l i i=l:=by
 unfold lW;rw [List.eraseIdx_eq_take_drop_succ,List.take_append_of_le_length Abk,aHP,Nat.min_self,aGW]
theorem PK (h:i < l.length) (hk:k < l.length):(lW l i k).length=l.length:=by
 unfold lW;rw [aGp,aGG,aHk h,aGS];omega
theorem afq (h:i < l.length) (hk:k+1 < l.length):(lW l i k)[k+1]?=some l[k+1]:=by
 unfold lW;rw [List.getElem?_append_right (by rw [aGG,aHk h];omega),aGG,aHk h,List.getElem?_drop];rw [show k+(k+1 - min k (l.length - 1))=k+1 by omega,aGo hk]
theorem Yj (h:i<=k) (hk:k+1 < l.length):(lW l i k).set k l[k+1]=lW l i (k+1):=by
 have hlt:(List.take k (l.eraseIdx i)).length=k:=by rw [aGG,aHk Aaa];omega
 unfold lW;rw [aHL _ _ Aaa,hlt,Nat.sub_self,aG1 (show k < l.length by omega),List.set_cons_zero];have hke:k < (l.eraseIdx i).length:=by rw [aHk Aaa];omega
 rw [aGt hke,List.getElem_eraseIdx_of_ge hke h,aGN];rfl
theorem ab3 (h:i < l.length):lW l i (l.length - 1)=l.eraseIdx i++l.drop (l.length - 1):=by
 unfold lW;rw [aHR (by rw [aHk h];omega)]
theorem abD {l:List jM} {m:Mg} (h:¬qB l m < l.length):l.filter (λs=> !jg m s)=l:=by
 rw [List.filter_eq_self];intro s hs;have h1:¬∃x∈l,jg m x=true:=λhx=>h (List.findIdx_lt_length_of_exists hx)
 cases hq:jg m s with
 |false=>rfl
 |true=>exact absurd ⟨s,hs,hq⟩ h1
theorem ae3 {m:Mg} (hp:l.Pairwise (λs t=>s.i < t.i)) (h:qB l m < l.length):l.filter (λs=> !jg m s)=l.eraseIdx (qB l m):=by
 have hy:jg m l[qB l m]=true:=aIb (w:=h);have hid:l[qB l m].i=m.I:=(aGw hy).1
 have hno:∀j (hj:j < l.length),j≠qB l m->jg m l[j]=false:=λj hj hne=>by
  cases hq:jg m l[j] with
  |false=>rfl
  |true=>
   exfalso
   have h1:l[j].i=m.I:=(aGw hq).1;rcases Nat.lt_or_gt_of_ne hne with hlt|hgt
   .have:=aGZ.1 hp j _ hj h hlt;omega
   .have:=aGZ.1 hp _ j h hj hgt;omega
 have e:l=l.take (qB l m)++l[qB l m]::l.drop (qB l m+1):=by rw [<-aG1 h,aGW]
 rw [List.eraseIdx_eq_take_drop_succ];generalize qB l m=R at *;have ef:l.filter (λs=> !jg m s)=(l.take R++l[R]::l.drop (R+1)).filter (λs=> !jg m s):=by rw [<-e]
 rw [ef,List.filter_append,List.filter_cons_of_neg (by rw [hy];simp)];congr 1
 .rw [List.filter_eq_self];intro s hs;obtain⟨j,hj,rfl⟩:=aHm.1 hs;rw [aGG] at hj;rw [List.getElem_take,hno j Aaa Aaa];rfl
 .rw [List.filter_eq_self];intro s hs;obtain⟨j,hj,rfl⟩:=aHm.1 hs;rw [aGS] at hj;rw [List.getElem_drop,hno (R+1+j) Aaa Aaa];rfl
end Mth
theorem TW (g cap:Nat) (l:List jM) (rest:List Value) (B R:Nat) (m:Mg) (w:World) (hl:l.length<=1000) (hR:R < l.length) (hno:∀j (hj:j < l.length),R < j->jg m l[j]=false) (hnc:l.length<=cap) (hcm:cap<=maxLen) (hrl:l.length*4+rest.length=cap*4) (hB:kC w B m) (hS:SB w g l rest) (hix:Calls Tryz.prog 250 #[.slice (some ⟨g,0,none⟩) l.length cap,.func (.func 221) #[] #[.pointer (some ⟨B,0,none⟩)]] w (dZ w (.int .i64 (R:Int)))):
 Calls Tryz.prog 220 #[.slice (some ⟨g,0,none⟩) l.length cap,.func (.func 221) #[] #[.pointer (some ⟨B,0,none⟩)]] w λe w'=>e= .returned (.slice (some ⟨g,0,none⟩) (l.length - 1) cap)/\(∃aj5,SB w' g (l.eraseIdx R) aj5/\(l.length - 1)*4+aj5.length=cap*4)/\w.grownBy w' (some g):=by
 have hne:B≠g:=λe=>by
  unfold kC at hB
  unfold SB at hS
  rw [e,hS] at hB
  simp at hB
 have HC:=Hq (λs w1 (hg:w.grownBy w1 (some g))=>WW s B m w1 ((hg.block B (aA hB) (λe=>hne (by injection e))).trans hB));have mZ:=Hq hno;have LD:=Hq hS;have HIX:=Hq hix;have hRI:¬((R:Int)= -1):=Aaa
 have hRb:((R:Int) == -1)=false:=aHS.2 hRI;clear hB hno hS hix hne;go_in
 go_wp2_with fail;refine HIX.mono ?_;rintro e w1 ⟨rfl,hb1⟩;have BK:=Hq (au LD hb1);have Dz:=Hq (ig hb1 (some g));clear hb1 HIX;go_wp2_with fail;go_loopw [5,6] (λi j wr=>∃k jj:Nat,jj=k+1/\R<=k/\k < l.length/\i= .int .i64 k/\j= .int .i64 jj/\SB wr g (lW l R k) rest/\w.grownBy wr (some g)) (λi j _=>l.length - (intOf j).toNat)
 case atStart=>exact⟨R,R+1,rfl,aGh _,hR,rfl,rfl,by rw [Ue hR];exact BK,Dz⟩
 case round=>
  obtain⟨k,jj,hjj,hk1,hk2,rfl,rfl,hSk,hGk⟩:=hrel;have HJJ:=Hq hjj;have HSk:=Hq hSk;have HGk:=Hq hGk;have hgl:=aA hSk;clear hSk hGk;by_cases hlt:k+1 < l.length
  .have PW:(jj:Int) < (l.length:Int):=Aaa
   have hkI:(k:Int) < (l.length:Int):=Aaa
   have aAy:k+1 < (lW l R k).length:=by rw [PK hR hk2];exact hlt
   have hqs:=SB.four HSk (k+1) aAy
   have hat:(lW l R k)[k+1]=l[k+1]:=by
    have:=afq hR hlt;rw [aGo aAy] at this;exact aHd this
   rw [hat] at hqs;have HST:=Hq (Yj hk1 hlt);have HNk:=Hq (mZ (k+1) hlt Aaa);have HCk:=Hq (HC l[k+1]);clear hat;generalize l[k+1]=sk at *;rw [<-hjj] at hqs;obtain⟨q0,q1,q2,q3⟩:=hqs;clear hjj;obtain⟨si,st,sx,sn⟩:=sk;dsimp only at q0 q1 q2 q3 HNk HCk;go_upto_region 8 with fail;refine wp_at (λW hW=>?_);have e1:W.heap[wr.heap.size]?=some (.cells (gV si st sx sn) 91 (0,0)):=Aco
   have jl:Hid (aI wr W):=by rw [hW];exact ay wr _
   obtain⟨c0,c1,c2,c3⟩:=iO e1;have hwl:=aA e1;have E1:=Hq e1;clear hW e1 q0 q1 q2 q3;go_wp2_with fail;refine(HCk W (HGk.andThen (ig jl none) (λj hj=>by cases hj))).mono ?_;rintro e W2 ⟨rfl,hb2⟩;have E2:=Hq (au E1 hb2);have HB2:=Hq (jl.trans (hb2.mono jl.size));have HS2:=Hq (au HSk HB2);have HG2:=Hq (HGk.andThen (ig HB2 none) (λj hj=>by cases hj));have aAC:k < (lW l R k).length:=Aaa
   obtain⟨r0,r1,r2,r3⟩:=SB.four HS2 k aAC;have f0:=aj HS2 (k*4);have f1:=aj HS2 (k*4+1);have f2:=aj HS2 (k*4+2);have f3:=aj HS2 (k*4+3);have aFo:=aA HS2;have alM:=aA E2;rw [ah HNk];clear c0 c1 c2 c3 hb2;obtain⟨c0,c1,c2,c3⟩:=iO E2;have ER:=Hq (SB.set HS2 k aAC ⟨si,st,sx,sn⟩)
   have OA:Hid (W2.grownBy (GR.setW W2 g (k*4) (aM ⟨si,st,sx,sn⟩)) (some g)):=by
    have h:=aX (g:=g) (aM ⟨si,st,sx,sn⟩) W2 (k*4);exact⟨h.os,h.tape,h.output,h.size,λx hx hne=>h.block x hx (λhm=>hne (by have:x=g:=(by simpa using hm);rw [this]))⟩
   rw [ah HST] at ER;go_wp2_with fail;go_roundw
   case rel=>exact⟨k+1,jj+1,by have:=ah HJJ;omega,Aaa,hlt,Aaf,Aaf,ER,HG2.andThen OA (λj hj=> .inr hj)⟩
   case measure=>simp[intOf];omega
  .have hke:l.length - 1=k:=Aaa
   have hjl:jj=l.length:=Aaa
   have alm:l.length - k=1:=Aaa
   have aAz:=PK hR hk2;have hend:=ab3 hR;rw [hke] at hend;have hel:(l.eraseIdx R).length=k:=by rw [aHk hR];exact hke
   have hXl:(GR.flat aM (lW l R k)++rest).length=cap*4:=by rw [aGp,nJ,aAz];exact hrl
   have hcl:∀ty c,(Builtin.clear_ #[36] ty #[.slice (some ⟨g,k*4,none⟩) 1 c]).run Tryz.prog wr= .ok (.tuple #[]) (wr.setRow g ((GR.flat aM (lW l R k)++rest).take (k*4)++zS++(GR.flat aM (lW l R k)++rest).drop (k*4+4)).toArray):=λty c=>by
    have h:=Ja wr ty g (k*4) c _ HSk (by rw [aHh,hXl];omega)
    exact h
   have HFB:Hid (SB (wr.setRow g ((GR.flat aM (lW l R k)++rest).take (k*4)++zS++(GR.flat aM (lW l R k)++rest).drop (k*4+4)).toArray) g (l.eraseIdx R) (zS++(GR.flat aM (lW l R k)++rest).drop (k*4+4))):=by
    have h:=setRow_heap wr g _ ((GR.flat aM (lW l R k)++rest).take (k*4)++zS++(GR.flat aM (lW l R k)++rest).drop (k*4+4)).toArray 91 _ HSk
    have ht:(GR.flat aM (lW l R k)++rest).take (k*4)=GR.flat aM (l.eraseIdx R):=by
     rw [hend,GR.flat_append,aGN];exact List.take_left' (by rw [nJ,hel])
    rw [ht] at h;show SB _ g (l.eraseIdx R) _
    unfold SB;rw [<-aGN,ht];exact h
   have HRL:Hid (k*4+(zS++(GR.flat aM (lW l R k)++rest).drop (k*4+4)).length=cap*4):=by
    show k*4+(zS++(GR.flat aM (lW l R k)++rest).drop (k*4+4)).length=cap*4
    rw [aGp,aGS,hXl];show k*4+(4+_)=_
    omega
   have HGF:Hid (w.grownBy (wr.setRow g ((GR.flat aM (lW l R k)++rest).take (k*4)++zS++(GR.flat aM (lW l R k)++rest).drop (k*4+4)).toArray) (some g)):=by
    refine HGk.andThen (row':=some g) ⟨rfl,rfl,rfl,Aac,λx hx hne=>setRow_other wr g x _ (λe=>hne Aap)⟩ (λj hj=> .inr hj)
   have hkc:k<=cap:=Aaa
   have hkI:(k:Int)<=(l.length:Int):=Aaa
   have aFx:(k:Int)<=(cap:Int):=Aaa
   have hcm2:cap<=9223372036854775807:=Acg
   have HKE:=Hq hke;generalize (GR.flat aM (lW l R k)++rest).take (k*4)++zS++(GR.flat aM (lW l R k)++rest).drop (k*4+4)=X2 at *;subst hjl;have hnlt:decide ((l.length:Int) < (l.length:Int))=false:=Aac
   clear HC mZ LD BK Dz HSk HGk hend hXl hel aAz hlt hke;go_wp2_with (simp only[alm,hcl])
   go_ret;exact⟨by rw [ah HKE];first|done|rfl,⟨_,HFB,by rw [ah HKE];exact HRL⟩,HGF⟩
def aac (w:World) (B:Nat) (v:Value) (l:List jM) (e:Ending) (w':World):Prop:=∃a c,e= .returned (.slice a l.length c)/\w'.ownsRow B 91 4 (.slice a l.length c) l.length (GR.flat aM l)/\w.grownBy w' v.ownBlock/\∀x,(Value.slice a l.length c).ownBlock=some x->v.ownBlock=some x
theorem Mc (a:Option Addr) (cap:Nat) (l:List jM) (B:Nat) (w:World) (hix:Calls Tryz.prog 250 #[.slice a l.length cap,.func (.func 221) #[] #[.pointer (some ⟨B,0,none⟩)]] w (dZ w (.int .i64 (-1)))):
 Calls Tryz.prog 220 #[.slice a l.length cap,.func (.func 221) #[] #[.pointer (some ⟨B,0,none⟩)]] w (dZ w (.slice a l.length cap)):=by
 have HIX:=Hq hix;clear hix;go_in
 go_wp2_with fail;refine HIX.mono ?_;rintro e w1 ⟨rfl,hb1⟩;have HB:=Hq hb1;clear hb1 HIX;go_wp2_with fail;go_ret;exact⟨rfl,HB⟩
theorem afg (B0:Nat) (a:Option Addr) (cap:Nat) (l:List jM) (B:Nat) (m:Mg) (w:World) (hl:l.length<=1000) (hp:l.Pairwise (λs t=>s.i < t.i)) (hB:kC w B m) (ho:w.ownsRow B0 91 4 (.slice a l.length cap) l.length (GR.flat aM l)):
 Calls Tryz.prog 220 #[.slice a l.length cap,.func (.func 221) #[] #[.pointer (some ⟨B,0,none⟩)]] w (aac w B0 (.slice a l.length cap) (l.filter (λs=> !jg m s))):=by
 have hat:SentAt w a l:=by
  obtain⟨a',cp,he,ha⟩:=GR.own_at (enc:=aM) (sz:=4) (l:=l) aZ ho;cases he
  exact ha
 have hix:=afC a cap l B m w hl hat hB;by_cases h:qB l m < l.length
 .rw [aGC h] at hix;rw [ae3 hp h];have hy:jg m l[qB l m]=true:=aIb (w:=h);have hid:l[qB l m].i=m.I:=(aGw hy).1
  have hno:∀j (hj:j < l.length),qB l m < j->jg m l[j]=false:=λj hj hlt=>by
   cases hq:jg m l[j] with
   |false=>rfl
   |true=>
    exfalso
    have h1:l[j].i=m.I:=(aGw hq).1;have:=aGZ.1 hp _ j h hj hlt;omega
  open av5 in exact aaU
 .rw [aGr h] at hix;rw [abD h];refine(Mc a cap l B w hix).mono ?_;rintro e w' ⟨rfl,hb⟩;exact⟨a,cap,rfl,GR.own_below ho hb,ig hb _,λx hx=>hx⟩
theorem WK.setOut {w0 w w':World} {wb:Nat} {n:Nd} {A:bV} {G:aR} {c:Nat->Nat} {v:Value} {L:List Mg} {a:Option Addr} {cp:Nat} (h:WK w0 w wb n A G c v L) (hg:w.grownBy w' (Value.slice A.o n.out.length A.co).ownBlock) (ho:w'.ownsRow w0.heap.size 91 4 (.slice a l.length cp) l.length (GR.flat aM l)) (hx:∀x,(Value.slice a l.length cp).ownBlock=some x->(Value.slice A.o n.out.length A.co).ownBlock=some x):
 w'.heap[wb]?=some (.cells (Xx n A v) 192 (0,0))/\WK w0 (w'.setCell ⟨wb,5,none⟩ (.slice a l.length cp)) wb (setOut n l) ⟨A.k,A.p,a,A.s,A.r,A.ck,A.cp,cp,A.cs,A.cr⟩ G c v L:=by
 have hN:=h.no;have k3:KC c 3 w w':=KC.grown hg (λx hx=>hN.co x hx);have hb1:=k3.obj h.blk (by rw [h.cw];omega);have k8:KC c 8 w' (w'.setCell ⟨wb,5,none⟩ (.slice a l.length cp)):=KC.set h.cw;have hbel:=k3.below h.keep hN.lo Aaa h.keep.size;have hco:∀x,(Value.slice a l.length cp).ownBlock=some x->c x=3:=λx hx'=>hN.co x (hx x hx')
 refine⟨hb1,k8.below hbel hN.lo Aaa (aGm h.keep.size k3.size),aT hb1 5 (.slice a l.length cp),⟨k8.w (k3.w hN.k hN.ck Aaa) hN.ck Aaa,k8.w (k3.w hN.p hN.cp Aaa) hN.cp Aaa,k8.own ho hco Aaa,k8.seen (k3.seen hN.s hN.c4 hN.ci Aaa Aaa) hN.c4 hN.ci Aaa Aaa,k8.own (k3.own hN.r hN.cr Aaa) hN.cr Aaa,hN.lo,hN.ck,hN.cp,hco,hN.c4,hN.ci,hN.cr,hN.ni⟩,k8.own (k3.own h.m h.cm Aaa) h.cm Aaa,h.cm,h.cw⟩
theorem Vv (hz:eG n 1048576) (hb:hasB n.kids o.m.F=false) (hK:o.m.K=0) (h:WK w0 w wb n A G c v L):Calls Tryz.prog 181 #[.pointer (some ⟨wb,0,none⟩),jY o] w λe w'=>e= .returned (.int .i64 (fT n o.m).2.2)/\∃A' G' c' v',WK w0 w' wb (fT n o.m).1 A' G' c' v' (L++(fT n o.m).2.1):=by
 have HKD:=Hq (λw1 (ha:dD w1 A n)=>Cm n A o.m.F w1 (aGm hz.k Aaa) ha.k);rw [hb] at HKD
 have HR:Hid (fT n o.m=(n,[],1)):=by
  show fT n o.m=_
  unfold fT;rw [aGr Aaa,aGr Aaa,aGr (by rw [hb];simp)]
 rw [ah HR];clear hz hb HR;open aC7 in exact ayi
theorem Sd (E:Nat->Addr) (hz:eG n 1048576) (hok:eH n=true) (hm:cZ o.m=true) (hL:L.length<=2097100) (hb:hasB n.kids o.m.F=true) (hK:o.m.K=0) (h:WK w0 w wb n A G c v L) (he:iK w0 E):Calls Tryz.prog 181 #[.pointer (some ⟨wb,0,none⟩),jY o] w λe w'=>e= .returned (.int .i64 (fT n o.m).2.2)/\∃A' G' c' v',WK w0 w' wb (fT n o.m).1 A' G' c' v' (L++(fT n o.m).2.1):=by
 have hw:=Kn hm hK;have HKD:=Hq (λw1 (ha:dD w1 A n)=>Cm n A o.m.F w1 (aGm hz.k Aaa) ha.k);rw [hb] at HKD;have Il:=Hq (λW (hW:WK w0 W wb n A G c v L)=>aj7 w0 W wb n A G c v L o.m.F o.m.k o.m.N E hok hw.1 hw.2.1 hw.2.2 hL hW he)
 have HR:Hid (fT n o.m=((fC n o.m.F o.m.k o.m.N).1,(fC n o.m.F o.m.k o.m.N).2.1,0)):=by
  show fT n o.m=_
  unfold fT;rw [aGr Aaa,aGr Aaa,aGC hb]
 rw [ah HR];clear hz hok hm hL he HR hw hb;generalize fC n o.m.F o.m.k o.m.N=TT at *;open aC6 in exact ayi
theorem CW (E:Nat->Addr) (hz:eG n 1048576) (hok:eH n=true) (hm:cZ o.m=true) (hF:eD n o.m.F=true) (hks:o.m.k.size<=1048576) (hL:L.length<=2097100) (hb:(takeN n o.m).2=false) (hK:o.m.K=1) (h:WK w0 w wb n A G c v L) (he:iK w0 E):Calls Tryz.prog 181 #[.pointer (some ⟨wb,0,none⟩),jY o] w λe w'=>e= .returned (.int .i64 (fT n o.m).2.2)/\∃A' G' c' v',WK w0 w' wb (fT n o.m).1 A' G' c' v' (L++(fT n o.m).2.1):=by
 have hw:=F8 hm hK;have OV:=Hq (λW (hW:WK w0 W wb n A G c v L)=>aeg w0 W wb n A G c v L o.m E hz hok hF hks hw.2.2.2.1 Aaa hw.2.1 hW he);rw [hb] at OV
 have HR:Hid (fT n o.m=((takeN n o.m).1,[],1)):=by
  show fT n o.m=_
  unfold fT;rw [aGC hK,hb];rfl
 open awn in exact ahC
theorem Ej (E:Nat->Addr) (hz:eG n 1048576) (hok:eH n=true) (hm:cZ o.m=true) (hF:eD n o.m.F=true) (hks:o.m.k.size<=1048576) (hL:L.length<=2097100) (hb:(takeN n o.m).2=true) (hK:o.m.K=1) (h:WK w0 w wb n A G c v L) (he:iK w0 E):Calls Tryz.prog 181 #[.pointer (some ⟨wb,0,none⟩),jY o] w λe w'=>e= .returned (.int .i64 (fT n o.m).2.2)/\∃A' G' c' v',WK w0 w' wb (fT n o.m).1 A' G' c' v' (L++(fT n o.m).2.1):=by
 have hw:=F8 hm hK;have OV:=Hq (λW (hW:WK w0 W wb n A G c v L)=>aeg w0 W wb n A G c v L o.m E hz hok hF hks hw.2.2.2.1 Aaa hw.2.1 hW he);rw [hb] at OV
 have HR:Hid (fT n o.m=((takeN n o.m).1,[XZ n o.m],0)):=by
  show fT n o.m=_
  unfold fT;rw [aGC hK,hb];rfl
 open awm in exact ahC
theorem Vu (hok:eH n=true) (hK:o.m.K=2) (h:WK w0 w wb n A G c v L):Calls Tryz.prog 181 #[.pointer (some ⟨wb,0,none⟩),jY o] w λe w'=>e= .returned (.int .i64 (fT n o.m).2.2)/\∃A' G' c' v',WK w0 w' wb (fT n o.m).1 A' G' c' v' (L++(fT n o.m).2.1):=by
 have ho:=tF (bZ hok).2.2.2.2.1;have HDL:=Hq (λW B (hB:kC W B o.m) hO=>afg w0.heap.size A.o A.co n.out B o.m W Aaa ho.1 hB hO);unfold aac at HDL
 have HR:Hid (fT n o.m=(setOut n (n.out.filter (λs=> !jg o.m s)),[],0)):=by
  show fT n o.m=_
  unfold fT;rw [aGr Aaa,aGC hK]
 rw [ah HR];clear hok ho HR;open as1 in exact aaI
theorem ams (E:Nat->Addr) (hz:eG n 1048576) (hok:eH n=true) (hm:cZ o.m=true) (hF:eD n o.m.F=true) (hks:o.m.k.size<=1048576) (hL:L.length<=2097100) (h:WK w0 w wb n A G c v L) (he:iK w0 E):Calls Tryz.prog 181 #[.pointer (some ⟨wb,0,none⟩),jY o] w λe w'=>e= .returned (.int .i64 (fT n o.m).2.2)/\∃A' G' c' v',WK w0 w' wb (fT n o.m).1 A' G' c' v' (L++(fT n o.m).2.1):=by
 rcases Kl hm with hK|hK|hK
 .cases hb:hasB n.kids o.m.F with
  |false=>exact Vv w0 w wb n A G c v L o hz hb hK h
  |true=>exact Sd w0 w wb n A G c v L o E hz hok hm hL hb hK h he
 .cases hb:(takeN n o.m).2 with
  |false=>exact CW w0 w wb n A G c v L o E hz hok hm hF hks hL hb hK h he
  |true=>exact Ej w0 w wb n A G c v L o E hz hok hm hF hks hL hb hK h he
 .exact Vu w0 w wb n A G c v L o hok hK h
end Go.Proofs.YtohmklmkjmlpjaaGreatDoor
