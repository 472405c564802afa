/- Parts. -/
import Derived.Test.YtfachhcijcjbpaaGreatDoorRw36
import Derived.Test.YtfachhcijcjbpaaGreatDoorRw18
namespace Go.Proofs.YtfachhcijcjbpaaGreatDoor
open Go.Proofs.Tryz
set_option maxHeartbeats 8000000
set_option maxRecDepth 100000
open Go.RowKit
open Mth
variable (w0 w:World) (wb:Nat) (n:Nd) (A:bg) (G:aR) (c:Nat->Nat) (v:Value) (L:List Mg) (o:gD) {l R:List jI} {i k g:Nat} {rest:List Value}
abbrev aC3 (s:jI):Value:= .agg (gB s.i s.t s.k s.n)
theorem Xe (s:jI) (B:Nat) (m:Mg) (w:World) (hB:jH w B m):
 Calls prog 230 #[aC3 s,.pointer (some ⟨B,0,none⟩)] w (dK w (.bool (iJ m s))):=by
 have hBl:=ay hB;obtain⟨⟨p0,p1,p2,p3,p4,p5,p6⟩,_⟩:=dY hB;clear hB;obtain⟨mK,mF,mT,mI,mL,mk,mN⟩:=m;obtain⟨si,st,sk,sn⟩:=s;unfold iJ;dsimp only at *;by_cases h1:si=mI
 .by_cases h2:st=mF
  .subst h1 h2;go_in
   go_wp2_with fail;go_ret;exact⟨Aac,au w _⟩
  .have q2:(st == mF)=false:=Abm
   subst h1;go_in
   go_wp2_with fail;go_ret;exact⟨by simp[h2],au w _⟩
 .have q1:(si == mI)=false:=Aap
  go_in
  go_wp2_with fail;go_ret;exact⟨Abc,au w _⟩
def qb (l:List jI) (m:Mg):Nat:=l.findIdx (iJ m)
theorem afr (a:Option Addr) (cap:Nat) (l:List jI) (B:Nat) (m:Mg) (w:World) (hl:l.length<=1000) (ha:SentAt w a l) (hB:jH w B m):
 Calls prog 258 #[.slice a l.length cap,.func (.func 230) #[] #[.pointer (some ⟨B,0,none⟩)]] w λe w'=>e= .returned (.int .i64 (if qb l m < l.length then(qb l m:Int) else -1))/\aG w w':=by
 have HC:=Hq (λs w1 (hb:aG w w1)=>Xe s B m w1 (aj hB hb));have HA:=Hq ha
 have HN:Hid (∀i (hi:i < l.length),i < qb l m->iJ m l[i]=false):=λi hi h=>by
  have:=List.not_of_lt_findIdx h
  simpa using this
 have HY:Hid (∀(hi:qb l m < l.length),iJ m l[qb l m]=true):=λhi=>aGr (w:=hi)
 have HLE:Hid (qb l m<=l.length):=List.findIdx_le_length;clear ha hB;generalize qb l m=R at *;go_in
 go_wp2_with fail;go_loopw [8] (λi wr=>∃k:Nat,k<=R/\i= .int .i64 k/\aG w wr) (λi _=>l.length - (intOf i).toNat)
 case atStart=>exact vQ
 case round=>
  obtain⟨k,hk,rfl,hbw⟩:=hrel;have HB:=Hq hbw;by_cases hkl:k < l.length
  .have aB4:(k:Int) < (l.length:Int):=Aaa
   obtain⟨g,off,e0,hg,q0,q1,q2,q3⟩:=SentAt.four (GR.At.below HA hbw) k hkl;have HCk:=Hq (HC l[k]);have HNk:=Hq (HN k hkl)
   have HYk:Hid (k=R->iJ m l[k]=true):=λe=>by
    subst e
    exact HY hkl
   subst e0;clear hbw HC HN HY;generalize l[k]=sk at *;obtain⟨si,st,sx,sn⟩:=sk;dsimp only at q0 q1 q2 q3 HCk HNk HYk;by_cases hR:k=R
   .have hq:=ah HYk hR;subst hR;open arL in exact aeI
   .have hq:=ah HNk Aaa;open arK in exact aeI
  .have hRl:¬R < l.length:=Aaa
   have hke:k=l.length:=by have:=ah HLE;omega
   subst hke;have hnlt:decide ((l.length:Int) < (l.length:Int))=false:=Aac
   go_wp2_with fail;go_ret;exact⟨Aac,HB⟩
abbrev zS:List Value:=[.int .i64 0,.int .i64 0,.string ⟨#[]⟩,.int .i64 0]
theorem Jj (w:World) (ty:TypeId) (g o c:Nat) (cur:Array Value) (hg:w.heap[g]?=some (.cells cur 129 (0,0))) (hfit:o+4<=cur.size):
 (Builtin.clear_ #[49] ty #[.slice (some ⟨g,o,none⟩) 1 c]).run prog w= .ok (.tuple #[]) (w.setRow g (cur.toList.take o++zS++cur.toList.drop (o+4)).toArray):=by
 have hst:=run_storeCells_at prog g o 129 zS 0 cur w hg (by simpa using hfit) (by intro u hu;simp only[zS,aET,aFt,or_false] at hu;rcases hu with rfl|rfl|rfl|rfl<;>rfl);have hzc:(Builtin.zeroCells (Value.cells (.agg (gB 0 0 ⟨#[]⟩ 0))) 1).toList=zS:=Aab
 have h1:(Builtin.clear_ #[49] ty #[.slice (some ⟨g,o,none⟩) 1 c]).run prog w=((storeCells ⟨g,o,none⟩ zS).run prog w).andThen λ_ w'=> .ok (.tuple #[]) w':=by
  simp[Builtin.clear_,run_underlying underlying49];rw [hzc]
 rw [h1,hst];rfl
theorem mW (l:List jI):(GR.flat aN l).length=l.length*4:=GR.flat_length aN 4 aX l
theorem Rl:∀(vs a b:List Value) (o:Nat),o+vs.length<=a.length->GR.setRun (a++b) o vs=GR.setRun a o vs++b:=by
 intro vs;induction vs with
 |nil=>intro a b o _;rfl
 |cons v vs ih=>
  intro a b o h;simp only[aFU] at h;show GR.setRun ((a++b).set o v) (o+1) vs=GR.setRun (a.set o v) (o+1) vs++b
  rw [List.set_append_left _ _ Aaa,ih _ _ _ (by rw [aGd];omega)]
abbrev SB (w:World) (g:Nat) (R:List jI) (rest:List Value):Prop:=w.heap[g]?=some (.cells (GR.flat aN R++rest).toArray 129 (0,0))
theorem SB.four {w:World} (h:SB w g R rest) (i:Nat) (hi:i < R.length):w.cell? ⟨g,i*4,none⟩=some (.int .i64 R[i].i)/\w.cell? ⟨g,i*4+1,none⟩=some (.int .i64 R[i].t)/\w.cell? ⟨g,i*4+2,none⟩=some (.string R[i].k)/\w.cell? ⟨g,i*4+3,none⟩=some (.int .i64 R[i].n):=by
 have hc:∀j,j < 4->w.cell? ⟨g,i*4+j,none⟩=(aN R[i])[j]?:=λj hj=>by
  rw [aEz w g _ _ 129 (0,0) h,List.getElem?_toArray,aFO (by rw [mW];omega)]
  exact GR.flat_at aN 4 aX R i hi j hj
 exact⟨hc 0 Aaa,hc 1 Aaa,hc 2 Aaa,hc 3 Aaa⟩
theorem SB.set {w:World} (h:SB w g R rest) (i:Nat) (hi:i < R.length) (x:jI):SB (GR.setW w g (i*4) (aN x)) g (R.set i x) rest:=by
 have h2:=GR.setW_blk (aN x) (o:=i*4) h;rw [Rl _ _ _ _ (by rw [mW,aX];omega),GR.flat_set aN 4 aX R i x hi] at h2;exact h2
namespace Mth
def lJ (l:List jI) (i k:Nat):List jI:=(l.eraseIdx i).take k++l.drop k
theorem Ul (h:i < l.length):lJ l i i=l:=by
 unfold lJ;rw [List.eraseIdx_eq_take_drop_succ,List.take_append_of_le_length Abi,aGg,Nat.min_self,aFm]
theorem PZ (h:i < l.length) (hk:k < l.length):(lJ l i k).length=l.length:=by
 unfold lJ;rw [aEC,aEX,aFr h,aE8];omega
theorem afj (h:i < l.length) (hk:k+1 < l.length):(lJ l i k)[k+1]?=some l[k+1]:=by
 unfold lJ;rw [List.getElem?_append_right (by rw [aEX,aFr h];omega),aEX,aFr h,List.getElem?_drop];rw [show k+(k+1 - min k (l.length - 1))=k+1 by omega,aEB hk]
theorem Ym (h:i<=k) (hk:k+1 < l.length):(lJ l i k).set k l[k+1]=lJ l i (k+1):=by
 have hlt:(List.take k (l.eraseIdx i)).length=k:=by rw [aEX,aFr Aaa];omega
 unfold lJ;rw [aF9 _ _ Aaa,hlt,Nat.sub_self,aFw (show k < l.length by omega),List.set_cons_zero];have hke:k < (l.eraseIdx i).length:=by rw [aFr Aaa];omega
 rw [aEF hke,List.getElem_eraseIdx_of_ge hke h,aFa];rfl
theorem abW (h:i < l.length):lJ l i (l.length - 1)=l.eraseIdx i++l.drop (l.length - 1):=by
 unfold lJ;rw [aFX (by rw [aFr h];omega)]
theorem abv {l:List jI} {m:Mg} (h:¬qb l m < l.length):l.filter (λs=> !iJ m s)=l:=by
 rw [List.filter_eq_self];intro s hs;have h1:¬∃x∈l,iJ m x=true:=λhx=>h (List.findIdx_lt_length_of_exists hx)
 cases hq:iJ m s with
 |false=>rfl
 |true=>exact absurd ⟨s,hs,hq⟩ h1
theorem aeU {m:Mg} (hp:l.Pairwise (λs t=>s.i < t.i)) (h:qb l m < l.length):l.filter (λs=> !iJ m s)=l.eraseIdx (qb l m):=by
 have hy:iJ m l[qb l m]=true:=aGr (w:=h);have hid:l[qb l m].i=m.I:=(aEQ hy).1
 have hno:∀j (hj:j < l.length),j≠qb l m->iJ m l[j]=false:=λj hj hne=>by
  cases hq:iJ m l[j] with
  |false=>rfl
  |true=>
   exfalso
   have h1:l[j].i=m.I:=(aEQ hq).1;rcases Nat.lt_or_gt_of_ne hne with hlt|hgt
   .have:=aFx.1 hp j _ hj h hlt;omega
   .have:=aFx.1 hp _ j h hj hgt;omega
 have e:l=l.take (qb l m)++l[qb l m]::l.drop (qb l m+1):=by rw [<-aFw h,aFm]
 rw [List.eraseIdx_eq_take_drop_succ];generalize qb l m=R at *;have ef:l.filter (λs=> !iJ m s)=(l.take R++l[R]::l.drop (R+1)).filter (λs=> !iJ m s):=by rw [<-e]
 rw [ef,List.filter_append,List.filter_cons_of_neg (by rw [hy];simp)];congr 1
 .rw [List.filter_eq_self];intro s hs;obtain⟨j,hj,rfl⟩:=aFE.1 hs;rw [aEX] at hj;rw [List.getElem_take,hno j Aaa Aaa];rfl
 .rw [List.filter_eq_self];intro s hs;obtain⟨j,hj,rfl⟩:=aFE.1 hs;rw [aE8] at hj;rw [List.getElem_drop,hno (R+1+j) Aaa Aaa];rfl
end Mth
theorem Ud (g cap:Nat) (l:List jI) (rest:List Value) (B R:Nat) (m:Mg) (w:World) (hl:l.length<=1000) (hR:R < l.length) (hno:∀j (hj:j < l.length),R < j->iJ m l[j]=false) (hnc:l.length<=cap) (hcm:cap<=maxLen) (hrl:l.length*4+rest.length=cap*4) (hB:jH w B m) (hS:SB w g l rest) (hix:Calls Tryz.prog 258 #[.slice (some ⟨g,0,none⟩) l.length cap,.func (.func 230) #[] #[.pointer (some ⟨B,0,none⟩)]] w (dK w (.int .i64 (R:Int)))):
 Calls Tryz.prog 229 #[.slice (some ⟨g,0,none⟩) l.length cap,.func (.func 230) #[] #[.pointer (some ⟨B,0,none⟩)]] w λe w'=>e= .returned (.slice (some ⟨g,0,none⟩) (l.length - 1) cap)/\(∃aju,SB w' g (l.eraseIdx R) aju/\(l.length - 1)*4+aju.length=cap*4)/\w.grownBy w' (some g):=by
 have hne:B≠g:=λe=>by
  unfold jH at hB
  unfold SB at hS
  rw [e,hS] at hB
  simp at hB
 have HC:=Hq (λs w1 (hg:w.grownBy w1 (some g))=>Xe s B m w1 ((hg.block B (ay hB) (λe=>hne (by injection e))).trans hB));have jD:=Hq hno;have EL:=Hq hS;have HIX:=Hq hix;have hRI:¬((R:Int)= -1):=Aaa
 have hRb:((R:Int) == -1)=false:=aF3.2 hRI;clear hB hno hS hix hne;go_in
 go_wp2_with fail;refine HIX.mono ?_;rintro e w1 ⟨rfl,hb1⟩;have zC:=Hq (aj EL hb1);have JM:=Hq (gG hb1 (some g));clear hb1 HIX;go_wp2_with fail;go_loopw [5,6] (λi j wr=>∃k jj:Nat,jj=k+1/\R<=k/\k < l.length/\i= .int .i64 k/\j= .int .i64 jj/\SB wr g (lJ l R k) rest/\w.grownBy wr (some g)) (λi j _=>l.length - (intOf j).toNat)
 case atStart=>exact⟨R,R+1,rfl,aEx _,hR,rfl,rfl,by rw [Ul hR];exact zC,JM⟩
 case round=>
  obtain⟨k,jj,hjj,hk1,hk2,rfl,rfl,hSk,hGk⟩:=hrel;have HJJ:=Hq hjj;have HSk:=Hq hSk;have HGk:=Hq hGk;have hgl:=ay hSk;clear hSk hGk;by_cases hlt:k+1 < l.length
  .have P7:(jj:Int) < (l.length:Int):=Aaa
   have hkI:(k:Int) < (l.length:Int):=Aaa
   have ayg:k+1 < (lJ l R k).length:=by rw [PZ hR hk2];exact hlt
   have hqs:=SB.four HSk (k+1) ayg
   have hat:(lJ l R k)[k+1]=l[k+1]:=by
    have:=afj hR hlt;rw [aEB ayg] at this;exact aFe this
   rw [hat] at hqs;have HST:=Hq (Ym hk1 hlt);have HNk:=Hq (jD (k+1) hlt Aaa);have HCk:=Hq (HC l[k+1]);clear hat;generalize l[k+1]=sk at *;rw [<-hjj] at hqs;obtain⟨q0,q1,q2,q3⟩:=hqs;clear hjj;obtain⟨si,st,sx,sn⟩:=sk;dsimp only at q0 q1 q2 q3 HNk HCk;go_upto_region 8 with fail;refine wp_at (λW hW=>?_);have e1:W.heap[wr.heap.size]?=some (.cells (gB si st sx sn) 129 (0,0)):=Acf
   have gK:Hid (aG wr W):=by rw [hW];exact au wr _
   obtain⟨c0,c1,c2,c3⟩:=iq e1;have hwl:=ay e1;have E1:=Hq e1;clear hW e1 q0 q1 q2 q3;go_wp2_with fail;refine(HCk W (HGk.andThen (gG gK none) (λj hj=>by cases hj))).mono ?_;rintro e W2 ⟨rfl,hb2⟩;have E2:=Hq (aj E1 hb2);have HB2:=Hq (gK.trans (hb2.mono gK.size));have HS2:=Hq (aj HSk HB2);have HG2:=Hq (HGk.andThen (gG HB2 none) (λj hj=>by cases hj));have ayl:k < (lJ l R k).length:=Aaa
   obtain⟨r0,r1,r2,r3⟩:=SB.four HS2 k ayl;have f0:=aA HS2 (k*4);have f1:=aA HS2 (k*4+1);have f2:=aA HS2 (k*4+2);have f3:=aA HS2 (k*4+3);have aDz:=ay HS2;have ak5:=ay E2;rw [ah HNk];clear c0 c1 c2 c3 hb2;obtain⟨c0,c1,c2,c3⟩:=iq E2;have zD:=Hq (SB.set HS2 k ayl ⟨si,st,sx,sn⟩)
   have Ey:Hid (W2.grownBy (GR.setW W2 g (k*4) (aN ⟨si,st,sx,sn⟩)) (some g)):=by
    have h:=eP (g:=g) (aN ⟨si,st,sx,sn⟩) W2 (k*4);exact⟨h.os,h.tape,h.output,h.size,λx hx hne=>h.block x hx (λhm=>hne (by have:x=g:=(by simpa using hm);rw [this]))⟩
   rw [ah HST] at zD;go_wp2_with fail;go_roundw
   case rel=>exact⟨k+1,jj+1,by have:=ah HJJ;omega,Aaa,hlt,Aaf,Aaf,zD,HG2.andThen Ey (λj hj=> .inr hj)⟩
   case measure=>simp[intOf];omega
  .have hke:l.length - 1=k:=Aaa
   have hjl:jj=l.length:=Aaa
   have akJ:l.length - k=1:=Aaa
   have ayh:=PZ hR hk2;have hend:=abW hR;rw [hke] at hend;have hel:(l.eraseIdx R).length=k:=by rw [aFr hR];exact hke
   have hXl:(GR.flat aN (lJ l R k)++rest).length=cap*4:=by rw [aEC,mW,ayh];exact hrl
   have hcl:∀ty c,(Builtin.clear_ #[49] ty #[.slice (some ⟨g,k*4,none⟩) 1 c]).run Tryz.prog wr= .ok (.tuple #[]) (wr.setRow g ((GR.flat aN (lJ l R k)++rest).take (k*4)++zS++(GR.flat aN (lJ l R k)++rest).drop (k*4+4)).toArray):=λty c=>by
    have h:=Jj wr ty g (k*4) c _ HSk (by rw [aFs,hXl];omega)
    exact h
   have HFB:Hid (SB (wr.setRow g ((GR.flat aN (lJ l R k)++rest).take (k*4)++zS++(GR.flat aN (lJ l R k)++rest).drop (k*4+4)).toArray) g (l.eraseIdx R) (zS++(GR.flat aN (lJ l R k)++rest).drop (k*4+4))):=by
    have h:=setRow_heap wr g _ ((GR.flat aN (lJ l R k)++rest).take (k*4)++zS++(GR.flat aN (lJ l R k)++rest).drop (k*4+4)).toArray 129 _ HSk
    have ht:(GR.flat aN (lJ l R k)++rest).take (k*4)=GR.flat aN (l.eraseIdx R):=by
     rw [hend,GR.flat_append,aFa];exact List.take_left' (by rw [mW,hel])
    rw [ht] at h;show SB _ g (l.eraseIdx R) _
    unfold SB;rw [<-aFa,ht];exact h
   have HRL:Hid (k*4+(zS++(GR.flat aN (lJ l R k)++rest).drop (k*4+4)).length=cap*4):=by
    show k*4+(zS++(GR.flat aN (lJ l R k)++rest).drop (k*4+4)).length=cap*4
    rw [aEC,aE8,hXl];show k*4+(4+_)=_
    omega
   have HGF:Hid (w.grownBy (wr.setRow g ((GR.flat aN (lJ l R k)++rest).take (k*4)++zS++(GR.flat aN (lJ l R k)++rest).drop (k*4+4)).toArray) (some g)):=by
    refine HGk.andThen (row':=some g) ⟨rfl,rfl,rfl,Aac,λx hx hne=>setRow_other wr g x _ (λe=>hne Aao)⟩ (λj hj=> .inr hj)
   have hkc:k<=cap:=Aaa
   have hkI:(k:Int)<=(l.length:Int):=Aaa
   have aDI:(k:Int)<=(cap:Int):=Aaa
   have hcm2:cap<=9223372036854775807:=Aby
   have HKE:=Hq hke;generalize (GR.flat aN (lJ l R k)++rest).take (k*4)++zS++(GR.flat aN (lJ l R k)++rest).drop (k*4+4)=X2 at *;subst hjl;have hnlt:decide ((l.length:Int) < (l.length:Int))=false:=Aac
   clear HC jD EL zC JM HSk HGk hend hXl hel ayh hlt hke;go_wp2_with (simp only[akJ,hcl])
   go_ret;exact⟨by rw [ah HKE];first|done|rfl,⟨_,HFB,by rw [ah HKE];exact HRL⟩,HGF⟩
def aai (w:World) (B:Nat) (v:Value) (l:List jI) (e:Ending) (w':World):Prop:=∃a c,e= .returned (.slice a l.length c)/\w'.ownsRow B 129 4 (.slice a l.length c) l.length (GR.flat aN l)/\w.grownBy w' v.ownBlock/\∀x,(Value.slice a l.length c).ownBlock=some x->v.ownBlock=some x
theorem Mf (a:Option Addr) (cap:Nat) (l:List jI) (B:Nat) (w:World) (hix:Calls Tryz.prog 258 #[.slice a l.length cap,.func (.func 230) #[] #[.pointer (some ⟨B,0,none⟩)]] w (dK w (.int .i64 (-1)))):
 Calls Tryz.prog 229 #[.slice a l.length cap,.func (.func 230) #[] #[.pointer (some ⟨B,0,none⟩)]] w (dK w (.slice a l.length cap)):=by
 have HIX:=Hq hix;clear hix;go_in
 go_wp2_with fail;refine HIX.mono ?_;rintro e w1 ⟨rfl,hb1⟩;have HB:=Hq hb1;clear hb1 HIX;go_wp2_with fail;go_ret;exact⟨rfl,HB⟩
theorem ae7 (B0:Nat) (a:Option Addr) (cap:Nat) (l:List jI) (B:Nat) (m:Mg) (w:World) (hl:l.length<=1000) (hp:l.Pairwise (λs t=>s.i < t.i)) (hB:jH w B m) (ho:w.ownsRow B0 129 4 (.slice a l.length cap) l.length (GR.flat aN l)):
 Calls Tryz.prog 229 #[.slice a l.length cap,.func (.func 230) #[] #[.pointer (some ⟨B,0,none⟩)]] w (aai w B0 (.slice a l.length cap) (l.filter (λs=> !iJ m s))):=by
 have hat:SentAt w a l:=by
  obtain⟨a',cp,he,ha⟩:=GR.own_at (enc:=aN) (sz:=4) (l:=l) aX ho;cases he
  exact ha
 have hix:=afr a cap l B m w hl hat hB;by_cases h:qb l m < l.length
 .rw [aER h] at hix;rw [aeU hp h];have hy:iJ m l[qb l m]=true:=aGr (w:=h);have hid:l[qb l m].i=m.I:=(aEQ hy).1
  have hno:∀j (hj:j < l.length),qb l m < j->iJ m l[j]=false:=λj hj hlt=>by
   cases hq:iJ m l[j] with
   |false=>rfl
   |true=>
    exfalso
    have h1:l[j].i=m.I:=(aEQ hq).1;have:=aFx.1 hp _ j h hj hlt;omega
  open atT in exact aaR
 .rw [aEG h] at hix;rw [abv h];refine(Mf a cap l B w hix).mono ?_;rintro e w' ⟨rfl,hb⟩;exact⟨a,cap,rfl,GR.own_below ho hb,gG hb _,λx hx=>hx⟩
theorem WK.setOut {w0 w w':World} {wb:Nat} {n:Nd} {A:bg} {G:aR} {c:Nat->Nat} {v:Value} {L:List Mg} {a:Option Addr} {cp:Nat} (h:WK w0 w wb n A G c v L) (hg:w.grownBy w' (Value.slice A.o n.out.length A.co).ownBlock) (ho:w'.ownsRow w0.heap.size 129 4 (.slice a l.length cp) l.length (GR.flat aN l)) (hx:∀x,(Value.slice a l.length cp).ownBlock=some x->(Value.slice A.o n.out.length A.co).ownBlock=some x):
 w'.heap[wb]?=some (.cells (XB n A v) 254 (0,0))/\WK w0 (w'.setCell ⟨wb,5,none⟩ (.slice a l.length cp)) wb (setOut n l) ⟨A.k,A.p,a,A.s,A.r,A.ck,A.cp,cp,A.cs,A.cr⟩ G c v L:=by
 have hN:=h.no;have k3:KC c 3 w w':=KC.grown hg (λx hx=>hN.co x hx);have hb1:=k3.obj h.blk (by rw [h.cw];omega);have k8:KC c 8 w' (w'.setCell ⟨wb,5,none⟩ (.slice a l.length cp)):=KC.set h.cw;have hbel:=k3.below h.keep hN.lo Aaa h.keep.size;have hco:∀x,(Value.slice a l.length cp).ownBlock=some x->c x=3:=λx hx'=>hN.co x (hx x hx')
 refine⟨hb1,k8.below hbel hN.lo Aaa (aEA h.keep.size k3.size),aT hb1 5 (.slice a l.length cp),⟨k8.w (k3.w hN.k hN.ck Aaa) hN.ck Aaa,k8.w (k3.w hN.p hN.cp Aaa) hN.cp Aaa,k8.own ho hco Aaa,k8.seen (k3.seen hN.s hN.c4 hN.ci Aaa Aaa) hN.c4 hN.ci Aaa Aaa,k8.own (k3.own hN.r hN.cr Aaa) hN.cr Aaa,hN.lo,hN.ck,hN.cp,hco,hN.c4,hN.ci,hN.cr,hN.ni⟩,k8.own (k3.own h.m h.cm Aaa) h.cm Aaa,h.cm,h.cw⟩
theorem Vx (hz:eH n 1048576) (hb:hasB n.kids o.m.F=false) (hK:o.m.K=0) (h:WK w0 w wb n A G c v L):Calls Tryz.prog 210 #[.pointer (some ⟨wb,0,none⟩),jF o] w λe w'=>e= .returned (.int .i64 (fF n o.m).2.2)/\∃A' G' c' v',WK w0 w' wb (fF n o.m).1 A' G' c' v' (L++(fF n o.m).2.1):=by
 have HKD:=Hq (λw1 (ha:bX w1 A n)=>Cc n A o.m.F w1 (aEA hz.k Aaa) ha.k);rw [hb] at HKD
 have HR:Hid (fF n o.m=(n,[],1)):=by
  show fF n o.m=_
  unfold fF;rw [aEG Aaa,aEG Aaa,aEG (by rw [hb];simp)]
 rw [ah HR];clear hz hb HR;open aBi in exact av6
theorem Sv (E:Nat->Addr) (hz:eH n 1048576) (hok:dQ n=true) (hm:bJ o.m=true) (hL:L.length<=2097100) (hb:hasB n.kids o.m.F=true) (hK:o.m.K=0) (h:WK w0 w wb n A G c v L) (he:gX w0 E):Calls Tryz.prog 210 #[.pointer (some ⟨wb,0,none⟩),jF o] w λe w'=>e= .returned (.int .i64 (fF n o.m).2.2)/\∃A' G' c' v',WK w0 w' wb (fF n o.m).1 A' G' c' v' (L++(fF n o.m).2.1):=by
 have hw:=Kn hm hK;have HKD:=Hq (λw1 (ha:bX w1 A n)=>Cc n A o.m.F w1 (aEA hz.k Aaa) ha.k);rw [hb] at HKD;have IB:=Hq (λW (hW:WK w0 W wb n A G c v L)=>ajx w0 W wb n A G c v L o.m.F o.m.k o.m.N E hok hw.1 hw.2.1 hw.2.2 hL hW he)
 have HR:Hid (fF n o.m=((eU n o.m.F o.m.k o.m.N).1,(eU n o.m.F o.m.k o.m.N).2.1,0)):=by
  show fF n o.m=_
  unfold fF;rw [aEG Aaa,aEG Aaa,aER hb]
 rw [ah HR];clear hz hok hm hL he HR hw hb;generalize eU n o.m.F o.m.k o.m.N=TT at *;open aBh in exact av6
theorem CR (E:Nat->Addr) (hz:eH n 1048576) (hok:dQ n=true) (hm:bJ o.m=true) (hF:dU n o.m.F=true) (hks:o.m.k.size<=1048576) (hL:L.length<=2097100) (hb:(takeN n o.m).2=false) (hK:o.m.K=1) (h:WK w0 w wb n A G c v L) (he:gX w0 E):Calls Tryz.prog 210 #[.pointer (some ⟨wb,0,none⟩),jF o] w λe w'=>e= .returned (.int .i64 (fF n o.m).2.2)/\∃A' G' c' v',WK w0 w' wb (fF n o.m).1 A' G' c' v' (L++(fF n o.m).2.1):=by
 have hw:=F7 hm hK;have OZ:=Hq (λW (hW:WK w0 W wb n A G c v L)=>ad3 w0 W wb n A G c v L o.m E hz hok hF hks hw.2.2.2.1 Aaa hw.2.1 hW he);rw [hb] at OZ
 have HR:Hid (fF n o.m=((takeN n o.m).1,[],1)):=by
  show fF n o.m=_
  unfold fF;rw [aER hK,hb];rfl
 open aup in exact ag7
theorem Ed (E:Nat->Addr) (hz:eH n 1048576) (hok:dQ n=true) (hm:bJ o.m=true) (hF:dU n o.m.F=true) (hks:o.m.k.size<=1048576) (hL:L.length<=2097100) (hb:(takeN n o.m).2=true) (hK:o.m.K=1) (h:WK w0 w wb n A G c v L) (he:gX w0 E):Calls Tryz.prog 210 #[.pointer (some ⟨wb,0,none⟩),jF o] w λe w'=>e= .returned (.int .i64 (fF n o.m).2.2)/\∃A' G' c' v',WK w0 w' wb (fF n o.m).1 A' G' c' v' (L++(fF n o.m).2.1):=by
 have hw:=F7 hm hK;have OZ:=Hq (λW (hW:WK w0 W wb n A G c v L)=>ad3 w0 W wb n A G c v L o.m E hz hok hF hks hw.2.2.2.1 Aaa hw.2.1 hW he);rw [hb] at OZ
 have HR:Hid (fF n o.m=((takeN n o.m).1,[XY n o.m],0)):=by
  show fF n o.m=_
  unfold fF;rw [aER hK,hb];rfl
 open auo in exact ag7
theorem Vw (hok:dQ n=true) (hK:o.m.K=2) (h:WK w0 w wb n A G c v L):Calls Tryz.prog 210 #[.pointer (some ⟨wb,0,none⟩),jF o] w λe w'=>e= .returned (.int .i64 (fF n o.m).2.2)/\∃A' G' c' v',WK w0 w' wb (fF n o.m).1 A' G' c' v' (L++(fF n o.m).2.1):=by
 have ho:=sG (bq hok).2.2.2.2.1;have HDL:=Hq (λW B (hB:jH W B o.m) hO=>ae7 w0.heap.size A.o A.co n.out B o.m W Aaa ho.1 hB hO);unfold aai at HDL
 have HR:Hid (fF n o.m=(setOut n (n.out.filter (λs=> !iJ o.m s)),[],0)):=by
  show fF n o.m=_
  unfold fF;rw [aEG Aaa,aER hK]
 rw [ah HR];clear hok ho HR;open arB in exact ake
theorem alZ (E:Nat->Addr) (hz:eH n 1048576) (hok:dQ n=true) (hm:bJ o.m=true) (hF:dU n o.m.F=true) (hks:o.m.k.size<=1048576) (hL:L.length<=2097100) (h:WK w0 w wb n A G c v L) (he:gX w0 E):Calls Tryz.prog 210 #[.pointer (some ⟨wb,0,none⟩),jF o] w λe w'=>e= .returned (.int .i64 (fF n o.m).2.2)/\∃A' G' c' v',WK w0 w' wb (fF n o.m).1 A' G' c' v' (L++(fF n o.m).2.1):=by
 rcases Kl hm with hK|hK|hK
 .cases hb:hasB n.kids o.m.F with
  |false=>exact Vx w0 w wb n A G c v L o hz hb hK h
  |true=>exact Sv w0 w wb n A G c v L o E hz hok hm hL hb hK h he
 .cases hb:(takeN n o.m).2 with
  |false=>exact CR w0 w wb n A G c v L o E hz hok hm hF hks hL hb hK h he
  |true=>exact Ed w0 w wb n A G c v L o E hz hok hm hF hks hL hb hK h he
 .exact Vw w0 w wb n A G c v L o hok hK h
theorem adY (ho:bC o=false) (h:WK w0 w wb n A G c v L):Calls Tryz.prog 191 #[.pointer (some ⟨wb,0,none⟩),jF o] w λe w'=>e= .returned (.int .i64 (nC n o).2.2)/\∃A' G' c' v',WK w0 w' wb (nC n o).1 A' G' c' v' (L++(nC n o).2.1):=by
 have HR:Hid (nC n o=(n,[],3)):=by
  show nC n o=_
  unfold nC;rw [ho];rfl
 rw [ah HR];clear HR;open aAR in exact aeC
theorem adZ (hp:dX n=true) (hz:n.kids.length<=1048600) (ho:bC o=true) (hK:o.K=6) (ha:xX n o=false) (h:WK w0 w wb n A G c v L):Calls Tryz.prog 191 #[.pointer (some ⟨wb,0,none⟩),jF o] w λe w'=>e= .returned (.int .i64 (nC n o).2.2)/\∃A' G' c' v',WK w0 w' wb (nC n o).1 A' G' c' v' (L++(nC n o).2.1):=by
 have HR:Hid (nC n o=(n,[],3)):=by
  show nC n o=_
  unfold nC;rw [ha,Bool.and_false];rfl
 rw [ah HR]
 have hd:(decide (o.m.T=n.id)&&dU n o.m.F)=false:=by
  unfold xX at ha;rw [hK] at ha;simpa using ha
 have HAD:=Hq (λW (hW:WK w0 W wb n A G c v L)=>adX w0 W wb n A G c v L o.m hp hz hW);rw [hd] at HAD;clear HR hp hz ha hd;have HK6:=Hq hK;clear hK;open aAQ in exact aeC
theorem alS (ho:bC o=true) (hK:o.K=0) (hx:∀W,WK w0 W wb n A G c v L->Calls Tryz.prog 204 #[.pointer (some ⟨wb,0,none⟩),jF o] W λe w'=>e= .returned (.int .i64 (eZ n o).2.2)/\∃A' G' c' v',WK w0 w' wb (eZ n o).1 A' G' c' v' (L++(eZ n o).2.1)) (h:WK w0 w wb n A G c v L):Calls Tryz.prog 191 #[.pointer (some ⟨wb,0,none⟩),jF o] w λe w'=>e= .returned (.int .i64 (eZ n o).2.2)/\∃A' G' c' v',WK w0 w' wb (eZ n o).1 A' G' c' v' (L++(eZ n o).2.1):=by
 open az8 in exact Yk1
theorem alT (ho:bC o=true) (hK:o.K=1) (hx:∀W,WK w0 W wb n A G c v L->Calls Tryz.prog 205 #[.pointer (some ⟨wb,0,none⟩),jF o] W λe w'=>e= .returned (.int .i64 (eZ n o).2.2)/\∃A' G' c' v',WK w0 w' wb (eZ n o).1 A' G' c' v' (L++(eZ n o).2.1)) (h:WK w0 w wb n A G c v L):Calls Tryz.prog 191 #[.pointer (some ⟨wb,0,none⟩),jF o] w λe w'=>e= .returned (.int .i64 (eZ n o).2.2)/\∃A' G' c' v',WK w0 w' wb (eZ n o).1 A' G' c' v' (L++(eZ n o).2.1):=by
 open az7 in exact Yk1
theorem alU (ho:bC o=true) (hK:o.K=2) (hx:∀W,WK w0 W wb n A G c v L->Calls Tryz.prog 206 #[.pointer (some ⟨wb,0,none⟩),jF o] W λe w'=>e= .returned (.int .i64 (eZ n o).2.2)/\∃A' G' c' v',WK w0 w' wb (eZ n o).1 A' G' c' v' (L++(eZ n o).2.1)) (h:WK w0 w wb n A G c v L):Calls Tryz.prog 191 #[.pointer (some ⟨wb,0,none⟩),jF o] w λe w'=>e= .returned (.int .i64 (eZ n o).2.2)/\∃A' G' c' v',WK w0 w' wb (eZ n o).1 A' G' c' v' (L++(eZ n o).2.1):=by
 open az6 in exact Yk1
theorem alV (ho:bC o=true) (hK:o.K=3) (hx:∀W,WK w0 W wb n A G c v L->Calls Tryz.prog 207 #[.pointer (some ⟨wb,0,none⟩),jF o] W λe w'=>e= .returned (.int .i64 (eZ n o).2.2)/\∃A' G' c' v',WK w0 w' wb (eZ n o).1 A' G' c' v' (L++(eZ n o).2.1)) (h:WK w0 w wb n A G c v L):Calls Tryz.prog 191 #[.pointer (some ⟨wb,0,none⟩),jF o] w λe w'=>e= .returned (.int .i64 (eZ n o).2.2)/\∃A' G' c' v',WK w0 w' wb (eZ n o).1 A' G' c' v' (L++(eZ n o).2.1):=by
 open Sk9 in exact Yk1
theorem alW (ho:bC o=true) (hK:o.K=4) (hx:∀W,WK w0 W wb n A G c v L->Calls Tryz.prog 208 #[.pointer (some ⟨wb,0,none⟩),jF o] W λe w'=>e= .returned (.int .i64 (eZ n o).2.2)/\∃A' G' c' v',WK w0 w' wb (eZ n o).1 A' G' c' v' (L++(eZ n o).2.1)) (h:WK w0 w wb n A G c v L):Calls Tryz.prog 191 #[.pointer (some ⟨wb,0,none⟩),jF o] w λe w'=>e= .returned (.int .i64 (eZ n o).2.2)/\∃A' G' c' v',WK w0 w' wb (eZ n o).1 A' G' c' v' (L++(eZ n o).2.1):=by
 open Sk8 in exact Yk1
theorem alX (ho:bC o=true) (hK:o.K=5) (hx:∀W,WK w0 W wb n A G c v L->Calls Tryz.prog 209 #[.pointer (some ⟨wb,0,none⟩),jF o] W λe w'=>e= .returned (.int .i64 (eZ n o).2.2)/\∃A' G' c' v',WK w0 w' wb (eZ n o).1 A' G' c' v' (L++(eZ n o).2.1)) (h:WK w0 w wb n A G c v L):Calls Tryz.prog 191 #[.pointer (some ⟨wb,0,none⟩),jF o] w λe w'=>e= .returned (.int .i64 (eZ n o).2.2)/\∃A' G' c' v',WK w0 w' wb (eZ n o).1 A' G' c' v' (L++(eZ n o).2.1):=by
 open Sk7 in exact Yk1
theorem alY (hp:dX n=true) (hz:n.kids.length<=1048600) (hd:(decide (o.m.T=n.id)&&dU n o.m.F)=true) (ho:bC o=true) (hK:o.K=6) (hx:∀W,WK w0 W wb n A G c v L->Calls Tryz.prog 210 #[.pointer (some ⟨wb,0,none⟩),jF o] W λe w'=>e= .returned (.int .i64 (eZ n o).2.2)/\∃A' G' c' v',WK w0 w' wb (eZ n o).1 A' G' c' v' (L++(eZ n o).2.1)) (h:WK w0 w wb n A G c v L):Calls Tryz.prog 191 #[.pointer (some ⟨wb,0,none⟩),jF o] w λe w'=>e= .returned (.int .i64 (eZ n o).2.2)/\∃A' G' c' v',WK w0 w' wb (eZ n o).1 A' G' c' v' (L++(eZ n o).2.1):=by
 have HAD:=Hq (λW (hW:WK w0 W wb n A G c v L)=>adX w0 W wb n A G c v L o.m hp hz hW);rw [hd] at HAD;clear hp hz hd;have HX:=Hq hx;have HKQ:=Hq hK;clear hx hK;generalize eZ n o=TT at *;open aAP in exact aeC
theorem aC6 (w0 w:World) (wb:Nat) (n:Nd) (A:bg) (G:aR) (c:Nat->Nat) (v:Value) (L:List Mg) (o:gD) (E:Nat->Addr) (hz:eH n 1048576) (hok:dQ n=true) (hk:o.k.size<=1048576) (hmk:o.m.k.size<=1048576) (hL:L.length<=1048000) (h:WK w0 w wb n A G c v L) (he:gX w0 E):Calls Tryz.prog 191 #[.pointer (some ⟨wb,0,none⟩),jF o] w λe w'=>e= .returned (.int .i64 (nC n o).2.2)/\∃A' G' c' v',WK w0 w' wb (nC n o).1 A' G' c' v' (L++(nC n o).2.1):=by
 have hp:=(bq hok).1;have hzk:n.kids.length<=1048600:=aEA hz.k Aaa;have hrq:=(bq hok).2.2.2.2.2;cases ho:bC o with
 |false=>exact adY w0 w wb n A G c v L o ho h
 |true=>
  cases ha:xX n o with
  |false=>
   have hK:o.K=6:=by
    unfold xX at ha;by_cases hK:o.K=6
    .exact hK
    .rw [aEw hK] at ha;simp at ha
   exact adZ w0 w wb n A G c v L o hp hzk ho hK ha h
  |true=>
   have hw:nC n o=eZ n o:=by
    unfold nC;rw [ho,ha];rfl
   rw [hw];clear hw;rcases Kz ho with hK|hK|hK|hK|hK|hK|hK
   .refine alS w0 w wb n A G c v L o ho hK (λW hW=>?_) h
    have e:eZ n o=((uY n o).1,[],(uY n o).2):=by
     unfold eZ uY;rw [aER hK];split<;>rfl
    rw [e];refine(al0 w0 W wb n A G c v L o E hz hk hW he).mono ?_;exact aa6
   .refine alT w0 w wb n A G c v L o ho hK (λW hW=>?_) h;have hpa:=F9 ho hK
    have e:eZ n o=((fE n o.no o.k o.n).1,[],(fE n o.no o.k o.n).2):=by
     unfold eZ;rw [aEG Aaa,aER hK]
    rw [e];refine(agb w0 W wb n A G c v L o E hz hrq hk Aaa hpa.2.2.2.2 hW he).mono ?_;exact aa6
   .refine alU w0 w wb n A G c v L o ho hK (λW hW=>?_) h;have hpr:=M9 ho hK
    have e:eZ n o=((aQ n o.no).1,[],(aQ n o.no).2):=by
     unfold eZ;rw [aEG Aaa,aEG Aaa,aER hK]
    rw [e];refine(aae w0 W wb n A G c v L o E hz hrq Aaa hpr.2 hW he).mono ?_;exact aa6
   .refine alV w0 w wb n A G c v L o ho hK (λW hW=>?_) h
    have e:eZ n o=(n,(Ht n o).1,(Ht n o).2):=by
     unfold eZ Ht;rw [aEG Aaa,aEG Aaa,aEG Aaa,aER hK];split<;>rfl
    rw [e];refine(al2 w0 W wb n A G c v L o hk Aaa hW).mono ?_;rintro e w' ⟨rfl,c',v',hW'⟩;exact⟨rfl,A,G,c',v',hW'⟩
   .refine alW w0 w wb n A G c v L o ho hK (λW hW=>?_) h;have hpk:=QK ho Aaa
    have e:eZ n o=EZ n o:=by
     unfold eZ EZ;rw [aEG Aaa,aEG Aaa,aEG Aaa,aEG Aaa,aER hK]
    rw [e];exact alR w0 W wb n A G c v L o E hok hpk.1 hpk.2.1 hpk.2.2 Aaa hW he
   .refine alX w0 w wb n A G c v L o ho hK (λW hW=>?_) h
    have e:eZ n o=(n,n.out.map (qh n),0):=by
     unfold eZ;rw [aEG Aaa,aEG Aaa,aEG Aaa,aEG Aaa,aEG Aaa,aER hK]
    rw [e];refine(al1 w0 W wb n A G c v L o hz hL hW).mono ?_;rintro e w' ⟨rfl,c',v',hW'⟩;exact⟨rfl,A,G,c',v',hW'⟩
   .have had:=EU ha hK;have hd:(decide (o.m.T=n.id)&&dU n o.m.F)=true:=by rw [aEy had.1,had.2];rfl
    refine alY w0 w wb n A G c v L o hp hzk hd ho hK (λW hW=>?_) h
    have e:eZ n o=fF n o.m:=by
     unfold eZ;rw [aEG Aaa,aEG Aaa,aEG Aaa,aEG Aaa,aEG Aaa,aEG Aaa]
    rw [e];exact alZ w0 W wb n A G c v L o E hz hok (Kw ho hK) had.2 hmk Aaa hW he
def Ls (w:World) (n:Nd) (e:Ending) (w':World):Prop:=∃A' G' c',e= .returned (gP n A')/\NO w' w.heap.size n A' G' c'/\aG w w'
theorem MO (n:Nd) (A:bg) (a:Option Addr) (cap:Nat) (L:List gD) (E:Nat->Addr) (w:World) (hz:eH n 1048576) (hL:L.length<=60000) (hk:∀o∈L,o.k.size<=1048576/\o.m.k.size<=1048576) (ha:bX w A n) (ho:JX w a L) (he:gX w E):
 Calls Tryz.prog 162 #[gP n A,.slice a L.length cap] w (Ls w (gH n L)):=by
 have Ol:=Hq (λW (h:aG w W)=>uz n A W hz (ha.below h));have nD:=Hq (λW (h:aG w W)=>yJ n A W (hz.mono Aaa) (ha.below h));have HDO:=Hq (fun(hn:dQ n=true) (k:Nat) (hk1:k < L.length) W w0 wb A G c v (hW:WK w0 W wb (gH n (L.take k)) A G c v []) (he:gX w0 E)=>aC6 w0 W wb (gH n (L.take k)) A G c v [] L[k] E (Nk hz _) (Xm hn _) (hk _ (aEL hk1)).1 (hk _ (aEL hk1)).2 Aac hW he);have HPS:=Hq (fun(hn:dQ n=true) (k:Nat) (hk1:k < L.length)=>show(nC (gH n (L.take k)) L[k]).1=gH n (L.take (k+1)) by rw [KG hk1,Ue (Xm hn _)]);have LH:=Hq (λh=>adg (n:=n) h L);have HPE:=Hq (show gH n (L.take L.length)=gH n L by rw [aEW]);have HE:=Hq he;have HO:=Hq ho;clear hz ha hk ho he;unfold Ls;go_in
 go_upto_region 1 with fail;refine wp_at (λW0 hW=>?_);obtain⟨e1,e3,e4⟩:=gU w (.cells (dR n A) 53) (.cells kH 53);rw [<-hW] at e1 e3 e4;have HN:=Hq e1;have HR:=Hq e3;have HB:=Hq e4;have HO0:=Hq (GR.At.below HO e4);have HE0:=Hq (HE.below e4);clear hW e1 e3 e4 HO HE;have hl0:=ay HR;obtain⟨c0,c1,c2,c3,c4,c5,c6,c7,c8⟩:=nine HN;go_wp2_with fail;refine(Ol W0 HB).mono ?_;rintro e y ⟨A1,G1,cc1,rfl,hNO,hby⟩;have jD:=Hq hNO;have Eu:=Hq hby;clear hNO hby c0 c1 c2 c3 c4 c5 c6 c7 c8 Ol;go_upto_region 2 with fail;refine wp_at (λW hW=>?_);have e5:W.heap[y.heap.size]?=some (.cells (XB n A1 (.slice none 0 0)) 254 (0,0)):=Acf
 have e6:aG y W:=by rw [hW];exact au _ _
 have HK:=Hq (WK.start Eu jD (aEx y.heap.size) e6 e5);have HNW:=Hq (aj HN HK.keep);have hys:W0.heap.size<=y.heap.size:=Eu.size;clear hW e5 e6 jD HN Eu;generalize newC y.heap.size 8 cc1=Pz at *;generalize y.heap.size=wb at *;obtain⟨c0,c1,c2,c3,c4,c5,c6,c7,c8⟩:=nine HNW;have hnl:=ay HNW;go_wp2_with fail;refine(nD W (HB.trans (HK.keep.mono HB.size))).mono ?_;rintro e W2 ⟨rfl,hb2⟩;have qE:=Hq (HK.step hb2);clear hb2 c0 c1 c2 c3 c4 c5 c6 c7 c8 nD HNW hnl HK;cases hok:dQ n with
 |false=>
  have hpb:=ah LH hok;clear HDO HPS LH HPE;obtain⟨c0,c1,c2,c3,c4,c5,c6,c7,c8,c9⟩:=jB qE.blk;have hres:=aj HR qE.keep;have tV:=Hq hres;have hrl:=ay hres;have hwl:=ay qE.blk;obtain⟨d0,d1,d2,d3,d4,d5,d6,d7,d8⟩:=nine hres;obtain⟨f0,f1,f2,f3,f4,f5,f6,f7,f8⟩:=mX hres;clear hres;go_wp2_with fail;refine oU Tryz.results162 rfl rfl tV (λW' _ eX _ _=>?_);have pU:NO W' w.heap.size n A1 G1 Pz:=(qE.no.keepsN Aaa eX).base HB.size;have hBB:=(HB.trans (qE.keep.mono HB.size)).trans (eX.below (λx hx=>Aaj) (HB.trans (qE.keep.mono HB.size)).size);exact⟨A1,G1,Pz,by rw [hpb],by rw [hpb];exact pU,hBB⟩
 |true=>
  have HD:=Hq (HDO hok);have HP:=Hq (HPS hok);have hK0:∃A G c,WK W0 W2 wb (gH n (L.take 0)) A G c (.slice none 0 0) []:=⟨A1,G1,Pz,qE⟩;have HK0:=Hq hK0;clear HDO HPS LH hok qE hK0;go_wp2_with fail;go_loopw [18] (λi wr=>∃k:Nat,k<=L.length/\i= .int .i64 k/\∃A G c,WK W0 wr wb (gH n (L.take k)) A G c (.slice none 0 0) []) (λi _=>L.length - (intOf i).toNat)
  case atStart=>exact⟨0,aEN _,rfl,HK0⟩
  case round=>
   clear HK0;obtain⟨k,hkl,rfl,A2,G2,cc3,hK⟩:=hrel;have HK:=Hq hK;clear hK;by_cases hlt:k < L.length
   .obtain⟨g1,o1,rfl,hg1,s0,s1,s2,s3,s4,s5,s6,s7,s8,s9,s10⟩:=JX.eleven (GR.At.below HO0 HK.keep) k hlt;have HDk:=Hq (HD k hlt);have HPk:=Hq (HP k hlt);generalize nC (gH n (L.take k)) L[k]=RR at *;generalize gH n (L.take k)=m at *;generalize L[k]=oo at *;obtain⟨K,no,kk,nn,⟨mK,mF,mT,mI,mL,mk,mN⟩⟩:=oo;dsimp only at s0 s1 s2 s3 s4 s5 s6 s7 s8 s9 s10;go_upto_region 7 with fail;refine wp_at (λV hV=>?_);have hbv:aG wr V:=by rw [hV];exact au _ _
    have HV:=Hq (show V.heap[wr.heap.size]?=some (.cells (bE K no kk nn mK mF mT mI mL mk mN) 106 (0,0)) by rw [hV];exact aEu _ _);have qE:=Hq (HK.step hbv);have agl:=Hq (HDk V W0 wb A2 G2 cc3 _ qE HE0);clear hV hbv HK HDk s0 s1 s2 s3 s4 s5 s6 s7 s8 s9 s10;obtain⟨⟨p0,p1,p2,p3,p4,p5,p6,p7,p8,p9,nI⟩,_⟩:=aJ HV;go_wp2_with fail;refine agl.mono ?_;rintro e W3 ⟨rfl,A3,G3,cc4,v3,hK3⟩;have VQ:=Hq hK3;obtain⟨q0,q1,q2,q3,q4,q5,q6,q7,q8,q9⟩:=jB hK3.blk;have f9:=aA hK3.blk 9;clear hK3 agl qE HV p0 p1 p2 p3 p4 p5 p6 p7 p8 p9 nI q0 q1 q2 q3 q4 q5 q6 q7 q8;go_wp2_with fail;go_roundw
    case rel=>exact⟨k+1,Aaa,Aaf,A3,G3,cc4,by have h:=VQ.mute;rw [ah HPk] at h;exact h⟩
    case measure=>simp[intOf];omega
   .have hke:k=L.length:=Aaa
    subst hke;have hnlt:decide ((L.length:Int) < (L.length:Int))=false:=Aac
    rw [ah HPE] at HK;obtain⟨m,hm⟩:∃m,gH n L=m:=⟨_,rfl⟩;rw [hm] at HK;have HM:=Hq hm;clear HD HP HPE hlt hm;obtain⟨c0,c1,c2,c3,c4,c5,c6,c7,c8,c9⟩:=jB HK.blk;have hres:=aj HR HK.keep;have tV:=Hq hres;have hrl:=ay hres;have hwl:=ay HK.blk;obtain⟨d0,d1,d2,d3,d4,d5,d6,d7,d8⟩:=nine hres;obtain⟨f0,f1,f2,f3,f4,f5,f6,f7,f8⟩:=mX hres;clear hres;go_wp2_with fail;refine oU Tryz.results162 rfl rfl tV (λW' _ eX _ _=>?_);have pU:NO W' w.heap.size m A2 G2 cc3:=(HK.no.keepsN Aaa eX).base HB.size;have hBB:=(HB.trans (HK.keep.mono HB.size)).trans (eX.below (λx hx=>Aaj) (HB.trans (HK.keep.mono HB.size)).size);exact⟨A2,G2,cc3,by rw [ah HM],by rw [ah HM];exact pU,hBB⟩
end Go.Proofs.YtfachhcijcjbpaaGreatDoor
