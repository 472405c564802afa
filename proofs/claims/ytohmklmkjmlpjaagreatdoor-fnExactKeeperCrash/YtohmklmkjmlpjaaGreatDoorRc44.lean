/- Parts. -/
import Derived.Test.YtohmklmkjmlpjaaGreatDoorRc30
import Derived.Test.YtohmklmkjmlpjaaGreatDoorRc42
import Derived.Test.YtohmklmkjmlpjaaGreatDoorRc17
import Derived.Test.YtohmklmkjmlpjaaGreatDoorRc43
namespace Go.Proofs.YtohmklmkjmlpjaaGreatDoor
open Go.Proofs.Tryz
set_option maxHeartbeats 8000000
set_option maxRecDepth 100000
open Go.RowKit
open Mth
variable (w0 w:World) (wb:Nat) (n:Nd) (A:bV) (G:aR) (c:Nat->Nat) (v:Value) (L:List Mg) (o:gW) {g:Nat} {k:Kp} {st:Int} {rt:Bool}
theorem aed (ho:cK o=false) (h:WK w0 w wb n A G c v L):Calls prog 138 #[.pointer (some ⟨wb,0,none⟩),jY o] w λe w'=>e= .returned (.int .i64 (nR n o).2.2)/\∃A' G' c' v',WK w0 w' wb (nR n o).1 A' G' c' v' (L++(nR n o).2.1):=by
 have HR:Hid (nR n o=(n,[],3)):=by
  show nR n o=_
  unfold nR;rw [ho];rfl
 rw [ah HR];clear HR;open aC2 in exact aeM
theorem aee (hp:eO n=true) (hz:n.kids.length<=1048600) (ho:cK o=true) (hK:o.K=6) (ha:yh n o=false) (h:WK w0 w wb n A G c v L):Calls prog 138 #[.pointer (some ⟨wb,0,none⟩),jY o] w λe w'=>e= .returned (.int .i64 (nR n o).2.2)/\∃A' G' c' v',WK w0 w' wb (nR n o).1 A' G' c' v' (L++(nR n o).2.1):=by
 have HR:Hid (nR n o=(n,[],3)):=by
  show nR n o=_
  unfold nR;rw [ha,Bool.and_false];rfl
 rw [ah HR]
 have hd:(decide (o.m.T=n.id)&&eD n o.m.F)=false:=by
  unfold yh at ha;rw [hK] at ha;simpa using ha
 have HAD:=Hq (λW (hW:WK w0 W wb n A G c v L)=>aec w0 W wb n A G c v L o.m hp hz hW);rw [hd] at HAD;clear HR hp hz ha hd;have VN:=Hq hK;clear hK;open aC1 in exact aeM
theorem amk (ho:cK o=true) (hK:o.K=0) (hx:∀W,WK w0 W wb n A G c v L->Calls prog 175 #[.pointer (some ⟨wb,0,none⟩),jY o] W λe w'=>e= .returned (.int .i64 (fG n o).2.2)/\∃A' G' c' v',WK w0 w' wb (fG n o).1 A' G' c' v' (L++(fG n o).2.1)) (h:WK w0 w wb n A G c v L):Calls prog 138 #[.pointer (some ⟨wb,0,none⟩),jY o] w λe w'=>e= .returned (.int .i64 (fG n o).2.2)/\∃A' G' c' v',WK w0 w' wb (fG n o).1 A' G' c' v' (L++(fG n o).2.1):=by
 open aB5 in exact Yk1
theorem aml (ho:cK o=true) (hK:o.K=1) (hx:∀W,WK w0 W wb n A G c v L->Calls prog 176 #[.pointer (some ⟨wb,0,none⟩),jY o] W λe w'=>e= .returned (.int .i64 (fG n o).2.2)/\∃A' G' c' v',WK w0 w' wb (fG n o).1 A' G' c' v' (L++(fG n o).2.1)) (h:WK w0 w wb n A G c v L):Calls prog 138 #[.pointer (some ⟨wb,0,none⟩),jY o] w λe w'=>e= .returned (.int .i64 (fG n o).2.2)/\∃A' G' c' v',WK w0 w' wb (fG n o).1 A' G' c' v' (L++(fG n o).2.1):=by
 open aB4 in exact Yk1
theorem amm (ho:cK o=true) (hK:o.K=2) (hx:∀W,WK w0 W wb n A G c v L->Calls prog 177 #[.pointer (some ⟨wb,0,none⟩),jY o] W λe w'=>e= .returned (.int .i64 (fG n o).2.2)/\∃A' G' c' v',WK w0 w' wb (fG n o).1 A' G' c' v' (L++(fG n o).2.1)) (h:WK w0 w wb n A G c v L):Calls prog 138 #[.pointer (some ⟨wb,0,none⟩),jY o] w λe w'=>e= .returned (.int .i64 (fG n o).2.2)/\∃A' G' c' v',WK w0 w' wb (fG n o).1 A' G' c' v' (L++(fG n o).2.1):=by
 open aB3 in exact Yk1
theorem amn (ho:cK o=true) (hK:o.K=3) (hx:∀W,WK w0 W wb n A G c v L->Calls prog 178 #[.pointer (some ⟨wb,0,none⟩),jY o] W λe w'=>e= .returned (.int .i64 (fG n o).2.2)/\∃A' G' c' v',WK w0 w' wb (fG n o).1 A' G' c' v' (L++(fG n o).2.1)) (h:WK w0 w wb n A G c v L):Calls prog 138 #[.pointer (some ⟨wb,0,none⟩),jY o] w λe w'=>e= .returned (.int .i64 (fG n o).2.2)/\∃A' G' c' v',WK w0 w' wb (fG n o).1 A' G' c' v' (L++(fG n o).2.1):=by
 open Sk9 in exact Yk1
theorem amo (ho:cK o=true) (hK:o.K=4) (hx:∀W,WK w0 W wb n A G c v L->Calls prog 179 #[.pointer (some ⟨wb,0,none⟩),jY o] W λe w'=>e= .returned (.int .i64 (fG n o).2.2)/\∃A' G' c' v',WK w0 w' wb (fG n o).1 A' G' c' v' (L++(fG n o).2.1)) (h:WK w0 w wb n A G c v L):Calls prog 138 #[.pointer (some ⟨wb,0,none⟩),jY o] w λe w'=>e= .returned (.int .i64 (fG n o).2.2)/\∃A' G' c' v',WK w0 w' wb (fG n o).1 A' G' c' v' (L++(fG n o).2.1):=by
 open Sk8 in exact Yk1
theorem amq (ho:cK o=true) (hK:o.K=5) (hx:∀W,WK w0 W wb n A G c v L->Calls prog 180 #[.pointer (some ⟨wb,0,none⟩),jY o] W λe w'=>e= .returned (.int .i64 (fG n o).2.2)/\∃A' G' c' v',WK w0 w' wb (fG n o).1 A' G' c' v' (L++(fG n o).2.1)) (h:WK w0 w wb n A G c v L):Calls prog 138 #[.pointer (some ⟨wb,0,none⟩),jY o] w λe w'=>e= .returned (.int .i64 (fG n o).2.2)/\∃A' G' c' v',WK w0 w' wb (fG n o).1 A' G' c' v' (L++(fG n o).2.1):=by
 open Sk7 in exact Yk1
theorem amr (hp:eO n=true) (hz:n.kids.length<=1048600) (hd:(decide (o.m.T=n.id)&&eD n o.m.F)=true) (ho:cK o=true) (hK:o.K=6) (hx:∀W,WK w0 W wb n A G c v L->Calls prog 181 #[.pointer (some ⟨wb,0,none⟩),jY o] W λe w'=>e= .returned (.int .i64 (fG n o).2.2)/\∃A' G' c' v',WK w0 w' wb (fG n o).1 A' G' c' v' (L++(fG n o).2.1)) (h:WK w0 w wb n A G c v L):Calls prog 138 #[.pointer (some ⟨wb,0,none⟩),jY o] w λe w'=>e= .returned (.int .i64 (fG n o).2.2)/\∃A' G' c' v',WK w0 w' wb (fG n o).1 A' G' c' v' (L++(fG n o).2.1):=by
 have HAD:=Hq (λW (hW:WK w0 W wb n A G c v L)=>aec w0 W wb n A G c v L o.m hp hz hW);rw [hd] at HAD;clear hp hz hd;have HX:=Hq hx;have HKQ:=Hq hK;clear hx hK;generalize fG n o=TT at *;open aC0 in exact aeM
theorem aEU (w0 w:World) (wb:Nat) (n:Nd) (A:bV) (G:aR) (c:Nat->Nat) (v:Value) (L:List Mg) (o:gW) (E:Nat->Addr) (hz:eG n 1048576) (hok:eH n=true) (hk:o.k.size<=1048576) (hmk:o.m.k.size<=1048576) (hL:L.length<=1048000) (h:WK w0 w wb n A G c v L) (he:iK w0 E):Calls prog 138 #[.pointer (some ⟨wb,0,none⟩),jY o] w λe w'=>e= .returned (.int .i64 (nR n o).2.2)/\∃A' G' c' v',WK w0 w' wb (nR n o).1 A' G' c' v' (L++(nR n o).2.1):=by
 have hp:=(bZ hok).1;have hzk:n.kids.length<=1048600:=aGm hz.k Aaa;have hrq:=(bZ hok).2.2.2.2.2;cases ho:cK o with
 |false=>exact aed w0 w wb n A G c v L o ho h
 |true=>
  cases ha:yh n o with
  |false=>
   have hK:o.K=6:=by
    unfold yh at ha;by_cases hK:o.K=6
    .exact hK
    .rw [aGi hK] at ha;simp at ha
   exact aee w0 w wb n A G c v L o hp hzk ho hK ha h
  |true=>
   have hw:nR n o=fG n o:=by
    unfold nR;rw [ho,ha];rfl
   rw [hw];clear hw;rcases Kw ho with hK|hK|hK|hK|hK|hK|hK
   .refine amk w0 w wb n A G c v L o ho hK (λW hW=>?_) h
    have e:fG n o=((vM n o).1,[],(vM n o).2):=by
     unfold fG vM;rw [aGC hK];split<;>rfl
    rw [e];refine(amu w0 W wb n A G c v L o E hz hk hW he).mono ?_;exact abh
   .refine aml w0 w wb n A G c v L o ho hK (λW hW=>?_) h;have hpa:=Gb ho hK
    have e:fG n o=((fQ n o.no o.k o.n).1,[],(fQ n o.no o.k o.n).2):=by
     unfold fG;rw [aGr Aaa,aGC hK]
    rw [e];refine(agf w0 W wb n A G c v L o E hz hrq hk Aaa hpa.2.2.2.2 hW he).mono ?_;exact abh
   .refine amm w0 w wb n A G c v L o ho hK (λW hW=>?_) h;have hpr:=Ng ho hK
    have e:fG n o=((bq n o.no).1,[],(bq n o.no).2):=by
     unfold fG;rw [aGr Aaa,aGr Aaa,aGC hK]
    rw [e];refine(ZX w0 W wb n A G c v L o E hz hrq Aaa hpr.2 hW he).mono ?_;exact abh
   .refine amn w0 w wb n A G c v L o ho hK (λW hW=>?_) h
    have e:fG n o=(n,(Hg n o).1,(Hg n o).2):=by
     unfold fG Hg;rw [aGr Aaa,aGr Aaa,aGr Aaa,aGC hK];split<;>rfl
    rw [e];refine(amw w0 W wb n A G c v L o hk Aaa hW).mono ?_;rintro e w' ⟨rfl,c',v',hW'⟩;exact⟨rfl,A,G,c',v',hW'⟩
   .refine amo w0 w wb n A G c v L o ho hK (λW hW=>?_) h;have hpk:=QG ho Aaa
    have e:fG n o=Fg n o:=by
     unfold fG Fg;rw [aGr Aaa,aGr Aaa,aGr Aaa,aGr Aaa,aGC hK]
    rw [e];exact amj w0 W wb n A G c v L o E hok hpk.1 hpk.2.1 hpk.2.2 Aaa hW he
   .refine amq w0 w wb n A G c v L o ho hK (λW hW=>?_) h
    have e:fG n o=(n,n.out.map (qO n),0):=by
     unfold fG;rw [aGr Aaa,aGr Aaa,aGr Aaa,aGr Aaa,aGr Aaa,aGC hK]
    rw [e];refine(amv w0 W wb n A G c v L o hz hL hW).mono ?_;rintro e w' ⟨rfl,c',v',hW'⟩;exact⟨rfl,A,G,c',v',hW'⟩
   .have had:=E8 ha hK;have hd:(decide (o.m.T=n.id)&&eD n o.m.F)=true:=by rw [aGk had.1,had.2];rfl
    refine amr w0 w wb n A G c v L o hp hzk hd ho hK (λW hW=>?_) h
    have e:fG n o=fT n o.m:=by
     unfold fG;rw [aGr Aaa,aGr Aaa,aGr Aaa,aGr Aaa,aGr Aaa,aGr Aaa]
    rw [e];exact ams w0 W wb n A G c v L o E hz hok (Kv ho hK) had.2 hmk Aaa hW he
def Lj (w:World) (n:Nd) (e:Ending) (w':World):Prop:=∃A' G' c',e= .returned (gP n A')/\NO w' w.heap.size n A' G' c'/\aI w w'
theorem MO (n:Nd) (A:bV) (a:Option Addr) (cap:Nat) (L:List gW) (E:Nat->Addr) (w:World) (hz:eG n 1048576) (hL:L.length<=60000) (hk:∀o∈L,o.k.size<=1048576/\o.m.k.size<=1048576) (ha:dD w A n) (ho:EW w a L) (he:iK w E):
 Calls prog 83 #[gP n A,.slice a L.length cap] w (Lj w (gD n L)):=by
 have Oj:=Hq (λW (h:aI w W)=>uP n A W hz (ha.below h));have oN:=Hq (λW (h:aI w W)=>Ut n A W (hz.mono Aaa) (ha.below h));have HDO:=Hq (fun(hn:eH n=true) (k:Nat) (hk1:k < L.length) W w0 wb A G c v (hW:WK w0 W wb (gD n (L.take k)) A G c v []) (he:iK w0 E)=>aEU w0 W wb (gD n (L.take k)) A G c v [] L[k] E (Nk hz _) (Xj hn _) (hk _ (aGz hk1)).1 (hk _ (aGz hk1)).2 Aac hW he);have HPS:=Hq (fun(hn:eH n=true) (k:Nat) (hk1:k < L.length)=>show(nR (gD n (L.take k)) L[k]).1=gD n (L.take (k+1)) by rw [KG hk1,TY (Xj hn _)]);have Lv:=Hq (λh=>adC (n:=n) h L);have HPE:=Hq (show gD n (L.take L.length)=gD n L by rw [aGL]);have HE:=Hq he;have HO:=Hq ho;clear hz ha hk ho he;unfold Lj;go_in
 go_upto_region 1 with fail;refine wp_at (λW0 hW=>?_);obtain⟨e1,e3,e4⟩:=gQ w (.cells (dG n A) 40) (.cells iP 40);rw [<-hW] at e1 e3 e4;have HN:=Hq e1;have HR:=Hq e3;have HB:=Hq e4;have HO0:=Hq (GR.At.below HO e4);have HE0:=Hq (HE.below e4);clear hW e1 e3 e4 HO HE;have hl0:=aA HR;obtain⟨c0,c1,c2,c3,c4,c5,c6,c7,c8⟩:=nine HN;go_wp2_with fail;refine(Oj W0 HB).mono ?_;rintro e y ⟨A1,G1,cc1,rfl,hNO,hby⟩;have mZ:=Hq hNO;have JC:=Hq hby;clear hNO hby c0 c1 c2 c3 c4 c5 c6 c7 c8 Oj;go_upto_region 2 with fail;refine wp_at (λW hW=>?_);have e5:W.heap[y.heap.size]?=some (.cells (Xx n A1 (.slice none 0 0)) 192 (0,0)):=Aco
 have e6:aI y W:=by rw [hW];exact ay _ _
 have HK:=Hq (WK.start JC mZ (aGh y.heap.size) e6 e5);have XD:=Hq (au HN HK.keep);have hys:W0.heap.size<=y.heap.size:=JC.size;clear hW e5 e6 mZ HN JC;generalize newC y.heap.size 8 cc1=Pn at *;generalize y.heap.size=wb at *;obtain⟨c0,c1,c2,c3,c4,c5,c6,c7,c8⟩:=nine XD;have hnl:=aA XD;go_wp2_with fail;refine(oN W (HB.trans (HK.keep.mono HB.size))).mono ?_;rintro e W2 ⟨rfl,hb2⟩;have uw:=Hq (HK.step hb2);clear hb2 c0 c1 c2 c3 c4 c5 c6 c7 c8 oN XD hnl HK;cases hok:eH n with
 |false=>
  have hpb:=ah Lv hok;clear HDO HPS Lv HPE;obtain⟨c0,c1,c2,c3,c4,c5,c6,c7,c8,c9⟩:=jW uw.blk;have hres:=au HR uw.keep;have rD:=Hq hres;have hrl:=aA hres;have hwl:=aA uw.blk;obtain⟨d0,d1,d2,d3,d4,d5,d6,d7,d8⟩:=nine hres;have f0:=aj hres 0;have f1:=aj hres 1;have f2:=aj hres 2;have f3:=aj hres 3;have f4:=aj hres 4;have f5:=aj hres 5;have f6:=aj hres 6;have f7:=aj hres 7;have f8:=aj hres 8;clear hres;go_wp2_with fail;refine aP (λW' hW'=>?_);have e9:W'.heap[w.heap.size+1]?=some (.cells (dG n A1) 40 (0,0)):=by rw [hW'];exact wC rD
  obtain⟨r0,r1,r2,r3,r4,r5,r6,r7,r8⟩:=nine e9;have ql:NO W' w.heap.size n A1 G1 Pn:=by rw [hW'];exact(uw.no.keepsN Aaa qG).base HB.size
  have hBB:aI w W':=by rw [hW'];exact uF (HB.trans (uw.keep.mono HB.size)) Aaa
  exact aGn (v:=gP n A1) Adp rfl ⟨A1,G1,Pn,by rw [hpb],by rw [hpb];exact ql,hBB⟩
 |true=>
  have HD:=Hq (HDO hok);have HP:=Hq (HPS hok);have hK0:∃A G c,WK W0 W2 wb (gD n (L.take 0)) A G c (.slice none 0 0) []:=⟨A1,G1,Pn,uw⟩;have Hy:=Hq hK0;clear HDO HPS Lv hok uw hK0;go_wp2_with fail;go_loopw [18] (λi wr=>∃k:Nat,k<=L.length/\i= .int .i64 k/\∃A G c,WK W0 wr wb (gD n (L.take k)) A G c (.slice none 0 0) []) (λi _=>L.length - (intOf i).toNat)
  case atStart=>exact⟨0,aGB _,rfl,Hy⟩
  case round=>
   clear Hy;obtain⟨k,hkl,rfl,A2,G2,cc3,hK⟩:=hrel;have HK:=Hq hK;clear hK;by_cases hlt:k < L.length
   .obtain⟨g1,o1,rfl,hg1,s0,s1,s2,s3,s4,s5,s6,s7,s8,s9,s10⟩:=EW.eleven (GR.At.below HO0 HK.keep) k hlt;have HDk:=Hq (HD k hlt);have HPk:=Hq (HP k hlt);generalize nR (gD n (L.take k)) L[k]=RR at *;generalize gD n (L.take k)=m at *;generalize L[k]=oo at *;obtain⟨K,no,kk,nn,⟨mK,mF,mT,mI,mL,mk,mN⟩⟩:=oo;dsimp only at s0 s1 s2 s3 s4 s5 s6 s7 s8 s9 s10;go_upto_region 7 with fail;refine wp_at (λV hV=>?_);have hbv:aI wr V:=by rw [hV];exact ay _ _
    have HV:=Hq (show V.heap[wr.heap.size]?=some (.cells (cu K no kk nn mK mF mT mI mL mk mN) 100 (0,0)) by rw [hV];exact aGg _ _);have uw:=Hq (HK.step hbv);have agn:=Hq (HDk V W0 wb A2 G2 cc3 _ uw HE0);clear hV hbv HK HDk s0 s1 s2 s3 s4 s5 s6 s7 s8 s9 s10;obtain⟨⟨p0,p1,p2,p3,p4,p5,p6,p7,p8,p9,oU⟩,_⟩:=aL HV;go_wp2_with fail;refine agn.mono ?_;rintro e W3 ⟨rfl,A3,G3,cc4,v3,hK3⟩;have JE:=Hq hK3;obtain⟨q0,q1,q2,q3,q4,q5,q6,q7,q8,q9⟩:=jW hK3.blk;have f9:=aj hK3.blk 9;clear hK3 agn uw HV p0 p1 p2 p3 p4 p5 p6 p7 p8 p9 oU q0 q1 q2 q3 q4 q5 q6 q7 q8;go_wp2_with fail;go_roundw
    case rel=>exact⟨k+1,Aaa,Aaf,A3,G3,cc4,by have h:=JE.mute;rw [ah HPk] at h;exact h⟩
    case measure=>simp[intOf];omega
   .have hke:k=L.length:=Aaa
    subst hke;have hnlt:decide ((L.length:Int) < (L.length:Int))=false:=Aac
    rw [ah HPE] at HK;obtain⟨m,hm⟩:∃m,gD n L=m:=⟨_,rfl⟩;rw [hm] at HK;have HM:=Hq hm;clear HD HP HPE hlt hm;obtain⟨c0,c1,c2,c3,c4,c5,c6,c7,c8,c9⟩:=jW HK.blk;have hres:=au HR HK.keep;have rD:=Hq hres;have hrl:=aA hres;have hwl:=aA HK.blk;obtain⟨d0,d1,d2,d3,d4,d5,d6,d7,d8⟩:=nine hres;have f0:=aj hres 0;have f1:=aj hres 1;have f2:=aj hres 2;have f3:=aj hres 3;have f4:=aj hres 4;have f5:=aj hres 5;have f6:=aj hres 6;have f7:=aj hres 7;have f8:=aj hres 8;clear hres;go_wp2_with fail;refine aP (λW' hW'=>?_);have e9:W'.heap[w.heap.size+1]?=some (.cells (dG m A2) 40 (0,0)):=by rw [hW'];exact wC rD
    obtain⟨r0,r1,r2,r3,r4,r5,r6,r7,r8⟩:=nine e9;have ql:NO W' w.heap.size m A2 G2 cc3:=by rw [hW'];exact(HK.no.keepsN Aaa qG).base HB.size
    have hBB:aI w W':=by rw [hW'];exact uF (HB.trans (HK.keep.mono HB.size)) Aaa
    exact aGn (v:=gP m A2) Adp rfl ⟨A2,G2,cc3,Abx,by rw [ah HM];exact ql,hBB⟩
open Go.RowKit Go.MuLone
namespace Mth
def Pt (n safe keep:Int):Nat:=(min (max safe 0) n+min (max keep 0) (n - min (max safe 0) n)).toNat
def fu (k:Kp) (keep:Int):ByteArray:=k.log.extract 0 (Pt k.log.size k.safe keep)
def mD (k:Kp) (keep:Int):Kp:=⟨k.base,gD k.base (dR (fu k keep)).1,k.log.extract 0 (dR (fu k keep)).2,(dR (fu k keep)).2,[],[]⟩
end Mth
theorem KD {w w':World} {base:Nat} {e:TypeId} {sz:Nat} {v:Value} {n:Nat} {xs:List Value} (h:w.ownsRow base e sz v n xs) (hg:g < base) (hk:aC [g] w w'):w'.ownsRow base e sz v n xs:=by
 refine⟨h.1,?_⟩;rcases h.2 with h|⟨b,cap,cur,hv,a,hb,c⟩
 .exact .inl h
 .exact .inr ⟨b,cap,cur,hv,a,hk.obj hb Aag,c⟩
theorem hkB.there {w:World} {A:KA} {lk:Bool} (h:hkB w g k A st lk rt):w.there g 0 9:=λj hj=>by
 refine⟨?_,aj h _⟩;rcases uX hj with rfl|rfl|rfl|rfl|rfl|rfl|rfl|rfl|rfl<;>exact(congrArg Option.isSome (gG h _)).trans rfl
theorem Qa (s:ByteArray) (safe keep:Int) (w:World) (hs:s.size<=1048576):Calls Tryz.prog 82 #[.string s,.int .i64 safe,.int .i64 keep] w λe w'=>e= .returned (.string (s.extract 0 (Pt s.size safe keep)))/\w=w':=by
 go_in
 go_wp2_with fail;go_ret;exact⟨rfl,rfl⟩
theorem hkB.logs {w:World} {A:KA} {lk:Bool} (h:hkB w g k A st lk rt) (l:ByteArray) (s:Int):hkB ((w.setCell ⟨g,20,none⟩ (.string l)).setCell ⟨g,21,none⟩ (.int .i64 s)) g {k with log:=l,safe:=s} A st lk rt:=by
 have h1:hkB (w.setCell ⟨g,20,none⟩ (.string l)) g {k with log:=l} A st lk rt:=aT h 20 _;exact aT h1 21 _
theorem hkB.node {w:World} {A:KA} {lk:Bool} (h:hkB w g k A st lk rt) (n:Nd) (B:bV):hkB (w.setCells g 0 (dG n B).toList) g {k with node:=n} {A with n:=B} st lk rt:=by
 rw [vD];exact GR.setW_blk (o:=0) (xs:=(hkG k A st lk rt).toList) (dG n B).toList h
theorem hkB.nils {w:World} {A:KA} {lk:Bool} (h:hkB w g k A st lk rt):hkB ((w.setCell ⟨g,22,none⟩ (.slice none 0 0)).setCell ⟨g,23,none⟩ (.slice none 0 0)) g {k with wait:=[],asked:=[]} {A with wa:=none,wc:=0,aa:=none,ac:=0} st lk rt:=by
 have h1:hkB (w.setCell ⟨g,22,none⟩ (.slice none 0 0)) g {k with wait:=[]} {A with wa:=none,wc:=0} st lk rt:=aT h 22 _;exact aT h1 23 _
theorem hkB.lk {w:World} {A:KA} {lk:Bool} (h:hkB w g k A st lk rt):hkB (w.setCell ⟨g,24,none⟩ (.bool rt)) g k A st rt rt:=aT h 24 _
theorem YA (k:Kp) (A:KA) (g:Nat) (lk rt:Bool) (keep:Int) (E:Nat->Addr) (w:World) (hz:uz k 1048576) (h1:∀w',aC [g] w w'->dD w' A.b k.base/\iK w' E/\Handle w') (hg:hkB w g k A 0 lk rt):
 Calls Tryz.prog 31 #[.pointer (some ⟨g,0,none⟩),.int .i64 keep] w λe w'=>∃B G c,e= .returned (.tuple #[])/\hkB w' g (mD k keep) ⟨A.b,B,none,0,none,0⟩ 0 rt rt/\NO w' w.heap.size (mD k keep).node B G c/\aC [g] w w':=by
 have c9:w.cell? ⟨g,9,none⟩=some (.int .i32 0):=gG hg 9;have f9:=aj hg 9;have hgl:=aA hg;have Dz:=Hq (hkB.lock hg 1);have BG:=Hq (show aC [g] w (w.setCell ⟨g,9,none⟩ (.int .i32 1)) from aC.set _);have HFO:=Hq (λW=>Qa k.log k.safe keep W hz.l);have hcut:(fu k keep).size<=k.log.size:=by unfold fu;simp;omega
 have hend:=AQ (fu k keep);have Sv:=Hq (λW (h:aC [g] w W)=>acR (fu k keep) (by have:=hz.l;unfold maxLen;omega) W (h1 W h).2.2);have HRP:=Hq (λa cap W (h:aC [g] w W) (ho:EW W a (dR (fu k keep)).1)=>MO k.base A.b a cap (dR (fu k keep)).1 E W hz.b (KN _) (λo h=>Xh (QW _ o h)) (h1 W h).1 ho (h1 W h).2.1);have HCK:=Hq (show mD k keep=⟨k.base,gD k.base (dR (fu k keep)).1,k.log.extract 0 (dR (fu k keep)).2,(dR (fu k keep)).2,[],[]⟩ from rfl);have HCT:=Hq (show k.log.extract 0 (Pt k.log.size k.safe keep)=fu k keep from rfl);have hel:((dR (fu k keep)).2:Int)<=(k.log.size:Int):=Aaa
 have hll:(k.log.size:Int)<=1048576:=by have:=hz.l;omega
 unfold lM at Sv;unfold Lj at HRP;generalize mD k keep=ck at *;generalize fu k keep=ct at *;generalize dR ct=rd at *;clear h1 hz hg hcut hend;go_enter_defers Tryz.func31,Tryz.ntmps31
 go_wp2_with (go_at_call 70;refine(lock_free Xf ⟨g,9,none⟩ _ c9 f9).mono ?_;rintro e w' ⟨rfl,rfl⟩)
 clear c9 f9;generalize w.setCell ⟨g,9,none⟩ (.int .i32 1)=W1 at *;have y20:=aGj (show W1.cell? ⟨g,20,none⟩=some (.string k.log) from gG Dz 20);have y21:=aGj (show W1.cell? ⟨g,21,none⟩=some (.int .i64 k.safe) from gG Dz 21);refine Xy ?_;refine dB Aab ?_;show iq _ _ _ _ 16 (Array.replicate 16 false) _ _
 refine aV 0 rfl Aab Aab Aab (λ_ _ _ _ h=>h) (λK hK=>?_);go_simp
 first
  |(refine hK _ ?_;clear hK K)
  |(apply Exists.intro
    refine⟨λ_=>?_,hK _ ?_⟩
    (rfl)
    clear hK K)
 refine aV 1 rfl Aab Aab Aab (λ_ _ _ _ h=>h) (λK hK=>?_);go_simp
 first
  |(refine hK _ ?_;clear hK K)
  |(apply Exists.intro
    refine⟨λ_=>?_,hK _ ?_⟩
    (rfl)
    clear hK K)
 refine aV 2 rfl Aab Aab Aab (λ_ _ _ _ h=>h) (λK hK=>?_);go_simp
 first
  |(refine hK _ ?_;clear hK K)
  |(apply Exists.intro
    refine⟨λ_=>?_,hK _ ?_⟩
    (rfl)
    clear hK K)
 refine aV 3 rfl Aab Aab Aab (λ_ _ _ _ h=>h) (λK hK=>?_);go_simp
 first
  |(refine hK _ ?_;clear hK K)
  |(apply Exists.intro
    refine⟨λ_=>?_,hK _ ?_⟩
    (rfl)
    clear hK K)
 refine aV 4 rfl Aab Aab Aab (λ_ _ _ _ h=>h) (λK hK=>?_);go_simp
 first
  |(refine hK _ ?_;clear hK K)
  |(apply Exists.intro
    refine⟨λ_=>?_,hK _ ?_⟩
    (rfl)
    clear hK K)
 refine aV 5 rfl Aab Aab Aab (λ_ _ _ _ h=>h) (λK hK=>?_);go_simp
 first
  |(refine hK _ ?_;clear hK K)
  |(apply Exists.intro
    refine⟨λ_=>?_,hK _ ?_⟩
    (rfl)
    clear hK K)
 refine aV 6 rfl Aab Aab Aab (λ_ _ _ _ h=>h) (λK hK=>?_);go_simp
 first
  |(refine hK _ ?_;clear hK K)
  |(apply Exists.intro
    refine⟨λ_=>?_,hK _ ?_⟩
    (rfl)
    clear hK K)
 refine aV 7 rfl Aab Aab Aab (λ_ _ _ _ h=>h) (λK hK=>?_);go_simp
 first
  |(refine hK _ ?_;clear hK K)
  |(apply Exists.intro
    refine⟨λ_=>?_,hK _ ?_⟩
    (rfl)
    clear hK K)
 refine aV 8 rfl Aab Aab Aab (λ_ _ _ _ h=>h) (λK hK=>?_);go_simp
 first
  |(refine hK _ ?_;clear hK K)
  |(apply Exists.intro
    refine⟨λ_=>?_,hK _ ?_⟩
    (rfl)
    clear hK K)
 clear y20 y21;refine gM 9 rfl Aab Aad (λx9 hx9=>?_);go_simp;refine(HFO _).mono ?_;rintro e z9 ⟨rfl,rfl⟩;refine⟨aGs _ _,?_⟩;rw [ah HCT];have HK9:=Hq (BG.trans (aC.of_below (F:=[g]) hx9));have HG9:=Hq (show hkB x9 g k A 1 lk rt from au Dz hx9);clear hx9 Dz BG HFO HCT;refine gM 10 rfl Aab Aad (λx10 FH=>?_);go_simp;refine(Sv x10 (HK9.trans (aC.of_below FH))).mono ?_;rintro e z10 ⟨v,rfl,hown,alQ⟩;refine⟨alQ,?_⟩;obtain⟨la,lc,rfl,hops⟩:=GR.own_at (enc:=ou) (sz:=11) jF hown;have Hz:=Hq hown;have hgb:g < x10.heap.size:=aGq (aA HG9) (Below.size FH);have amE:=Hq (show aI x9 z10 from Ge.trans FH alQ);clear FH alQ hown hops Sv;refine aV 11 rfl Aab Aab Aab (λ_ _ _ _ h=>h) (λK hK=>?_);go_simp
 first
  |(refine hK _ ?_;clear hK K)
  |(apply Exists.intro
    refine⟨λ_=>?_,hK _ ?_⟩
    (rfl)
    clear hK K)
 refine aV 12 rfl Aab Aab Aab (λ_ _ _ _ h=>h) (λK hK=>?_);go_simp
 first
  |(refine hK _ ?_;clear hK K)
  |(apply Exists.intro
    refine⟨λ_=>?_,hK _ ?_⟩
    (rfl)
    clear hK K)
 refine aV 13 rfl Aab Aab Aab (λ_ _ _ _ h=>h) (λK hK=>?_);go_simp
 first
  |(refine hK _ ?_;clear hK K)
  |(apply Exists.intro
    refine⟨λ_=>?_,hK _ ?_⟩
    (rfl)
    clear hK K)
 refine gM 14 rfl Aab Aad (λx14 alN=>?_);go_simp;refine⟨aGs _ _,?_⟩;refine gM 15 rfl Aab Aad (λx15 alO=>?_);go_simp;refine⟨aGs _ _,?_⟩;refine fF Aab (λz hz=>?_);have hbz:=Ge.trans (show Ge x9 z10 from amE) (Ge.trans alN (Ge.trans alO hz));have HOZ:=Hq (KD Hz hgb (aC.of_below (F:=[g]) (Ge.trans alN (Ge.trans alO hz))));have HGZ:=Hq (show hkB z g k A 1 lk rt from au HG9 hbz);have HKZ:=Hq (HK9.trans (aC.of_below (F:=[g]) hbz));clear hz alN alO hbz amE HG9 HK9 Hz;unfold abH;dsimp only;rename_i uO
 refine uO _ _ ?_;clear uO;have c20:z.cell? ⟨g,20,none⟩=some (.string k.log):=gG HGZ 20;have f20:=aj HGZ 20;have c21:z.cell? ⟨g,21,none⟩=some (.int .i64 k.safe):=gG HGZ 21;have f21:=aj HGZ 21;go_upto_region 4 with fail;refine wp_at (λW4 hW4=>?_);have HG4:=Hq (show hkB W4 g {k with log:=k.log.extract 0 rd.2,safe:=rd.2} A 1 lk rt from by rw [hW4];exact hkB.logs HGZ _ _);have XA:=Hq (show aC [g] w W4 from by rw [hW4];exact HKZ.trans ((aC.set _).trans (aC.set _)));have SL:=Hq (show EW W4 la rd.1 from by rw [hW4];exact GR.own_ati jF (KD HOZ hgb ((aC.set _).trans (aC.set _))));clear hW4 HGZ HKZ HOZ c20 c21 f20 f21;obtain⟨hr0,hr1⟩:=Ke HG4;have VW:=Hq (show w.heap.size<=W4.heap.size from XA.size);refine aHf ?_;show wpList _ _ _ [_,_,_,_,_,_,_,_,_,_] _ _
 refine aGP Aad (λK hK=>?_);go_simp;refine hK _ _ ?_;clear hK K;refine aGP Aad (λK hK=>?_);go_simp;refine hK _ _ ?_;clear hK K;refine aGP Aad (λK hK=>?_);go_simp;refine hK _ _ ?_;clear hK K;refine aGP Aad (λK hK=>?_);go_simp;refine hK _ _ ?_;clear hK K;refine aHV rfl 40 (.tmp 43) rfl g 11 rfl (dG k.base A.b).toList _ hr1 Tryz.underlying40 rfl Aab ?_;clear hr0 hr1;go_wp2_with fail;refine(HRP la lc W4 XA SL).mono ?_;rintro e x4 ⟨B,G,c',rfl,hN,hb⟩;have hgw:g < W4.heap.size:=aA HG4;have HK5:=Hq (XA.trans (aC.of_below (F:=[g]) hb));have vJ:=Hq (show hkB x4 g _ A 1 lk rt from au HG4 hb);have HN5:=Hq hN;clear hb hN HG4 XA SL HRP;rename_i uO
 refine uO _ _ ?_;clear uO;refine aGP Aad (λK hK=>?_);go_simp;refine hK _ _ ?_;clear hK K;refine aGP Aad (λK hK=>?_);go_simp;refine hK _ _ ?_;clear hK K;refine aIl rfl 40 (.tmp 48) (.tmp 46) rfl g 0 (dG (gD k.base rd.1) B) rfl rfl vJ.there Aab Aab ?_;go_upto_region 5 with fail;refine wp_at (λW6 PN=>?_);have Z5:=Hq (show hkB W6 g ⟨k.base,gD k.base rd.1,k.log.extract 0 rd.2,rd.2,k.wait,k.asked⟩ ⟨A.b,B,A.wa,A.wc,A.aa,A.ac⟩ 1 lk rt from by rw [PN];exact hkB.node vJ (gD k.base rd.1) B);have VN:=Hq (show aC [g] w W6 from by rw [PN];exact HK5.trans (eP _ _ _ _));have HN6:=Hq (show NO W6 W4.heap.size (gD k.base rd.1) B G c' from by rw [PN];exact HN5.keepsN hgw (eP _ _ _ _));clear PN vJ HK5 HN5;have c22:W6.cell? ⟨g,22,none⟩=some (.slice A.wa k.wait.length A.wc):=gG Z5 22;have f22:=aj Z5 22;have c23:W6.cell? ⟨g,23,none⟩=some (.slice A.aa k.asked.length A.ac):=gG Z5 23;have f23:=aj Z5 23;go_upto_region 6 with fail;refine wp_at (λW7 Mj=>?_);have HG7:=Hq (show hkB W7 g ⟨k.base,gD k.base rd.1,k.log.extract 0 rd.2,rd.2,[],[]⟩ ⟨A.b,B,none,0,none,0⟩ 1 lk rt from by rw [Mj];exact hkB.nils Z5);have HK7:=Hq (show aC [g] w W7 from by rw [Mj];exact VN.trans ((aC.set _).trans (aC.set _)));have HN7:=Hq (show NO W7 W4.heap.size (gD k.base rd.1) B G c' from by rw [Mj];exact HN6.keepsN hgw ((aC.set _).trans (aC.set _)));clear Mj Z5 VN HN6 c22 f22 c23 f23;have c24:W7.cell? ⟨g,24,none⟩=some (.bool lk):=gG HG7 24;have f24:=aj HG7 24;have c25:W7.cell? ⟨g,25,none⟩=some (.bool rt):=gG HG7 25;go_wp2_with fail;refine leaves_cons (f:=71) (args:=#[.pointer (some ⟨g,9,none⟩)]) Aac (by simp[go_sem]) ?_;have HG8:=Hq (hkB.lk HG7);have HN8:=Hq (HN7.keepsN hgw (aC.set (g:=g) (i:=24) (.bool rt)));refine(unlock_deferred Xf ⟨g,9,none⟩ .returning _ (gG HG8 9) (aj HG8 9)).mono ?_;rintro e u' w'' ⟨rfl,rfl,rfl⟩;have hs4:w.heap.size<=W4.heap.size:=(ah VW);rw [ah HCK];exact⟨_,results_none rfl _ _ _,B,G,c',rfl,HG8.lock 0,(HN8.keepsN hgw (aC.set (g:=g) (i:=9) (.int .i32 0))).base hs4,(HK7.trans (aC.set _)).trans (aC.set _)⟩
theorem abN (hz:uz k 1048576) (keep:Int):uz (mD k keep) 1048576:=by
 refine⟨hz.b,Nk hz.b _,?_,aGB _,aGB _,λ_ hp=>(by cases hp),λ_ hp=>(by cases hp)⟩;have:=hz.l;show(k.log.extract 0 _).size<=_
 simp;omega
theorem Tn.at0 {lo hi:Nat} {w:World} {A1 A2:bV} {b n:Nd} {lg:ByteArray} {sf:Int} {G1 G2:aR} {L:List Nat} (h:Tn lo hi w ⟨A1,A2,none,0,none,0⟩ ⟨b,n,lg,sf,[],[]⟩ G1 G2 L):nu w ⟨A1,A2,none,0,none,0⟩ ⟨b,n,lg,sf,[],[]⟩:=
 ⟨h.b.at,h.n.at,GR.at_nil _ _,GR.at_nil _ _⟩
def SE (w:World) (c:Kp) (e:Ending) (w':World):Prop:=∃A1 A2 G1 G2,e= .returned (SA c ⟨A1,A2,none,0,none,0⟩)/\Tn w.heap.size w'.heap.size w' ⟨A1,A2,none,0,none,0⟩ c G1 G2 []/\aI w w'
theorem D9 (k:Kp) (A:KA) (keep:Int) (E:Nat->Addr) (w:World) (hz:uz k 1048576) (ha:nu w A k) (he:iK w E) (hH:Handle w):
 Calls Tryz.prog 11 #[SA k A,.int .i64 keep] w (SE w (mD k keep)):=by
 obtain⟨V,hV⟩:∃V,EU V k A:=⟨_,rfl⟩;have HHD:=Hq (λW (h:aI w W)=>hV.agg▸acM k A W hz (ha.below h));have HV:=Hq hV.len;rw [hV.agg];have HE:=Hq (λW (h:aI w W)=>And.intro (he.below h) (hH.below h));have HZ:=Hq hz;obtain⟨hP0,hR0,hB0⟩:=gQ w (.cells V.toArray 44) (.cells zkA 44);clear hz ha he hH hV;go_in
 go_upto_region 1 with fail;refine wp_at (λW0 hW=>?_);have Hy:=Hq (show KR W0 w.heap.size V from by rw [hW];exact KR.blk hP0);have XH:=Hq (show W0.heap[w.heap.size+1]?=some (.cells zkA 44 (0,0)) from by rw [hW];exact hR0);have qg:=Hq (show aI w W0 from by rw [hW];exact hB0);clear hW hP0 hR0 hB0;refine aHf ?_;show wpList _ _ _ [_,_,_] _ _
 refine sZ Aad (.tmp 2) rfl w.heap.size rfl V HV Hy ?_;go_wp2_with fail;refine(HHD _ qg).mono ?_;rintro e w1 ⟨A',m1,m2,m3,g,rfl,hg,hk,hb⟩;obtain⟨l1,l2,l3,l4,l5⟩:=hk.le;have hl0:=aA XH;have hlg:w.heap.size<=g:=Aaa
 have hgr:w.heap.size+1 < g:=Aaa
 have HB:=Hq (qg.trans (hb.mono qg.size));have HR1:=Hq (au XH hb);obtain⟨⟨_,_,_,_⟩,⟨G1,n1,d1,r1⟩,_,_,_⟩:=hk;have vZ:=Hq n1;have HD1:=Hq d1;have HRG:=Hq (show∀x∈G1.all k.base,w.heap.size+1 < x/\x < g from λx hx=>by have:=r1 x hx;omega);have HG:=Hq hg;clear hb hg n1 d1 r1 l1 l2 l3 l4 l5 hl0 HHD qg Hy HV XH;go_wp2_with fail;refine(YA k A' g false false keep E w1 HZ (λw' hk'=>⟨(vZ.keeps hk' (λx hx hm=>by have:=ah HRG x hx;have:=aGA.1 hm;omega)).at,HE w' (uD HB hk' hlg HB.size)⟩) HG).mono ?_;rintro e w2 ⟨B,G,c,rfl,hg2,Iw,hk2⟩;have HB2:=Hq (uD HB hk2 hlg HB.size);have Bq:=Hq Iw;have HG2:=Hq hg2;have HB1:=Hq (vZ.keeps hk2 (λx hx hm=>by have:=ah HRG x hx;have:=aGA.1 hm;omega));have HR2:=Hq (hk2.obj HR1 (λhm=>by have:=aGA.1 hm;omega));have hgl:=aA HG;clear Iw hg2 hk2 HB HG HE HZ vZ HR1;generalize w1.heap.size=s1 at *;have su:=Hq (show(mD k keep).base=k.base from rfl);have HCW:=Hq (show(mD k keep).wait=[]/\(mD k keep).asked=[] from⟨rfl,rfl⟩);generalize mD k keep=ck at *;go_upto_region 3 with fail;refine aHf ?_;show wpList _ _ _ [_,_,_] _ _
 go_wp2_with fail;refine(Qd ck ⟨A'.b,B,none,0,none,0⟩ g false false w2 HG2).mono ?_;rintro e w3 ⟨rfl,hk3⟩;have HB3:=Hq (uD HB2 hk3 hlg HB2.size);have HN3:=Hq (Bq.keepsN hgl hk3);have amF:=Hq (HB1.keeps hk3 (λx hx hm=>by have:=ah HRG x hx;have:=aGA.1 hm;omega));have HR3:=Hq (hk3.obj HR2 (λhm=>by have:=aGA.1 hm;omega));have hg3:g < w3.heap.size:=aGq (aA HG2) hk3.size;clear hk3 HB2 Bq HG2 HB1 HR2;obtain⟨VC,hVC⟩:∃V,EU V ck ⟨A'.b,B,none,0,none,0⟩:=⟨_,rfl⟩;rw [show(zy ck ⟨A'.b,B,none,0,none,0⟩).toArray=VC.toArray from by rw [show VC=_ from hVC]];have HVC:=Hq hVC;clear hVC;rename_i uO
 refine uO _ _ ?_;clear uO;refine Cq Aad (.tmp 4) (.tmp 12) rfl (w.heap.size+1) rfl VC rfl HVC.len HVC.one Aad HR3 (λW5 hW5 WL=>?_);have hk:aC [w.heap.size+1] w3 W5:=by rw [hW5];exact eP _ _ _ _
 have hb:aI w W5:=by rw [hW5];exact gB Aaa _ _ _ _ HB3
 obtain⟨G2,q2,S2,_⟩:=(HN3.keepsN (g:=w.heap.size+1) Aaa hk).full;have q1:=amF.keeps hk (λx hx hm=>by have:=ah HRG x hx;have:=aGA.1 hm;omega);rw [<-ah su] at q1;have hd1:=ah HD1;rw [<-ah su] at hd1;have hrg:=ah HRG;rw [<-ah su] at hrg;have hgW:g < W5.heap.size:=aGq hg3 hk.size
 have HP:=Hq (show SE w ck (Ending.returned (Value.agg VC.toArray)) W5 from⟨A'.b,B,G1,G2,by rw [<-(ah HVC).agg],⟨q1,q2,hd1,S2.nodup,λx h1 h2=>by have:=hrg x h1;have:=S2.rng x h2;omega,by rw [(ah HCW).1];exact Wr.nil,by rw [(ah HCW).2];exact Wr.nil,λx hx=>Abg,λx hx=>by
  rcases aGE.1 hx with hx|hx
  .have:=hrg x hx;omega
  .simp at hx;have:=S2.rng x hx;omega⟩,hb⟩)
 clear hW5 hk hb q1 q2 S2 hd1 hrg hgW hg3 HCW HB3 HN3 amF HR3 su HRG HD1;go_wp2_with fail;exact aGn (v:= .agg VC.toArray) (nW rfl _ _ (w.heap.size+1) VC _ rfl WL.r Tryz.underlying44 rfl (by rw [(ah HVC).len];kernel_rfl)) rfl HP
end Go.Proofs.YtohmklmkjmlpjaaGreatDoor
