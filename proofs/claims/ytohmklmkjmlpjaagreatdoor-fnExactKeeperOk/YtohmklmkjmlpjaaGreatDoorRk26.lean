/- Parts. -/
import Derived.Test.YtohmklmkjmlpjaaGreatDoorRk21
import Derived.Test.YtohmklmkjmlpjaaGreatDoorRk24
namespace Go.Proofs.YtohmklmkjmlpjaaGreatDoor
open Go.Proofs.Tryz
set_option maxHeartbeats 40000000
set_option maxRecDepth 100000
open Go.RowKit
open Mth
theorem kX.of_yes {w w':World} {p:Prop} {e:Ending} (h:kX w p e w') (hp:p):e= .returned (.bool true)/\aI w w':=by
 obtain⟨⟨r,rfl,hr⟩,hb⟩:=h;rw [hr.2 hp];exact⟨rfl,hb⟩
theorem kX.of_no {w w':World} {p:Prop} {e:Ending} (h:kX w p e w') (hp:¬p):e= .returned (.bool false)/\aI w w':=by
 obtain⟨⟨r,rfl,hr⟩,hb⟩:=h;cases r
 .exact⟨rfl,hb⟩
 .exact absurd (hr.1 rfl) hp
theorem ME (a b:Option Addr) (ca cb:Nat) (l m:List Int) (w:World) (hl:l.length<=1048600) (ha:bX w a l) (hb:bX w b m):
 Calls prog 57 #[.slice a l.length ca,.slice b m.length cb] w (kX w (l=m)):=by
 by_cases hn:l.length=m.length
 case' neg=>
  have hd:((l.length:Int) != (m.length:Int))=true:=Aag
  have HP:=Hq (show¬l=m from λh=>hn (congrArg List.length h));clear hn ha hb;go_in
  go_wp2_with fail;go_ret;exact .no HP (Below.refl _ _)
 have HN:=Hq hn;have HA:=Hq ha;have HB:=Hq hb;rw [<-hn];clear ha hb hn;go_in
 go_wp2_with fail;go_loopw [5] (λi wr=>∃k:Nat,k<=l.length/\i= .int .i64 k/\aI w wr/\Hid (l.take k=m.take k)) (λi _=>l.length - (intOf i).toNat)
 case atStart=>exact⟨0,Nat.zero_le _,rfl,Below.refl _ _,rfl⟩
 case round=>
  obtain⟨k,hk,rfl,hbel,HT⟩:=hrel;have cK:=Hq hbel;clear hbel;by_cases hlt:k < l.length
  .have hk2:k < m.length:=(ah HN)▸hlt;have HE:=Hq (λe=>mU HN hlt HT e);have HD:=Hq (λe=>JD hlt hk2 e);obtain⟨g1,o1,rfl,hg1,s0⟩:=bX.one (GR.At.below HA cK) k hlt;obtain⟨g2,o2,rfl,hg2,t0⟩:=bX.one (GR.At.below HB cK) k hk2;generalize l[k]=x at *;generalize m[k]=y at *;clear hk2;by_cases hxy:x=y
   case' neg=>
    have hq:(x != y)=true:=by simpa using hxy
    have HP:=Hq (HD hxy);clear HD HE hxy;go_upto_region 6 with fail;go_quiet (fail);go_wp2_with fail;go_ret;exact .no HP (fD _ cK)
   subst hxy;have HT2:=Hq (HE rfl);clear HE HD;go_upto_region 6 with fail;go_quiet (fail);go_wp2_with fail;go_roundw
   case rel=>exact⟨k+1,Aaa,Aah,fD _ cK,HT2⟩
   case measure=>simp[intOf];omega
  .have hke:k=l.length:=Aaa
   subst hke;have hnlt:decide ((l.length:Int) < (l.length:Int))=false:=Aac
   have HP:=Hq (take_same HN HT);go_wp2_with fail;go_ret;exact .yes HP cK
theorem IE (n m:Nd) (A B:bQ) (w:World) (hz:eU n 1048576) (ha:dw w A n) (hb:dw w B m):
 Calls prog 20 #[gB n A,gB m B] w (kX w (n=m)):=by
 obtain⟨hA,hB,hbw⟩:=aaL w (.cells (dG n A) 40) (.cells (dG m B) 40);generalize hW:(w.alloc (.cells (dG n A) 40)).alloc (.cells (dG m B) 40)=W at *;have HA:=Hq hA;have HB:=Hq hB;have iR:=Hq hbw;have M8:=Hq (ha.below hbw);have Rp:=Hq (hb.below hbw);have HSI:=Hq (λa b ca cb (l l2:List Int) (w:World) (hl:l.length<=1048576) ha hb=>ME a b ca cb l l2 w Aaa ha hb);have HZ:=Hq hz;have hzp:=hz.p;have hzo:=hz.o;have hzs:=hz.s;have hzr:=hz.r;clear hA hB hbw ha hb hz;obtain⟨id,par,kids,next,pu,out,seen,old,reqs⟩:=n;obtain⟨id2,LV,ER,zP,pu2,Bw,qO,LD,rW⟩:=m;obtain⟨ak,ap,ao,as',ar,ck,cp,co,cs,cr⟩:=A;obtain⟨bk,bp,bo,bs,br,dk,dp,do',ds,dr⟩:=B;dsimp only at hzp hzo hzs hzr;have HD:=Hq (λh:(⟨id,par,kids,next,pu,out,seen,old,reqs⟩:Nd)=⟨id2,LV,ER,zP,pu2,Bw,qO,LD,rW⟩=>show id=id2/\par=LV/\kids=ER/\next=zP/\pu=pu2/\out=Bw/\seen=qO/\old=LD/\reqs=rW by simpa using h);have HJ:=Hq (fun(h0:id=id2) (h1:par=LV) (h2:kids=ER) (h3:next=zP) (h4:pu=pu2) (h5:out=Bw) (h6:seen=qO) (h7:old=LD) (h8:reqs=rW)=>show(⟨id,par,kids,next,pu,out,seen,old,reqs⟩:Nd)=⟨id2,LV,ER,zP,pu2,Bw,qO,LD,rW⟩ by rw [h0,h1,h2,h3,h4,h5,h6,h7,h8]);generalize ((⟨id,par,kids,next,pu,out,seen,old,reqs⟩:Nd)=⟨id2,LV,ER,zP,pu2,Bw,qO,LD,rW⟩)=PR at *;have HA:Hid (W.heap[w.heap.size]?=some (.cells (iD id par ak kids.length ck next ap pu.length cp ao out.length co as' seen.length cs old ar reqs.length cr) 40 (0,0))):=HA;have HB:Hid (W.heap[w.heap.size+1]?=some (.cells (iD id2 LV bk ER.length dk zP bp pu2.length dp bo Bw.length do' bs qO.length ds LD br rW.length dr) 40 (0,0))):=HB;obtain⟨c0,c1,c2,c3,c4,c5,c6,c7,c8⟩:=nine HA;obtain⟨e0,e1,e2,e3,e4,e5,e6,e7,e8⟩:=nine HB;by_cases hx:id=id2
 case' neg=>
  have hq:(id != id2)=true:=Aaf
  have HN:=Hq (show¬PR from λh=>hx (by have h:=ah HD h;exact h.1))
  clear hx HD HJ
  as_aux_lemma=>
   go_in
   go_upto_region 1 with fail
   clear hW
   go_wp2_with fail
   go_ret
   exact .no HN iR
 have azV:=Hq hx;have qid:(id != id2)=false:=Aaj
 clear hx;by_cases hx:par=LV
 case' neg=>
  have hq:(par != LV)=true:=Aaf
  have HN:=Hq (show¬PR from λh=>hx (by have h:=ah HD h;exact h.2.1))
  clear hx HD HJ
  as_aux_lemma=>
   go_in
   go_upto_region 1 with fail
   clear hW
   go_wp2_with fail
   go_ret
   exact .no HN iR
 have ajq:=Hq hx;have azh:(par != LV)=false:=Aaj
 clear hx;go_in
 go_upto_region 1 with fail;clear hW;go_wp2_with fail;refine(HSI ak bk ck dk kids ER W HZ.k M8.k Rp.k).mono ?_;rintro e w1 ⟨⟨r,rfl,hr⟩,hb1⟩;have HB1:=Hq hb1;have HA1:=Hq (au HA hb1);have Rk:=Hq (au HB hb1);have Rl:=Hq (iR.trans (hb1.mono iR.size));clear hb1 c0 c1 c2 c3 c4 c5 c6 c7 c8 e0 e1 e2 e3 e4 e5 e6 e7 e8 HA HB iR;cases r
 case' false=>
  have HN:=Hq (show¬PR from λh=>by have h:=ah HD h;have h2:=hr.2 h.2.2.1;cases h2)
  clear hr HD HJ
  as_aux_lemma=>
   go_wp2_with fail
   go_ret
   exact .no HN Rl
 have ZA:=Hq (hr.1 rfl);clear hr;obtain⟨c0,c1,c2,c3,c4,c5,c6,c7,c8⟩:=nine HA1;obtain⟨e0,e1,e2,e3,e4,e5,e6,e7,e8⟩:=nine Rk;by_cases hx:next=zP
 case' neg=>
  have hq:(next != zP)=true:=Aaf
  have HN:=Hq (show¬PR from λh=>hx (by have h:=ah HD h;exact h.2.2.2.1))
  clear hx HD HJ
  as_aux_lemma=>
   go_wp2_with fail
   go_ret
   exact .no HN Rl
 have ZC:=Hq hx;have aiW:(next != zP)=false:=Aaj
 clear hx;by_cases hx:old=LD
 case' neg=>
  have hq:(old != LD)=true:=Aaf
  have HN:=Hq (show¬PR from λh=>hx (by have h:=ah HD h;exact h.2.2.2.2.2.2.2.1))
  clear hx HD HJ
  as_aux_lemma=>
   go_wp2_with fail
   go_ret
   exact .no HN Rl
 have Hold:=Hq hx;have azg:(old != LD)=false:=Aaj
 clear hx;by_cases hx:pu.length=pu2.length
 case' neg=>
  have hq:((pu.length:Int) != (pu2.length:Int))=true:=Aag
  have HN:=Hq (show¬PR from λh=>hx (by have h:=ah HD h;exact congrArg List.length h.2.2.2.2.1))
  clear hx HD HJ
  as_aux_lemma=>
   go_wp2_with fail
   go_ret
   exact .no HN Rl
 have Lpu:=Hq hx;have qpu:((pu.length:Int) != (pu2.length:Int))=false:=Aaj
 clear hx;by_cases hx:out.length=Bw.length
 case' neg=>
  have hq:((out.length:Int) != (Bw.length:Int))=true:=Aag
  have HN:=Hq (show¬PR from λh=>hx (by have h:=ah HD h;exact congrArg List.length h.2.2.2.2.2.1))
  clear hx HD HJ
  as_aux_lemma=>
   go_wp2_with fail
   go_ret
   exact .no HN Rl
 have ajr:=Hq hx;have aCF:((out.length:Int) != (Bw.length:Int))=false:=Aaj
 clear hx;by_cases hx:seen.length=qO.length
 case' neg=>
  have hq:((seen.length:Int) != (qO.length:Int))=true:=Aag
  have HN:=Hq (show¬PR from λh=>hx (by have h:=ah HD h;exact congrArg List.length h.2.2.2.2.2.2.1))
  clear hx HD HJ
  as_aux_lemma=>
   go_wp2_with fail
   go_ret
   exact .no HN Rl
 have ZF:=Hq hx;have azj:((seen.length:Int) != (qO.length:Int))=false:=Aaj
 clear hx;by_cases hx:reqs.length=rW.length
 case' neg=>
  have hq:((reqs.length:Int) != (rW.length:Int))=true:=Aag
  have HN:=Hq (show¬PR from λh=>hx (by have h:=ah HD h;exact congrArg List.length h.2.2.2.2.2.2.2.2))
  clear hx HD HJ
  as_aux_lemma=>
   go_wp2_with fail
   go_ret
   exact .no HN Rl
 have ZE:=Hq hx;have azi:((reqs.length:Int) != (rW.length:Int))=false:=Aaj
 clear hx;go_wp2_with fail;clear qid azh aiW azg qpu aCF azj azi c0 c1 c2 c3 c4 c5 c6 c7 c8 e0 e1 e2 e3 e4 e5 e6 e7 e8;have NI:=Hq (Below.refl w1.heap.size w1);go_loopw [5] (λi wr=>∃k:Nat,k<=pu.length/\i= .int .i64 k/\aI w1 wr/\Hid (pu.take k=pu2.take k)) (λi _=>pu.length - (intOf i).toNat)
 case atStart=>exact⟨0,Nat.zero_le _,rfl,NI,rfl⟩
 case round=>
  obtain⟨k,hk,rfl,hbel,HT⟩:=hrel;have cK:=Hq hbel;clear hbel NI;obtain⟨c0,c1,c2,c3,c4,c5,c6,c7,c8⟩:=nine (au HA1 cK);obtain⟨e0,e1,e2,e3,e4,e5,e6,e7,e8⟩:=nine (au Rk cK);have eT:=Hq (HB1.trans (cK.mono HB1.size));have yJ:=Hq (Rl.trans (cK.mono Rl.size));by_cases hlt:k < pu.length
  .have hk2:k < pu2.length:=(ah Lpu)▸hlt;have HE:=Hq (λe=>mU Lpu hlt HT e);have HN:=Hq (show pu[k]≠pu2[k]->¬PR from λe h=>JD hlt hk2 e (by have h:=ah HD h;exact h.2.2.2.2.1));obtain⟨g1,o1,rfl,hg1,s0,s1,s2,s3⟩:=aG.four (GR.At.below M8.p eT) k hlt;obtain⟨g2,o2,rfl,hg2,t0,t1,t2,t3⟩:=aG.four (GR.At.below Rp.p eT) k hk2;generalize pu[k]=x at *;generalize pu2[k]=y at *;obtain⟨x0,x1,x2,x3⟩:=x;obtain⟨y0,y1,y2,y3⟩:=y;dsimp only at s0 s1 s2 s3 t0 t1 t2 t3;by_cases hx:x0=y0
   case' neg=>
    have hq:(x0.toList == y0.toList)=false:=BP hx
    have hr:¬x0.toList=y0.toList:=Abk
    have HP:=Hq (HN Aaj)
    clear HN HE HD HJ hx
    as_aux_lemma=>
     go_upto_region 6 with fail
     go_quiet (fail)
     go_wp2_with fail
     go_ret
     exact .no HP (fD _ yJ)
   subst hx;by_cases hx:x1=y1
   case' neg=>
    have hq:(x1 == y1)=false:=Aaf
    have HP:=Hq (HN Aaj)
    clear HN HE HD HJ
    as_aux_lemma=>
     go_upto_region 6 with fail
     go_quiet (fail)
     go_wp2_with fail
     go_ret
     exact .no HP (fD _ yJ)
   subst hx;by_cases hx:x2=y2
   case' neg=>
    have hq:(x2 == y2)=false:=Aaf
    have HP:=Hq (HN Aaj)
    clear HN HE HD HJ
    as_aux_lemma=>
     go_upto_region 6 with fail
     go_quiet (fail)
     go_wp2_with fail
     go_ret
     exact .no HP (fD _ yJ)
   subst hx;by_cases hx:x3=y3
   case' neg=>
    have hq:(x3 == y3)=false:=Aaf
    have HP:=Hq (HN Aaj)
    clear HN HE HD HJ
    as_aux_lemma=>
     go_upto_region 6 with fail
     go_quiet (fail)
     go_wp2_with fail
     go_ret
     exact .no HP (fD _ yJ)
   subst hx;have HT2:=Hq (HE rfl);clear HE HN eT yJ;go_upto_region 6 with fail;go_quiet (fail);go_wp2_with fail;go_roundw
   case rel=>exact⟨k+1,Aaa,Aah,fD _ cK,HT2⟩
   case measure=>simp[intOf];omega
  .have hke:k=pu.length:=Aaa
   subst hke;have hnlt:decide ((pu.length:Int) < (pu.length:Int))=false:=Aac
   have Epu:=Hq (take_same Lpu HT);have D9:=cK;clear cK HT eT yJ;go_wp2_with fail;clear c0 c1 c2 c3 c4 c5 c6 c7 c8 e0 e1 e2 e3 e4 e5 e6 e7 e8;go_loopw [6] (λi wr=>∃k:Nat,k<=out.length/\i= .int .i64 k/\aI w1 wr/\Hid (out.take k=Bw.take k)) (λi _=>out.length - (intOf i).toNat)
   case atStart=>exact⟨0,Nat.zero_le _,rfl,D9,rfl⟩
   case round=>
    obtain⟨k,hk,rfl,hbel,HT⟩:=hrel;have cK:=Hq hbel;clear hbel D9;obtain⟨c0,c1,c2,c3,c4,c5,c6,c7,c8⟩:=nine (au HA1 cK);obtain⟨e0,e1,e2,e3,e4,e5,e6,e7,e8⟩:=nine (au Rk cK);have eT:=Hq (HB1.trans (cK.mono HB1.size));have yJ:=Hq (Rl.trans (cK.mono Rl.size));by_cases hlt:k < out.length
    .have hk2:k < Bw.length:=(ah ajr)▸hlt;have HE:=Hq (λe=>mU ajr hlt HT e);have HN:=Hq (show out[k]≠Bw[k]->¬PR from λe h=>JD hlt hk2 e (by have h:=ah HD h;exact h.2.2.2.2.2.1));obtain⟨g1,o1,rfl,hg1,s0,s1,s2,s3⟩:=SentAt.four (GR.At.below M8.o eT) k hlt;obtain⟨g2,o2,rfl,hg2,t0,t1,t2,t3⟩:=SentAt.four (GR.At.below Rp.o eT) k hk2;generalize out[k]=x at *;generalize Bw[k]=y at *;obtain⟨x0,x1,x2,x3⟩:=x;obtain⟨y0,y1,y2,y3⟩:=y;dsimp only at s0 s1 s2 s3 t0 t1 t2 t3;by_cases hx:x0=y0
     case' neg=>
      have hq:(x0 == y0)=false:=Aaf
      have HP:=Hq (HN Aaj)
      clear HN HE HD HJ
      as_aux_lemma=>
       go_upto_region 11 with fail
       go_quiet (fail)
       go_wp2_with fail
       go_ret
       exact .no HP (fD _ yJ)
     subst hx;by_cases hx:x1=y1
     case' neg=>
      have hq:(x1 == y1)=false:=Aaf
      have HP:=Hq (HN Aaj)
      clear HN HE HD HJ
      as_aux_lemma=>
       go_upto_region 11 with fail
       go_quiet (fail)
       go_wp2_with fail
       go_ret
       exact .no HP (fD _ yJ)
     subst hx;by_cases hx:x2=y2
     case' neg=>
      have hq:(x2.toList == y2.toList)=false:=BP hx
      have hr:¬x2.toList=y2.toList:=Abk
      have HP:=Hq (HN Aaj)
      clear HN HE HD HJ hx
      as_aux_lemma=>
       go_upto_region 11 with fail
       go_quiet (fail)
       go_wp2_with fail
       go_ret
       exact .no HP (fD _ yJ)
     subst hx;by_cases hx:x3=y3
     case' neg=>
      have hq:(x3 == y3)=false:=Aaf
      have HP:=Hq (HN Aaj)
      clear HN HE HD HJ
      as_aux_lemma=>
       go_upto_region 11 with fail
       go_quiet (fail)
       go_wp2_with fail
       go_ret
       exact .no HP (fD _ yJ)
     subst hx;have HT2:=Hq (HE rfl);clear HE HN eT yJ;go_upto_region 11 with fail;go_quiet (fail);go_wp2_with fail;go_roundw
     case rel=>exact⟨k+1,Aaa,Aah,fD _ cK,HT2⟩
     case measure=>simp[intOf];omega
    .have hke:k=out.length:=Aaa
     subst hke;have hnlt:decide ((out.length:Int) < (out.length:Int))=false:=Aac
     have azt:=Hq (take_same ajr HT);have HS2:=cK;clear cK HT eT yJ;go_wp2_with fail;clear c0 c1 c2 c3 c4 c5 c6 c7 c8 e0 e1 e2 e3 e4 e5 e6 e7 e8;go_loopw [7] (λi wr=>∃k:Nat,k<=seen.length/\i= .int .i64 k/\aI w1 wr/\Hid (seen.take k=qO.take k)) (λi _=>seen.length - (intOf i).toNat)
     case atStart=>exact⟨0,Nat.zero_le _,rfl,HS2,rfl⟩
     case round=>
      obtain⟨k,hk,rfl,hbel,HT⟩:=hrel;have cK:=Hq hbel;clear hbel HS2;obtain⟨c0,c1,c2,c3,c4,c5,c6,c7,c8⟩:=nine (au HA1 cK);obtain⟨e0,e1,e2,e3,e4,e5,e6,e7,e8⟩:=nine (au Rk cK);have eT:=Hq (HB1.trans (cK.mono HB1.size));have yJ:=Hq (Rl.trans (cK.mono Rl.size));by_cases hlt:k < seen.length
      .have hk2:k < qO.length:=(ah ZF)▸hlt;have HE:=Hq (λe=>mU ZF hlt HT e);have HN:=Hq (show seen[k]≠qO[k]->¬PR from λe h=>JD hlt hk2 e (by have h:=ah HD h;exact h.2.2.2.2.2.2.1));obtain⟨g1,o1,b1,d1,rfl,hg1,s0,s1,s2,s3⟩:=M8.s.below eT k hlt;obtain⟨g2,o2,b2,d2,rfl,hg2,t0,t1,t2,t3⟩:=Rp.s.below eT k hk2;have hln:=HZ.sk seen[k] (List.getElem_mem hlt);have HPC:=Hq (λd os=>HSI b1 b2 d1 d2 seen[k].ids qO[k].ids (Sort.grow (redrawn wr d) os) hln (GR.At.below s3 (below_regrown wr d os)) (GR.At.below t3 (below_regrown wr d os)));clear s3 t3 hln;generalize seen[k]=x at *;generalize qO[k]=y at *;obtain⟨xf,xl,xs⟩:=x;obtain⟨yf,yl,ys⟩:=y;dsimp only at s0 s1 s2 t0 t1 t2;have y0:=cell_regrown c6;have y1:=cell_regrown e6;have y2:=cell_regrown s0;have y3:=cell_regrown s1;have y4:=cell_regrown s2;have y5:=cell_regrown t0;have y6:=cell_regrown t1;have y7:=cell_regrown t2;by_cases hx:xf=yf
       case' neg=>
        have hq:(xf != yf)=true:=Aaf
        have HP:=Hq (HN Aaj)
        clear HN HE HD HJ HPC
        as_aux_lemma=>
         go_upto_region 16 with fail
         refine wp_region_quiet_below Aab Aab ?_
         repeat (first|go_big_quiet_step (first|fail)|quiet_step (first|fail))
         refine wpQuiet_nil ?_
         intro _ hw'
         obtain⟨⟨dq,osq⟩,hw''⟩:=hw'
         subst hw''
         go_wp2_with fail
         go_ret
         exact .no HP (yJ.trans ((below_regrown wr dq osq).mono yJ.size))
       subst hx;by_cases hx:xl=yl
       case' neg=>
        have hq:(xl != yl)=true:=Aaf
        have HP:=Hq (HN Aaj)
        clear HN HE HD HJ HPC
        as_aux_lemma=>
         go_upto_region 16 with fail
         refine wp_region_quiet_below Aab Aab ?_
         repeat (first|go_big_quiet_step (first|fail)|quiet_step (first|fail))
         refine wpQuiet_nil ?_
         intro _ hw'
         obtain⟨⟨dq,osq⟩,hw''⟩:=hw'
         subst hw''
         go_wp2_with fail
         go_ret
         exact .no HP (yJ.trans ((below_regrown wr dq osq).mono yJ.size))
       subst hx;by_cases hx:xs=ys
       case' neg=>
        have p0:∀d os,Calls prog 57 #[.slice b1 xs.length d1,.slice b2 ys.length d2] (Sort.grow (redrawn wr d) os) λe w''=>e= .returned (.bool false)/\∃p:Regrown,w''=Sort.grow (redrawn wr p.d) p.os:=λd os=>Calls.regrown_of ((HPC d os).mono λ_ _ h=>h.of_no hx)
        have HP:=Hq (HN Aaj)
        clear HN HE HD HJ HPC hx
        as_aux_lemma=>
         go_upto_region 16 with fail
         refine wp_region_quiet_below Aab Aab ?_
         repeat (first|go_big_quiet_step (first|(go_at_call 57;exact p0 _ _))|quiet_step (first|(go_at_call 57;exact p0 _ _)))
         refine wpQuiet_nil ?_
         intro _ hw'
         obtain⟨⟨dq,osq⟩,hw''⟩:=hw'
         subst hw''
         clear p0
         go_wp2_with fail
         go_ret
         exact .no HP (yJ.trans ((below_regrown wr dq osq).mono yJ.size))
       have p0:∀d os,Calls prog 57 #[.slice b1 xs.length d1,.slice b2 ys.length d2] (Sort.grow (redrawn wr d) os) λe w''=>e= .returned (.bool true)/\∃p:Regrown,w''=Sort.grow (redrawn wr p.d) p.os:=λd os=>Calls.regrown_of ((HPC d os).mono λ_ _ h=>h.of_yes hx)
       have HT2:=Hq (HE (by rw [hx]));clear HE HN eT yJ HPC hx;go_upto_region 16 with fail;refine wp_region_quiet_below Aab Aab ?_;repeat (first|go_big_quiet_step (first|(go_at_call 57;exact p0 _ _))|quiet_step (first|(go_at_call 57;exact p0 _ _)))
       refine wpQuiet_nil ?_;intro _ hw';obtain⟨⟨dq,osq⟩,hw''⟩:=hw';subst hw'';have fG:=Hq (cK.trans ((below_regrown wr dq osq).mono cK.size));clear p0;go_wp2_with fail;go_roundw
       case rel=>exact⟨k+1,Aaa,Aah,fG,HT2⟩
       case measure=>simp[intOf];omega
      .have hke:k=seen.length:=Aaa
       subst hke;have hnlt:decide ((seen.length:Int) < (seen.length:Int))=false:=Aac
       have alm:=Hq (take_same ZF HT);have Ea:=cK;clear cK HT eT yJ;go_wp2_with fail;clear c0 c1 c2 c3 c4 c5 c6 c7 c8 e0 e1 e2 e3 e4 e5 e6 e7 e8;go_loopw [8] (λi wr=>∃k:Nat,k<=reqs.length/\i= .int .i64 k/\aI w1 wr/\Hid (reqs.take k=rW.take k)) (λi _=>reqs.length - (intOf i).toNat)
       case atStart=>exact⟨0,Nat.zero_le _,rfl,Ea,rfl⟩
       case round=>
        obtain⟨k,hk,rfl,hbel,HT⟩:=hrel;have cK:=Hq hbel;clear hbel Ea;obtain⟨c0,c1,c2,c3,c4,c5,c6,c7,c8⟩:=nine (au HA1 cK);obtain⟨e0,e1,e2,e3,e4,e5,e6,e7,e8⟩:=nine (au Rk cK);have eT:=Hq (HB1.trans (cK.mono HB1.size));have yJ:=Hq (Rl.trans (cK.mono Rl.size));by_cases hlt:k < reqs.length
        .have hk2:k < rW.length:=(ah ZE)▸hlt;have HE:=Hq (λe=>mU ZE hlt HT e);have HN:=Hq (show reqs[k]≠rW[k]->¬PR from λe h=>JD hlt hk2 e (by have h:=ah HD h;exact h.2.2.2.2.2.2.2.2));obtain⟨g1,o1,rfl,hg1,s0,s1,s2,s3⟩:=fU.four (GR.At.below M8.r eT) k hlt;obtain⟨g2,o2,rfl,hg2,t0,t1,t2,t3⟩:=fU.four (GR.At.below Rp.r eT) k hk2;generalize reqs[k]=x at *;generalize rW[k]=y at *;obtain⟨x0,x1,x2,x3⟩:=x;obtain⟨y0,y1,y2,y3⟩:=y;dsimp only at s0 s1 s2 s3 t0 t1 t2 t3;by_cases hx:x0=y0
         case' neg=>
          have hq:(x0 == y0)=false:=Aaf
          have HP:=Hq (HN Aaj)
          clear HN HE HD HJ
          as_aux_lemma=>
           go_upto_region 21 with fail
           go_quiet (fail)
           go_wp2_with fail
           go_ret
           exact .no HP (fD _ yJ)
         subst hx;by_cases hx:x1=y1
         case' neg=>
          have hq:(x1.toList == y1.toList)=false:=BP hx
          have hr:¬x1.toList=y1.toList:=Abk
          have HP:=Hq (HN Aaj)
          clear HN HE HD HJ hx
          as_aux_lemma=>
           go_upto_region 21 with fail
           go_quiet (fail)
           go_wp2_with fail
           go_ret
           exact .no HP (fD _ yJ)
         subst hx;by_cases hx:x2=y2
         case' neg=>
          have hq:(x2 == y2)=false:=Aaf
          have HP:=Hq (HN Aaj)
          clear HN HE HD HJ
          as_aux_lemma=>
           go_upto_region 21 with fail
           go_quiet (fail)
           go_wp2_with fail
           go_ret
           exact .no HP (fD _ yJ)
         subst hx;by_cases hx:x3=y3
         case' neg=>
          have hq:(x3 == y3)=false:=Aaf
          have HP:=Hq (HN Aaj)
          clear HN HE HD HJ
          as_aux_lemma=>
           go_upto_region 21 with fail
           go_quiet (fail)
           go_wp2_with fail
           go_ret
           exact .no HP (fD _ yJ)
         subst hx;have HT2:=Hq (HE rfl);clear HE HN eT yJ;go_upto_region 21 with fail;go_quiet (fail);go_wp2_with fail;go_roundw
         case rel=>exact⟨k+1,Aaa,Aah,fD _ cK,HT2⟩
         case measure=>simp[intOf];omega
        .have hke:k=reqs.length:=Aaa
         subst hke;have hnlt:decide ((reqs.length:Int) < (reqs.length:Int))=false:=Aac
         have alk:=Hq (take_same ZE HT);have HP:=Hq (HJ azV ajq ZA ZC Epu azt alm Hold alk);go_wp2_with fail;go_ret;exact .yes HP yJ
abbrev afd:List Value:=[.int .i64 0,.int .i64 0,.slice none 0 0,.int .i64 0,.slice none 0 0,.slice none 0 0,.slice none 0 0,.int .i64 0,.slice none 0 0,.int .i64 0,.int .i64 0,.slice none 0 0,.int .i64 0,.slice none 0 0,.slice none 0 0,.slice none 0 0,.int .i64 0,.slice none 0 0,.string ByteArray.empty,.int .i64 0,.slice none 0 0,.slice none 0 0]
theorem Yn (k:Kp) (A:KA) (w:World) (hz:xK k 1048576) (ha:qX w A k):
 Calls prog 7 #[YN k A] w λe w'=>∃A',e= .returned (YN k A')/\qX w' A' k/\aI w w':=by
 have H1:=Hq (λw1 (h:aI w w1)=>ac0 k.base A.b w1 hz.b (ha.below h).kb);have H2:=Hq (λw1 (h:aI w w1)=>ac0 k.node A.n w1 hz.n (ha.below h).kn);have H3:=Hq (λw1 (h:aI w w1)=>ak2 A.wa A.wc k.wait w1 hz.w (ha.below h).kw);have H4:=Hq (λw1 (h:aI w w1)=>Ym A.aa A.ac k.asked w1 hz.a (ha.below h).ka);clear ha hz;obtain⟨hP0,hR0,hO0,hB0⟩:=aaM w (.cells (Nk k A).toArray 32) (.cells afd.toArray 44) (.cells afd.toArray 44);go_in
 go_upto_region 2 with fail;refine wp_at (λW0 hW=>?_);have NI:Hid (TO 32 44 (Nk k A) afd w (λ_=>True) afd W0):=by rw [hW];exact⟨hP0,hR0,hO0,hB0,λ_ _=>trivial⟩
 clear hW hP0 hR0 hO0 hB0;refine wp_region_list ?_;show wpList _ _ _ [_,_,_,_,_] _ _
 refine BigFrame.wpList_want Aad (λK hK=>?_);go_simp;refine hK _ _ ?_;clear hK K;refine wpList_load_mid rfl 28 (.tmp 4) rfl w.heap.size 0 rfl (dG k.base A.b).toList _ (NI.rng 0 _ rfl) underlying28 rfl Aab ?_;go_wp2_with fail;refine(H1 _ NI.b).mono ?_;rintro e x ⟨A1,rfl,G,hN,hS,hb⟩;have Kl:=Hq (NI.step hb (λW'=>dw W' A1 k.base) (λW' hk=>(hN.keeps hk (λy hy hm=>by have:=hS.rng y hy;have:=NI.s;simp at hm;omega)).at));clear hN hS hb NI H1;rename_i Jt
 refine Jt _ _ ?_;clear Jt;refine BigFrame.wpList_want Aad (λK hK=>?_);go_simp;refine hK _ _ ?_;clear hK K;refine wpList_store_mid rfl 40 (.tmp 7) (.tmp 6) rfl (w.heap.size+1+1) 0 (dG k.base A1) rfl rfl (Kl.there 0 9 (of_decide_eq_true Aab)) Aab Aab ?_;have D9:=Hq (Kl.mid 0 (dG k.base A1).toList);clear Kl;generalize World.setCells _ _ _ _=W1 at *;go_upto_region 3 with fail;refine wp_region_list ?_;show wpList _ _ _ [_,_,_,_,_] _ _
 refine BigFrame.wpList_want Aad (λK hK=>?_);go_simp;refine hK _ _ ?_;clear hK K;refine wpList_load_mid rfl 28 (.tmp 8) rfl w.heap.size 9 rfl (dG k.node A.n).toList _ (D9.rng 9 _ rfl) underlying28 rfl Aab ?_;go_wp2_with fail;refine(H2 _ D9.b).mono ?_;rintro e x ⟨A2,rfl,G,hN,hS,hb⟩;have Kl:=Hq (D9.step hb (λW'=>dw W' A2 k.node) (λW' hk=>(hN.keeps hk (λy hy hm=>by have:=hS.rng y hy;have:=D9.s;simp at hm;omega)).at));clear hN hS hb D9 H2;rename_i Jt
 refine Jt _ _ ?_;clear Jt;refine BigFrame.wpList_want Aad (λK hK=>?_);go_simp;refine hK _ _ ?_;clear hK K;refine wpList_store_mid rfl 40 (.tmp 11) (.tmp 10) rfl (w.heap.size+1+1) 9 (dG k.node A2) rfl rfl (Kl.there 9 9 (of_decide_eq_true Aab)) Aab Aab ?_;have HS2:=Hq (Kl.mid 9 (dG k.node A2).toList);clear Kl;generalize World.setCells _ _ _ _=W1 at *;go_upto_region 4 with fail;have c18:World.cell? _ ⟨w.heap.size,18,none⟩=some (.string k.log):=(HS2.cell 18).trans Aab;have f18:=aj HS2.o 18;have o18:World.cell? _ ⟨w.heap.size+1+1,18,none⟩=some (.string ByteArray.empty):=(cell_of_row _ _ 18 _ _ (0,0) HS2.o).trans Aab;go_upto_region 5 with fail;refine wp_at (λW hW=>?_);have Ea:=Hq (hW.symm▸(ah HS2).one 18 (.string k.log));clear hW c18 f18 o18 HS2;have c19:World.cell? _ ⟨w.heap.size,19,none⟩=some (.int .i64 k.safe):=(Ea.cell 19).trans Aab;have f19:=aj Ea.o 19;have o19:World.cell? _ ⟨w.heap.size+1+1,19,none⟩=some (.int .i64 0):=(cell_of_row _ _ 19 _ _ (0,0) Ea.o).trans Aab;go_upto_region 6 with fail;refine wp_at (λW hW=>?_);have Zn:=Hq (hW.symm▸(ah Ea).one 19 (.int .i64 k.safe));clear hW c19 f19 o19 Ea;have c20:World.cell? _ ⟨w.heap.size,20,none⟩=some (.slice A.wa k.wait.length A.wc):=(Zn.cell 20).trans Aab;have f20:=aj Zn.o 20;have o20:World.cell? _ ⟨w.heap.size+1+1,20,none⟩=some (.slice none 0 0):=(cell_of_row _ _ 20 _ _ (0,0) Zn.o).trans Aab;go_wp2_with fail;refine(H3 _ Zn.b).mono ?_;rintro e x20 ⟨rfl,hN,hb⟩;have ayz:=Zn.s;have Kl:=Hq (Zn.step hb (λW'=>GR.At iT 7 W' (some ⟨W.heap.size,0,none⟩) k.wait) (λW' hk=>GR.Blk.at (show GR.Blk iT 98 W' W.heap.size k.wait from hk.obj hN (λhm=>Acm)) dV));clear hN hb Zn H3 c20 f20 o20 ayz;generalize W.heap.size=g20 at *;have c20:World.cell? _ ⟨w.heap.size,20,none⟩=some (.slice A.wa k.wait.length A.wc):=(Kl.cell 20).trans Aab;have f20:=aj Kl.o 20;have o20:World.cell? _ ⟨w.heap.size+1+1,20,none⟩=some (.slice none 0 0):=(cell_of_row _ _ 20 _ _ (0,0) Kl.o).trans Aab;go_upto_region 7 with fail;refine wp_at (λW hW=>?_);have HS5:=Hq (hW.symm▸(ah Kl).one 20 (.slice (some ⟨g20,0,none⟩) k.wait.length k.wait.length));clear hW c20 f20 o20 Kl;have c21:World.cell? _ ⟨w.heap.size,21,none⟩=some (.slice A.aa k.asked.length A.ac):=(HS5.cell 21).trans Aab;have f21:=aj HS5.o 21;have o21:World.cell? _ ⟨w.heap.size+1+1,21,none⟩=some (.slice none 0 0):=(cell_of_row _ _ 21 _ _ (0,0) HS5.o).trans Aab;go_wp2_with fail;refine(H4 _ HS5.b).mono ?_;rintro e x21 ⟨rfl,hN,hb⟩;have ayA:=HS5.s;have Kl:=Hq (HS5.step hb (λW'=>GR.At gV 12 W' (some ⟨W.heap.size,0,none⟩) k.asked) (λW' hk=>GR.Blk.at (show GR.Blk gV 120 W' W.heap.size k.asked from hk.obj hN (λhm=>Acm)) dz));clear hN hb HS5 H4 c21 f21 o21 ayA;generalize W.heap.size=g21 at *;have c21:World.cell? _ ⟨w.heap.size,21,none⟩=some (.slice A.aa k.asked.length A.ac):=(Kl.cell 21).trans Aab;have f21:=aj Kl.o 21;have o21:World.cell? _ ⟨w.heap.size+1+1,21,none⟩=some (.slice none 0 0):=(cell_of_row _ _ 21 _ _ (0,0) Kl.o).trans Aab;go_upto_region 8 with fail;refine wp_at (λW hW=>?_);have HS6:=Hq (hW.symm▸(ah Kl).one 21 (.slice (some ⟨g21,0,none⟩) k.asked.length k.asked.length));clear hW c21 f21 o21 Kl;obtain⟨V,hV⟩:∃V,Ri V k ⟨A1,A2,some ⟨g20,0,none⟩,k.wait.length,some ⟨g21,0,none⟩,k.asked.length⟩:=⟨_,rfl⟩;have HR:=Hq (KR.blk (V:=V) (show W.heap[w.heap.size+1+1]?=some (.cells V.toArray 44 (0,0)) from HS6.o.trans (by rw [show V=_ from hV];kernel_rfl)));have HV:=Hq hV;clear hV;refine wp_region_list ?_;show wpList _ _ _ [_,_] _ _
 refine abV Aad (.tmp 3) rfl (w.heap.size+1+1) rfl V HV.len HR ?_;refine abW Aad (.tmp 2) (.tmp 26) rfl (w.heap.size+1) rfl V rfl HV.len HV.one Aad HS6.r (λW5 hW5 SH=>?_);have hk:aC [w.heap.size+1,w.heap.size+1+1] W W5:=by rw [hW5];exact(iP _ _ _ _).mono (λx hx=>by simp at hx;simp[hx])
 have hb:aI w W5:=by rw [hW5];exact kR Aaa _ _ _ _ HS6.b
 obtain⟨⟨⟨⟨_,q1⟩,q2⟩,q3⟩,q4⟩:=HS6.m W5 hk;have HP:=Hq (show∃A',Ending.returned (Value.agg V.toArray)= .returned (YN k A')/\qX W5 A' k/\aI w W5 from⟨_,by rw [(ah HV).agg],⟨q1,q2,q3,q4⟩,hb⟩);clear hW5 hk hb q1 q2 q3 q4 HS6 HR;go_wp2_with fail;exact bodyPost_ret (v:= .agg V.toArray) (xB rfl _ _ (w.heap.size+1) V _ rfl SH.r underlying44 rfl (by rw [(ah HV).len];kernel_rfl)) rfl HP
open Go.WideShapes
open Go.ChangeShapes
theorem Ul:prog.cellsOf 82=7:=Aab
theorem Yr:prog.cellsOf 85=11:=Aab
theorem azs:prog.cellsOf 29=1:=Aab
theorem azr:prog.cellsOf 30=1:=Aab
section
variable {H:Type} {enc:TypeId×Value->H} {W:World}
theorem Xz {fuel:Nat} {cs:List Value} {x:DataW H×List MemPlace} (h:DataW.trod enc prog W 0 (λ_=>true) true fuel 29 cs=some x):
 ∃(a:Option Addr) (cap:Nat) (l:List Mg),cs=[.slice a l.length cap]/\l.length<=maxLen/\(∀y∈l,y.k.size<=maxLen)/\GR.At iT 7 W a l:=
 mO (en:=iT) (sz:=7) (ok:=λy=>y.k.size<=maxLen) underlying29 Aab Aaa dV (λfuel cs' x hlen h=>by
  match cs',hlen with
  |[v0,v1,v2,v3,v4,v5,v6],_=>
   obtain⟨xs1,kk1,_,_,_,akC,GI⟩:=DataW.trod_struct underlying82 h
   match xs1,akC with
   |[aCP,aCQ,aDR,aDS,aDT,aDU,aDV],_=>
    have aa4:=GI 0 _ rfl
    have aa5:=GI 1 _ rfl
    have axR:=GI 2 _ rfl
    have axS:=GI 3 _ rfl
    have axT:=GI 4 _ rfl
    have axU:=GI 5 _ rfl
    have axV:=GI 6 _ rfl
    simp[iN,kV] at aa4 aa5 axR axS axT axU axV
    obtain⟨aCq,ayO,_⟩:=DataW.trod_int underlying3 aa4
    obtain⟨akP,acA,_⟩:=DataW.trod_int underlying3 aa5
    obtain⟨aCr,ayP,_⟩:=DataW.trod_int underlying3 axR
    obtain⟨aCs,ayQ,_⟩:=DataW.trod_int underlying3 axS
    obtain⟨aCt,ayR,_⟩:=DataW.trod_int underlying3 axT
    obtain⟨aCI,ayS,_,ayu⟩:=DataW.trod_string underlying9 axU
    obtain⟨aCu,ayT,_⟩:=DataW.trod_int underlying3 axV
    simp at ayO acA ayP ayQ ayR ayS ayT
    subst ayO acA ayP ayQ ayR ayS ayT
    exact⟨⟨aCq,akP,aCr,aCs,aCt,aCI,aCu⟩,ayu,rfl⟩) h
theorem LK {fuel:Nat} {cs:List Value} {x:DataW H×List MemPlace} (h:DataW.trod enc prog W 0 (λ_=>true) true fuel 30 cs=some x):
 ∃(a:Option Addr) (cap:Nat) (l:List An),cs=[.slice a l.length cap]/\l.length<=maxLen/\(∀y∈l,y.o.k.size<=maxLen/\y.o.m.k.size<=maxLen)/\GR.At gV 12 W a l:=
 mO (en:=gV) (sz:=12) (ok:=λy=>y.o.k.size<=maxLen/\y.o.m.k.size<=maxLen) underlying30 Aab Aaa dz (λfuel cs' x hlen h=>by
  match cs',hlen with
  |[v0,v1,v2,v3,v4,v5,v6,v7,v8,v9,v10,v11],_=>
   obtain⟨xs1,kk1,_,_,_,akC,GI⟩:=DataW.trod_struct underlying87 h
   match xs1,akC with
   |[aCP,aCQ],_=>
    have aa4:=GI 0 _ rfl
    have aa5:=GI 1 _ rfl
    simp[iN,Yr] at aa4 aa5
    obtain⟨xs2,kk2,_,_,_,aCm,abj⟩:=DataW.trod_struct underlying85 aa4
    match xs2,aCm with
    |[aDW,aDX,aDY,aDZ,aD0],_=>
     have axW:=abj 0 _ rfl
     have axX:=abj 1 _ rfl
     have axY:=abj 2 _ rfl
     have axZ:=abj 3 _ rfl
     have ax0:=abj 4 _ rfl
     simp[iN,kV,Ul] at axW axX axY axZ ax0
     obtain⟨aCv,ayU,_⟩:=DataW.trod_int underlying3 axW
     obtain⟨aCw,ayV,_⟩:=DataW.trod_int underlying3 axX
     obtain⟨aCJ,ayW,_,ayv⟩:=DataW.trod_string underlying9 axY
     obtain⟨aCx,ayX,_⟩:=DataW.trod_int underlying3 axZ
     obtain⟨xs3,kk3,_,_,_,aCn,SI⟩:=DataW.trod_struct underlying82 ax0
     match xs3,aCn with
     |[aD1,aD2,aD3,aD4,aD5,aD6,aD7],_=>
      have ax1:=SI 0 _ rfl
      have ax2:=SI 1 _ rfl
      have ax3:=SI 2 _ rfl
      have ax4:=SI 3 _ rfl
      have ax5:=SI 4 _ rfl
      have ax6:=SI 5 _ rfl
      have ax7:=SI 6 _ rfl
      simp[iN,kV] at ax1 ax2 ax3 ax4 ax5 ax6 ax7
      obtain⟨aCy,ayY,_⟩:=DataW.trod_int underlying3 ax1
      obtain⟨aCz,ayZ,_⟩:=DataW.trod_int underlying3 ax2
      obtain⟨aCA,aza,_⟩:=DataW.trod_int underlying3 ax3
      obtain⟨aCB,azb,_⟩:=DataW.trod_int underlying3 ax4
      obtain⟨aCC,azc,_⟩:=DataW.trod_int underlying3 ax5
      obtain⟨aCK,azd,_,ayw⟩:=DataW.trod_string underlying9 ax6
      obtain⟨aCD,aze,_⟩:=DataW.trod_int underlying3 ax7
      obtain⟨akP,acA,_⟩:=DataW.trod_int underlying3 aa5
      simp at ayU ayV ayW ayX ayY ayZ aza azb azc azd aze acA
      subst ayU ayV ayW ayX ayY ayZ aza azb azc azd aze acA
      exact⟨⟨⟨aCv,aCw,aCJ,aCx,⟨aCy,aCz,aCA,aCB,aCC,aCK,aCD⟩⟩,akP⟩,⟨ayv,ayw⟩,rfl⟩) h
theorem E8 {fuel:Nat} {v0 v1 v2 v3 v4 v5 v6 v7 v8:Value} {x:DataW H×List MemPlace} (h:DataW.trod enc prog W 0 (λ_=>true) true fuel 28 [v0,v1,v2,v3,v4,v5,v6,v7,v8]=some x):
 ∃(n:Nd) (A:bQ),[v0,v1,v2,v3,v4,v5,v6,v7,v8]=(dG n A).toList/\eU n maxLen/\dw W A n:=by
 obtain⟨xs,k,_,_,_,hxl,hfl⟩:=DataW.trod_struct underlying28 h;match xs,hxl with
 |[y0,y1,y2,y3,y4,y5,y6,y7,y8],_=>
  have g0:=hfl 0 _ rfl
  have g1:=hfl 1 _ rfl
  have g2:=hfl 2 _ rfl
  have g3:=hfl 3 _ rfl
  have g4:=hfl 4 _ rfl
  have g5:=hfl 5 _ rfl
  have g6:=hfl 6 _ rfl
  have g7:=hfl 7 _ rfl
  have g8:=hfl 8 _ rfl
  simp[iN,EX,ayJ,ayK,ayL,ayM] at g0 g1 g2 g3 g4 g5 g6 g7 g8
  obtain⟨n0,q0,_⟩:=DataW.trod_int underlying3 g0
  obtain⟨n1,q1,_⟩:=DataW.trod_int underlying3 g1
  obtain⟨b2,c2,l2,q2,z2,t2⟩:=open_ints' g2
  obtain⟨n3,q3,_⟩:=DataW.trod_int underlying3 g3
  obtain⟨b4,c4,l4,q4,z4,s4,t4⟩:=LQ g4
  obtain⟨b5,c5,l5,q5,z5,s5,t5⟩:=TP g5
  obtain⟨b6,c6,l6,q6,z6,s6,t6⟩:=XB g6
  obtain⟨n7,q7,_⟩:=DataW.trod_int underlying3 g7
  obtain⟨b8,c8,l8,q8,z8,s8,t8⟩:=XA g8
  simp at q0 q1 q2 q3 q4 q5 q6 q7 q8
  subst q0 q1 q2 q3 q4 q5 q6 q7 q8
  exact⟨⟨n0,n1,l2,n3,l4,l5,l6,n7,l8⟩,⟨b2,b4,b5,b6,b8,c2,c4,c5,c6,c8⟩,rfl,⟨z2,z4,z5,z6,z8,s4,s5,s6,s8⟩,⟨t2,t4,t5,t6,t8⟩⟩
end
theorem aeH:prog.cellsOf 32=22:=Aab
section
variable {H:Type} {enc:TypeId×Value->H} {W:World}
theorem PZ {r:Reach} {base:Nat} {v:Value} {d:DataW H} {p:List MemPlace} (hv:Value.okWide prog W r base 32 v) (h:DataW.Trod enc prog W 0 (λ_=>true) true 32 v d p):
 ∃(k:Kp) (A:KA),v=YN k A/\xK k maxLen/\qX W A k:=by
 simp only[Value.okWide,underlying32] at hv;obtain⟨cs,rfl,hsz,ts,hts,_,hall⟩:=hv;obtain⟨fuel,hf⟩:=h;have hlen:=hsz.trans aeH;obtain⟨L⟩:=cs;match L,hlen with
 |[v0,v1,v2,v3,v4,v5,v6,v7,v8,v9,v10,v11,v12,v13,v14,v15,v16,v17,v18,v19,v20,v21],_=>
  obtain⟨xs,kk,_,_,_,hxl,hfl⟩:=DataW.trod_struct underlying32 hf
  match xs,hxl with
  |[y0,y1,y2,y3,y4,y5],_=>
   have g0:=hfl 0 _ rfl
   have g1:=hfl 1 _ rfl
   have g2:=hfl 2 _ rfl
   have g3:=hfl 3 _ rfl
   have g4:=hfl 4 _ rfl
   have g5:=hfl 5 _ rfl
   simp[iN,kV,aeN,azs,azr,Value.cells] at g0 g1 g2 g3 g4 g5
   obtain⟨B0,AB,q0,z0,t0⟩:=E8 g0
   obtain⟨N0,AN,q1,z1,t1⟩:=E8 g1
   obtain⟨lg,q2,_,z2⟩:=DataW.trod_string underlying9 g2
   obtain⟨sf,q3,_⟩:=DataW.trod_int underlying3 g3
   obtain⟨wa,wc,wt,q4,z4,s4,t4⟩:=Xz g4
   obtain⟨aa,ac,sk,q5,z5,s5,t5⟩:=LK g5
   simp at q0 q1 q2 q3 q4 q5
   obtain⟨rfl,rfl,rfl,rfl,rfl,rfl,rfl,rfl,rfl⟩:=q0
   obtain⟨rfl,rfl,rfl,rfl,rfl,rfl,rfl,rfl,rfl⟩:=q1
   subst q2 q3 q4 q5
   exact⟨⟨B0,N0,lg,sf,wt,sk⟩,⟨AB,AN,wa,wc,aa,ac⟩,rfl,⟨z0,z1,z2,z4,z5,s4,s5⟩,⟨t0,t1,t4,t5⟩⟩
end
end Go.Proofs.YtohmklmkjmlpjaaGreatDoor
