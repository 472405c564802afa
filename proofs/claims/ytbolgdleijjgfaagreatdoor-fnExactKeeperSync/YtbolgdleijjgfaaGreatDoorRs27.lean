/- Parts. -/
import Derived.Test.YtbolgdleijjgfaaGreatDoorRs24
import Derived.Test.YtbolgdleijjgfaaGreatDoorRs21
namespace Go.Proofs.YtbolgdleijjgfaaGreatDoor
open Go.Proofs.Tryz
set_option maxHeartbeats 2000000
set_option maxRecDepth 100000
open Go.RowKit
open Go.WideShapes
open Go.ChangeShapes
open Mth
theorem U9:prog.cellsOf 85=7:=Aab
theorem ZQ:prog.cellsOf 88=11:=Aab
theorem azO:prog.cellsOf 29=1:=Aab
theorem azN:prog.cellsOf 30=1:=Aab
section
variable {H:Type} {enc:TypeId×Value->H} {W:World}
theorem Y6 {fuel:Nat} {cs:List Value} {x:DataW H×List MemPlace} (h:DataW.trod enc prog W 0 (λ_=>true) true fuel 29 cs=some x):
 ∃(a:Option Addr) (cap:Nat) (l:List Mg),cs=[.slice a l.length cap]/\l.length<=maxLen/\(∀y∈l,y.k.size<=maxLen)/\GR.At gD 7 W a l:=
 nJ (en:=gD) (sz:=7) (ok:=λy=>y.k.size<=maxLen) underlying29 Aab Aaa cZ (λfuel cs' x hlen h=>by
  match cs',hlen with
  |[v0,v1,v2,v3,v4,v5,v6],_=>
   obtain⟨xs1,kk1,_,_,_,ak5,IG⟩:=aF4 underlying85 h
   match xs1,ak5 with
   |[aDo,aDp,aEp,aEq,aEr,aEs,aEt],_=>
    have abM:=IG 0 _ rfl
    have abN:=IG 1 _ rfl
    have ayd:=IG 2 _ rfl
    have aye:=IG 3 _ rfl
    have ayf:=IG 4 _ rfl
    have ayg:=IG 5 _ rfl
    have ayh:=IG 6 _ rfl
    simp[iH,lG] at abM abN ayd aye ayf ayg ayh
    obtain⟨aCV,azj,_⟩:=aFb underlying3 abM
    obtain⟨alh,adi,_⟩:=aFb underlying3 abN
    obtain⟨aCW,azk,_⟩:=aFb underlying3 ayd
    obtain⟨aCX,azl,_⟩:=aFb underlying3 aye
    obtain⟨aCY,azm,_⟩:=aFb underlying3 ayf
    obtain⟨aDh,azn,_,ayQ⟩:=aGl underlying9 ayg
    obtain⟨aCZ,azo,_⟩:=aFb underlying3 ayh
    simp at azj adi azk azl azm azn azo
    subst azj adi azk azl azm azn azo
    exact⟨⟨aCV,alh,aCW,aCX,aCY,aDh,aCZ⟩,ayQ,rfl⟩) h
theorem MV {fuel:Nat} {cs:List Value} {x:DataW H×List MemPlace} (h:DataW.trod enc prog W 0 (λ_=>true) true fuel 30 cs=some x):
 ∃(a:Option Addr) (cap:Nat) (l:List An),cs=[.slice a l.length cap]/\l.length<=maxLen/\(∀y∈l,y.o.k.size<=maxLen/\y.o.m.k.size<=maxLen)/\GR.At dQ 12 W a l:=
 nJ (en:=dQ) (sz:=12) (ok:=λy=>y.o.k.size<=maxLen/\y.o.m.k.size<=maxLen) underlying30 Aab Aaa aQ (λfuel cs' x hlen h=>by
  match cs',hlen with
  |[v0,v1,v2,v3,v4,v5,v6,v7,v8,v9,v10,v11],_=>
   obtain⟨xs1,kk1,_,_,_,ak5,IG⟩:=aF4 underlying90 h
   match xs1,ak5 with
   |[aDo,aDp],_=>
    have abM:=IG 0 _ rfl
    have abN:=IG 1 _ rfl
    simp[iH,ZQ] at abM abN
    obtain⟨xs2,kk2,_,_,_,aCR,ab2⟩:=aF4 underlying88 abM
    match xs2,aCR with
    |[aEu,aEv,aEw,aEx,aEy],_=>
     have ayi:=ab2 0 _ rfl
     have ayj:=ab2 1 _ rfl
     have ayk:=ab2 2 _ rfl
     have ayl:=ab2 3 _ rfl
     have aym:=ab2 4 _ rfl
     simp[iH,lG,U9] at ayi ayj ayk ayl aym
     obtain⟨aC0,azp,_⟩:=aFb underlying3 ayi
     obtain⟨aC1,azq,_⟩:=aFb underlying3 ayj
     obtain⟨aDi,azr,_,ayR⟩:=aGl underlying9 ayk
     obtain⟨aC2,azs,_⟩:=aFb underlying3 ayl
     obtain⟨xs3,kk3,_,_,_,aCS,TV⟩:=aF4 underlying85 aym
     match xs3,aCS with
     |[aEz,aEA,aEB,aEC,aED,aEE,aEF],_=>
      have ayn:=TV 0 _ rfl
      have ayo:=TV 1 _ rfl
      have ayp:=TV 2 _ rfl
      have ayq:=TV 3 _ rfl
      have ayr:=TV 4 _ rfl
      have ays:=TV 5 _ rfl
      have ayt:=TV 6 _ rfl
      simp[iH,lG] at ayn ayo ayp ayq ayr ays ayt
      obtain⟨aC3,azt,_⟩:=aFb underlying3 ayn
      obtain⟨aC4,azu,_⟩:=aFb underlying3 ayo
      obtain⟨aC5,azv,_⟩:=aFb underlying3 ayp
      obtain⟨aC6,azw,_⟩:=aFb underlying3 ayq
      obtain⟨aC7,azx,_⟩:=aFb underlying3 ayr
      obtain⟨aDj,azy,_,ayS⟩:=aGl underlying9 ays
      obtain⟨aC8,azz,_⟩:=aFb underlying3 ayt
      obtain⟨alh,adi,_⟩:=aFb underlying3 abN
      simp at azp azq azr azs azt azu azv azw azx azy azz adi
      subst azp azq azr azs azt azu azv azw azx azy azz adi
      exact⟨⟨⟨aC0,aC1,aDi,aC2,⟨aC3,aC4,aC5,aC6,aC7,aDj,aC8⟩⟩,alh⟩,⟨ayR,ayS⟩,rfl⟩) h
theorem Gc {fuel:Nat} {v0 v1 v2 v3 v4 v5 v6 v7 v8:Value} {x:DataW H×List MemPlace} (h:DataW.trod enc prog W 0 (λ_=>true) true fuel 28 [v0,v1,v2,v3,v4,v5,v6,v7,v8]=some x):
 ∃(n:Nd) (A:bq),[v0,v1,v2,v3,v4,v5,v6,v7,v8]=(dH n A).toList/\eF n maxLen/\bY W A n:=by
 obtain⟨xs,k,_,_,_,hxl,hfl⟩:=aF4 underlying28 h;match xs,hxl with
 |[y0,y1,y2,y3,y4,y5,y6,y7,y8],_=>
  have g0:=hfl 0 _ rfl
  have g1:=hfl 1 _ rfl
  have g2:=hfl 2 _ rfl
  have g3:=hfl 3 _ rfl
  have g4:=hfl 4 _ rfl
  have g5:=hfl 5 _ rfl
  have g6:=hfl 6 _ rfl
  have g7:=hfl 7 _ rfl
  have g8:=hfl 8 _ rfl
  simp[iH,F7,azd,aze,azf,azg] at g0 g1 g2 g3 g4 g5 g6 g7 g8
  obtain⟨n0,q0,_⟩:=aFb underlying3 g0
  obtain⟨n1,q1,_⟩:=aFb underlying3 g1
  obtain⟨b2,c2,l2,q2,z2,t2⟩:=open_ints' g2
  obtain⟨n3,q3,_⟩:=aFb underlying3 g3
  obtain⟨b4,c4,l4,q4,z4,s4,t4⟩:=MW g4
  obtain⟨b5,c5,l5,q5,z5,s5,t5⟩:=Uw g5
  obtain⟨b6,c6,l6,q6,z6,s6,t6⟩:=Y8 g6
  obtain⟨n7,q7,_⟩:=aFb underlying3 g7
  obtain⟨b8,c8,l8,q8,z8,s8,t8⟩:=Y7 g8
  simp at q0 q1 q2 q3 q4 q5 q6 q7 q8
  subst q0 q1 q2 q3 q4 q5 q6 q7 q8
  exact⟨⟨n0,n1,l2,n3,l4,l5,l6,n7,l8⟩,⟨b2,b4,b5,b6,b8,c2,c4,c5,c6,c8⟩,rfl,⟨z2,z4,z5,z6,z8,s4,s5,s6,s8⟩,⟨t2,t4,t5,t6,t8⟩⟩
end
theorem afx:prog.cellsOf 32=22:=Aab
section
variable {H:Type} {enc:TypeId×Value->H} {W:World}
theorem Qz {r:Reach} {base:Nat} {v:Value} {d:DataW H} {p:List MemPlace} (hv:Value.okWide prog W r base 32 v) (h:DataW.Trod enc prog W 0 (λ_=>true) true 32 v d p):
 ∃(k:Kp) (A:KA),v=I8 k A/\oI k maxLen/\jo W A k:=by
 simp only[Value.okWide,underlying32] at hv;obtain⟨cs,rfl,hsz,ts,hts,_,hall⟩:=hv;obtain⟨fuel,hf⟩:=h;have hlen:=hsz.trans afx;obtain⟨L⟩:=cs;match L,hlen with
 |[v0,v1,v2,v3,v4,v5,v6,v7,v8,v9,v10,v11,v12,v13,v14,v15,v16,v17,v18,v19,v20,v21],_=>
  obtain⟨xs,kk,_,_,_,hxl,hfl⟩:=aF4 underlying32 hf
  match xs,hxl with
  |[y0,y1,y2,y3,y4,y5],_=>
   have g0:=hfl 0 _ rfl
   have g1:=hfl 1 _ rfl
   have g2:=hfl 2 _ rfl
   have g3:=hfl 3 _ rfl
   have g4:=hfl 4 _ rfl
   have g5:=hfl 5 _ rfl
   simp[iH,lG,afE,azO,azN,Value.cells] at g0 g1 g2 g3 g4 g5
   obtain⟨B0,AB,q0,z0,t0⟩:=Gc g0
   obtain⟨N0,AN,q1,z1,t1⟩:=Gc g1
   obtain⟨lg,q2,_,z2⟩:=aGl underlying9 g2
   obtain⟨sf,q3,_⟩:=aFb underlying3 g3
   obtain⟨wa,wc,wt,q4,z4,s4,t4⟩:=Y6 g4
   obtain⟨aa,ac,sk,q5,z5,s5,t5⟩:=MV g5
   simp at q0 q1 q2 q3 q4 q5
   obtain⟨rfl,rfl,rfl,rfl,rfl,rfl,rfl,rfl,rfl⟩:=q0
   obtain⟨rfl,rfl,rfl,rfl,rfl,rfl,rfl,rfl,rfl⟩:=q1
   subst q2 q3 q4 q5
   exact⟨⟨B0,N0,lg,sf,wt,sk⟩,⟨AB,AN,wa,wc,aa,ac⟩,rfl,⟨z0,z1,z2,z4,z5,s4,s5⟩,⟨t0,t1,t4,t5⟩⟩
end
end Go.Proofs.YtbolgdleijjgfaaGreatDoor
