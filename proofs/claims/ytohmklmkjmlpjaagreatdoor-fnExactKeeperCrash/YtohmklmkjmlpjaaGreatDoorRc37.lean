/- Parts. -/
import Derived.Test.YtohmklmkjmlpjaaGreatDoorRc24
import Derived.Test.YtohmklmkjmlpjaaGreatDoorRc18
namespace Go.Proofs.YtohmklmkjmlpjaaGreatDoor
open Go.Proofs.Tryz
set_option maxHeartbeats 2000000
set_option maxRecDepth 100000
open Go.RowKit
open Go.WideShapes
open Go.ChangeShapes
open Mth
theorem Vt:prog.cellsOf 82=7:=Aab
theorem ZR:prog.cellsOf 85=11:=Aab
theorem aBv:prog.cellsOf 29=1:=Aab
theorem aBu:prog.cellsOf 30=1:=Aab
section
variable {H:Type} {enc:TypeId×Value->H} {W:World}
theorem Y8 {fuel:Nat} {cs:List Value} {x:DataW H×List MemPlace} (h:DataW.trod enc prog W 0 (λ_=>true) true fuel 29 cs=some x):
 ∃(a:Option Addr) (cap:Nat) (l:List Mg),cs=[.slice a l.length cap]/\l.length<=maxLen/\(∀y∈l,y.k.size<=maxLen)/\GR.At jf 7 W a l:=
 nO (en:=jf) (sz:=7) (ok:=λy=>y.k.size<=maxLen) underlying29 Aab Aaa dV (λfuel cs' x hlen h=>by
  match cs',hlen with
  |[v0,v1,v2,v3,v4,v5,v6],_=>
   obtain⟨xs1,kk1,_,_,_,alP,IB⟩:=aHF underlying82 h
   match xs1,alP with
   |[aEV,aEW,aFZ,aF0,aF1,aF2,aF3],_=>
    have ab0:=IB 0 _ rfl
    have ab1:=IB 1 _ rfl
    have az8:=IB 2 _ rfl
    have az9:=IB 3 _ rfl
    have aAa:=IB 4 _ rfl
    have aAb:=IB 5 _ rfl
    have aAc:=IB 6 _ rfl
    simp[iY,lS] at ab0 ab1 az8 az9 aAa aAb aAc
    obtain⟨aEx,aA5,_⟩:=aGJ underlying3 ab0
    obtain⟨alZ,adF,_⟩:=aGJ underlying3 ab1
    obtain⟨aEy,aA6,_⟩:=aGJ underlying3 az8
    obtain⟨aEz,aA7,_⟩:=aGJ underlying3 az9
    obtain⟨aEA,aA8,_⟩:=aGJ underlying3 aAa
    obtain⟨aEO,aA9,_,aAM⟩:=aH1 underlying9 aAb
    obtain⟨aEB,aBa,_⟩:=aGJ underlying3 aAc
    simp at aA5 adF aA6 aA7 aA8 aA9 aBa
    subst aA5 adF aA6 aA7 aA8 aA9 aBa
    exact⟨⟨aEx,alZ,aEy,aEz,aEA,aEO,aEB⟩,aAM,rfl⟩) h
theorem Nh {fuel:Nat} {cs:List Value} {x:DataW H×List MemPlace} (h:DataW.trod enc prog W 0 (λ_=>true) true fuel 30 cs=some x):
 ∃(a:Option Addr) (cap:Nat) (l:List An),cs=[.slice a l.length cap]/\l.length<=maxLen/\(∀y∈l,y.o.k.size<=maxLen/\y.o.m.k.size<=maxLen)/\GR.At iF 12 W a l:=
 nO (en:=iF) (sz:=12) (ok:=λy=>y.o.k.size<=maxLen/\y.o.m.k.size<=maxLen) underlying30 Aab Aaa dw (λfuel cs' x hlen h=>by
  match cs',hlen with
  |[v0,v1,v2,v3,v4,v5,v6,v7,v8,v9,v10,v11],_=>
   obtain⟨xs1,kk1,_,_,_,alP,IB⟩:=aHF underlying87 h
   match xs1,alP with
   |[aEV,aEW],_=>
    have ab0:=IB 0 _ rfl
    have ab1:=IB 1 _ rfl
    simp[iY,ZR] at ab0 ab1
    obtain⟨xs2,kk2,_,_,_,aEt,aco⟩:=aHF underlying85 ab0
    match xs2,aEt with
    |[aF4,aF5,aF6,aF7,aF8],_=>
     have aAd:=aco 0 _ rfl
     have aAe:=aco 1 _ rfl
     have aAf:=aco 2 _ rfl
     have aAg:=aco 3 _ rfl
     have aAh:=aco 4 _ rfl
     simp[iY,lS,Vt] at aAd aAe aAf aAg aAh
     obtain⟨aEC,aBb,_⟩:=aGJ underlying3 aAd
     obtain⟨aED,aBd,_⟩:=aGJ underlying3 aAe
     obtain⟨aEP,aBe,_,aAN⟩:=aH1 underlying9 aAf
     obtain⟨aEE,aBf,_⟩:=aGJ underlying3 aAg
     obtain⟨xs3,kk3,_,_,_,aEu,Uh⟩:=aHF underlying82 aAh
     match xs3,aEu with
     |[aF9,aGa,aGb,aGc,aGd,aGe,aGf],_=>
      have aAi:=Uh 0 _ rfl
      have aAj:=Uh 1 _ rfl
      have aAk:=Uh 2 _ rfl
      have aAl:=Uh 3 _ rfl
      have aAm:=Uh 4 _ rfl
      have aAn:=Uh 5 _ rfl
      have aAo:=Uh 6 _ rfl
      simp[iY,lS] at aAi aAj aAk aAl aAm aAn aAo
      obtain⟨aEF,aBg,_⟩:=aGJ underlying3 aAi
      obtain⟨aEG,aBh,_⟩:=aGJ underlying3 aAj
      obtain⟨aEH,aBi,_⟩:=aGJ underlying3 aAk
      obtain⟨aEI,aBj,_⟩:=aGJ underlying3 aAl
      obtain⟨aEJ,aBk,_⟩:=aGJ underlying3 aAm
      obtain⟨aEQ,aBl,_,aAO⟩:=aH1 underlying9 aAn
      obtain⟨aEK,aBm,_⟩:=aGJ underlying3 aAo
      obtain⟨alZ,adF,_⟩:=aGJ underlying3 ab1
      simp at aBb aBd aBe aBf aBg aBh aBi aBj aBk aBl aBm adF
      subst aBb aBd aBe aBf aBg aBh aBi aBj aBk aBl aBm adF
      exact⟨⟨⟨aEC,aED,aEP,aEE,⟨aEF,aEG,aEH,aEI,aEJ,aEQ,aEK⟩⟩,alZ⟩,⟨aAN,aAO⟩,rfl⟩) h
theorem Gc {fuel:Nat} {v0 v1 v2 v3 v4 v5 v6 v7 v8:Value} {x:DataW H×List MemPlace} (h:DataW.trod enc prog W 0 (λ_=>true) true fuel 28 [v0,v1,v2,v3,v4,v5,v6,v7,v8]=some x):
 ∃(n:Nd) (A:bV),[v0,v1,v2,v3,v4,v5,v6,v7,v8]=(dG n A).toList/\eG n maxLen/\dD W A n:=by
 obtain⟨xs,k,_,_,_,hxl,hfl⟩:=aHF underlying28 h;match xs,hxl with
 |[y0,y1,y2,y3,y4,y5,y6,y7,y8],_=>
  have g0:=hfl 0 _ rfl
  have g1:=hfl 1 _ rfl
  have g2:=hfl 2 _ rfl
  have g3:=hfl 3 _ rfl
  have g4:=hfl 4 _ rfl
  have g5:=hfl 5 _ rfl
  have g6:=hfl 6 _ rfl
  have g7:=hfl 7 _ rfl
  have g8:=hfl 8 _ rfl
  simp[iY,F9,aA0,aA1,aA2,aA3] at g0 g1 g2 g3 g4 g5 g6 g7 g8
  obtain⟨n0,q0,_⟩:=aGJ underlying3 g0
  obtain⟨n1,q1,_⟩:=aGJ underlying3 g1
  obtain⟨b2,c2,l2,q2,z2,t2⟩:=open_ints' g2
  obtain⟨n3,q3,_⟩:=aGJ underlying3 g3
  obtain⟨b4,c4,l4,q4,z4,s4,t4⟩:=Ni g4
  obtain⟨b5,c5,l5,q5,z5,s5,t5⟩:=UY g5
  obtain⟨b6,c6,l6,q6,z6,s6,t6⟩:=Za g6
  obtain⟨n7,q7,_⟩:=aGJ underlying3 g7
  obtain⟨b8,c8,l8,q8,z8,s8,t8⟩:=Y9 g8
  simp at q0 q1 q2 q3 q4 q5 q6 q7 q8
  subst q0 q1 q2 q3 q4 q5 q6 q7 q8
  exact⟨⟨n0,n1,l2,n3,l4,l5,l6,n7,l8⟩,⟨b2,b4,b5,b6,b8,c2,c4,c5,c6,c8⟩,rfl,⟨z2,z4,z5,z6,z8,s4,s5,s6,s8⟩,⟨t2,t4,t5,t6,t8⟩⟩
end
theorem afJ:prog.cellsOf 32=22:=Aab
section
variable {H:Type} {enc:TypeId×Value->H} {W:World}
theorem QH {r:Reach} {base:Nat} {v:Value} {d:DataW H} {p:List MemPlace} (hv:Value.okWide prog W r base 32 v) (h:DataW.Trod enc prog W 0 (λ_=>true) true 32 v d p):
 ∃(k:Kp) (A:KA),v=SA k A/\uz k maxLen/\nu W A k:=by
 simp only[Value.okWide,underlying32] at hv;obtain⟨cs,rfl,hsz,ts,hts,_,hall⟩:=hv;obtain⟨fuel,hf⟩:=h;have hlen:=hsz.trans afJ;obtain⟨L⟩:=cs;match L,hlen with
 |[v0,v1,v2,v3,v4,v5,v6,v7,v8,v9,v10,v11,v12,v13,v14,v15,v16,v17,v18,v19,v20,v21],_=>
  obtain⟨xs,kk,_,_,_,hxl,hfl⟩:=aHF underlying32 hf
  match xs,hxl with
  |[y0,y1,y2,y3,y4,y5],_=>
   have g0:=hfl 0 _ rfl
   have g1:=hfl 1 _ rfl
   have g2:=hfl 2 _ rfl
   have g3:=hfl 3 _ rfl
   have g4:=hfl 4 _ rfl
   have g5:=hfl 5 _ rfl
   simp[iY,lS,afQ,aBv,aBu,Value.cells] at g0 g1 g2 g3 g4 g5
   obtain⟨B0,AB,q0,z0,t0⟩:=Gc g0
   obtain⟨N0,AN,q1,z1,t1⟩:=Gc g1
   obtain⟨lg,q2,_,z2⟩:=aH1 underlying9 g2
   obtain⟨sf,q3,_⟩:=aGJ underlying3 g3
   obtain⟨wa,wc,wt,q4,z4,s4,t4⟩:=Y8 g4
   obtain⟨aa,ac,sk,q5,z5,s5,t5⟩:=Nh g5
   simp at q0 q1 q2 q3 q4 q5
   obtain⟨rfl,rfl,rfl,rfl,rfl,rfl,rfl,rfl,rfl⟩:=q0
   obtain⟨rfl,rfl,rfl,rfl,rfl,rfl,rfl,rfl,rfl⟩:=q1
   subst q2 q3 q4 q5
   exact⟨⟨B0,N0,lg,sf,wt,sk⟩,⟨AB,AN,wa,wc,aa,ac⟩,rfl,⟨z0,z1,z2,z4,z5,s4,s5⟩,⟨t0,t1,t4,t5⟩⟩
end
end Go.Proofs.YtohmklmkjmlpjaaGreatDoor
