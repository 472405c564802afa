/- Parts. -/
import Derived.Test.YtfachhcijcjbpaaGreatDoorRw21
import Derived.Test.YtfachhcijcjbpaaGreatDoorRw23
namespace Go.Proofs.YtfachhcijcjbpaaGreatDoor
open Go.Proofs.Tryz
set_option maxHeartbeats 4000000
set_option maxRecDepth 100000
open Go.RowKit
open Mth
theorem YD (n:Nd) (A:bg) (w:World) (hz:eH n 1048600) (hp:dX n=true) (ha:bX w A n):
 Calls prog 180 #[gP n A] w (dK w (.bool (sD n))):=by
 have HA:=Hq ha;have HD:Hid (sD n=(decide (n.out.length<=40)&&gL (wm n) (λs t=>iF s.i t.i) n.out)):=rfl;have xR:=Hq (λk h=>oV (wm n) (λs t=>iF s.i t.i) n.out k h);have jr:=Hq (λk h=>zO (wm n) (λs=>s.i) 0 (λx=>Xl) n.out k h);have zo:=Hq (λk h=>uF (λs:jI=>s.i) 0 n.out k h);have HLB:=Hq (λk (h:gL (wm n) (λs t=>iF s.i t.i) (n.out.take k)=true)=>BJ (key:=λs=>s.i) (y0:=0) (λx=>Xl) h);have VR:=Hq (λs=>show wm n s=(decide (1<=s.i/\s.i<=n.next - 1)&&dU n s.t&&keyOk s.k.data.toList&&fC s.n) from rfl)
 have SI:Hid (∀x w1,aG w w1->Calls prog 194 #[gP n A,.int .i64 x] w1 (dK w1 (.bool (dU n x)))):=λx w1 hb=>by
  have h:=Qi n A x w1 hz.k (ha.below hb).k
  rw [near_same hp] at h
  exact h
 have hlo:=hz.o;have jL:=Hq (aEu w (.cells (dR n A) 53));generalize sD n=TT at *;generalize wm n=KB at *;generalize dU n=NN at *;clear ha hz hp;open aoR in exact xG
theorem Uv (n:Nd) (A:bg) (w:World) (hz:eH n 1048600) (ha:bX w A n):
 Calls prog 182 #[gP n A] w (dK w (.bool (gQ n))):=by
 have HA:=Hq ha;have HD:Hid (gQ n=(qM n.old&&decide (n.reqs.length<=30)&&gL (sV n) (λs t=>iF s.no t.no) n.reqs)):=rfl;have xR:=Hq (λk h=>oV (sV n) (λs t=>iF s.no t.no) n.reqs k h);have jr:=Hq (λk h=>zO (sV n) (λs=>s.no) n.old (λx=>Xp) n.reqs k h);have zo:=Hq (λk h=>uF (λs:Rq=>s.no) n.old n.reqs k h);have HLB:=Hq (λk (h:gL (sV n) (λs t=>iF s.no t.no) (n.reqs.take k)=true)=>BJ (key:=λs=>s.no) (y0:=n.old) (λx=>Xp) h);have VR:=Hq (λs=>show sV n s=(decide (n.old+1<=s.no/\s.no<=1000000000)&&keyOk s.k.data.toList&&fC s.n&&decide (0<=s.s/\s.s<=2)) from rfl);have hlo:=hz.r;have jL:=Hq (aEu w (.cells (dR n A) 53));generalize gQ n=TT at *;generalize sV n=KB at *;clear ha hz;open aoQ in exact xG
theorem PW (l:List Int):GR.flat aW l=l.map (Value.int .i64):=by
 induction l with
 |nil=>rfl
 |cons x l ih=>rw [GR.flat_cons,ih];rfl
theorem Uf:∀(y:Int),∀u∈aW y,u.oneCell'=true:=by
 intro y u hu;simp only[aW,aET,aFt,or_false] at hu;subst hu;rfl
theorem BK (a:Option Addr) (cap:Nat) (l:List Int) (w:World) (hl:l.length<=1048600) (ha:aK w a l):
 Calls prog 109 #[.slice a l.length cap] w λe w'=>∃v,e= .returned v/\w'.ownsRow w.heap.size 3 1 v l.length (GR.flat aW l)/\aG w w':=by
 obtain⟨i0,hi,hz0,hz1,hz2⟩:=aEY wP;have q22:∀(w:World) (a:Option Addr) (n c n' c':Nat),(binOp .eql 22 (.slice a n c) (.slice none n' c')).run prog w= .ok (.bool a.isNone) w:=λw a n c n' c'=>aFT w _ _ a n c n' c' underlying22
 have hlit:(w.alloc (.cells #[] 3)).ownsRow w.heap.size 3 1 (.slice (some ⟨w.heap.size,0,none⟩) 0 0) 0 []:=aFb (base:=w.heap.size) (e:=3) (size:=1) w #[] 0 (aEx _) Aag rfl;cases a with
 |none=>
  have hl0:l=[]:=GR.none_nil ha;subst hl0;clear ha hlit;go_in
  exact TH
 |some x=>
  have HN:=Hq (GR.At.news aU Aaa (GR.At.below ha (au w (.cells #[] 3))));clear ha;go_in
  go_wp2_with (at_builtin;refine aFf _ rfl _ _ 22 rfl w.heap.size 3 i0 (.int .i64 0) 1 8 underlying22 hi hz0 hz1 hz2 rfl Aag _ 0 [] rfl hlit x l.length cap (GR.flat aW l) rfl ?c0 ?c1 ?c2 ?c3 ?c4 ?c5 ?_)
  case c0=>exact GR.flat_length aW 1 aU l
  case c1=>exact HN
  case c2=>exact GR.flat_oneCell Uf l
  case c3=>unfold maxLen;omega
  case c4=>omega
  case c5=>simp
  intro v' w1 hown' hgrow _;have HO:=Hq (show w1.ownsRow w.heap.size 3 1 v' l.length (GR.flat aW l) by simpa using hown');exact XV
theorem afT (B:Nat) (v:Value) (l:List Int) (w:World) (hl:l.length<=1048602) (hB:B<=w.heap.size) (h:w.ownsRow B 3 1 v l.length (GR.flat aW l)):
 Calls prog 214 #[v] w λe w'=>e= .returned (.tuple #[])/\w'.ownsRow B 3 1 v l.length (GR.flat aW (ZE l))/\Below B w w':=by
 rw [PW] at h ⊢;rcases h.2 with⟨rfl,hn⟩|⟨g,cap,cur,rfl,hg,hblk,h1,h2,h3,h4⟩
 .have hl0:l=[]:=aEZ hn;subst hl0;refine(AnyM.slices_Sort_int_none Tryz.sortL none 0 w).mono ?_;rintro e w' ⟨rfl,rfl⟩;refine⟨rfl,?_,aEK _ _⟩;simpa [ZE] using World.ownsRow_nil _ _ _ _
 .rw [Nat.mul_one] at h4;have hH:=holds_of_blockI hblk h4;refine(AnyM.slices_Sort_int Tryz.sortL g 0 cap l w hH (ay hblk) Aaa).mono ?_;rintro e w' ⟨rfl,n,os,rfl⟩;have hs:(ZE l).length=l.length:=qB l;have h5:=ownsRow_sortedI (n:=n) (os:=os) (ts:=ZE l) hs hg hblk h1 h2 h3;exact⟨rfl,h5,(aEK B w).grown (grownBy_sortedI _) hB (λk hk=>by cases hk;exact hg)⟩
theorem FI (n:Nd) (A:bg) (w:World) (hl:n.kids.length<=1048600) (ha:aK w A.k n.kids):
 Calls prog 196 #[gP n A] w λe w'=>∃v,e= .returned v/\w'.ownsRow w.heap.size 3 1 v (qQ n).length (GR.flat aW (ZE (qQ n)))/\aG w w':=by
 obtain⟨i0,hi,hz0,hz1,hz2⟩:=aEY wP;have HC:=Hq (BK A.k A.ck n.kids (w.alloc (.cells (dR n A) 53)) hl (GR.At.below ha (au w _)));have jL:=Hq (aEu w (.cells (dR n A) 53));have Tk:Hid ((n.par= -1->qQ n=n.kids)/\(¬n.par= -1->qQ n=n.kids++[n.par])):=⟨λh=>by unfold qQ;rw [aER h,aFF],λh=>by unfold qQ;rw [aEG h]⟩;have hln:(qQ n).length<=1048602:=by unfold qQ;split<;>simp<;>omega
 generalize qQ n=NB at *;open aoS in exact xG
namespace Mth
theorem Zr {l:List Sn} {F:List Int} {k:Nat} (hk:k < l.length) (hF:F.length=l.length) (h1:(l.take k).map (·.f)=F.take k) (h2:(l.take k).all vK=true) (h3:(l[k]).f=F[k]' Aaa) (h4:vK l[k]=true):
 (l.take (k+1)).map (·.f)=F.take (k+1)/\(l.take (k+1)).all vK=true:=by
 rw [aEF hk,aEF Aaa,List.map_append,h1,List.all_append,h2];simp[h3,h4]
theorem Zp {l:List Sn} {F:List Int} {k:Nat} (hk:k < l.length) (hF:F.length=l.length) (h3:¬(l[k]).f=F[k]' Aaa):¬l.map (·.f)=F:=by
 intro h;apply h3
 subst h;simp
theorem Zq {l:List Sn} {k:Nat} (hk:k < l.length) (h4:vK l[k]=false):l.all vK=false:=by
 rw [List.all_eq_false];exact⟨l[k],aEL hk,by rw [h4];simp⟩
end Mth
theorem ajt (s:Sn) (b:Option Addr) (c:Nat) (r:Bool) (wc:World) (hl:s.ids.length<=1048600) (ha:aK wc b s.ids) (hr:vK s=r):∀d os,Calls Tryz.prog 197 #[.agg #[.int .i64 s.f,.int .i64 s.l,.slice b s.ids.length c]] (Sort.grow (redrawn wc d) os) λe w''=>e= .returned (.bool r)/\∃p:Regrown,w''=Sort.grow (redrawn wc p.d) p.os:=λd os=>by
 rw [<-hr];exact aE1 (Qm s b c _ hl (GR.At.below ha (aEV wc d os)))
theorem Uw (n:Nd) (A:bg) (w:World) (hz:eH n 1048600) (hp:dX n=true) (ha:bX w A n):
 Calls Tryz.prog 181 #[gP n A] w (dK w (.bool (nZ n))):=by
 have HA:=Hq ha;have HD:=Hq (wZ hp);have HSK:=Hq hz.sk;have Tk:=Hq (FI n A (w.alloc (.cells (dR n A) 53)) hz.k (GR.At.below ha.k (au w _)));have jL:=Hq (aEu w (.cells (dR n A) 53));have hls:=hz.s;have hln:(qQ n).length<=1048602:=by have:=hz.k;unfold qQ;split<;>simp<;>omega
 have zo:=Hq (qB (qQ n));generalize ZE (qQ n)=F at *;generalize (qQ n).length=NL at *;generalize nZ n=TT at *;clear ha hz hp;open aoU in exact xG
theorem yJ (n:Nd) (A:bg) (w:World) (hz:eH n 1048600) (ha:bX w A n):
 Calls Tryz.prog 159 #[gP n A] w (dK w (.bool (dQ n))):=by
 have DC:Hid (∀w1,aG w w1->Calls Tryz.prog 177 #[gP n A] w1 (dK w1 (.bool (dX n)))):=λw1 hb=>by
  have h:=Uu n A w1 hz.k (ha.below hb).k
  rw [Va] at h
  exact h
 have HPU:=Hq (λw1 (hb:aG w w1)=>uD A.p A.cp n.pu w1 hz.p (ha.below hb).p);have HOT:=Hq (λw1 (hb:aG w w1) (hp:dX n=true)=>YD n A w1 hz hp (ha.below hb));have HSE:=Hq (λw1 (hb:aG w w1) (hp:dX n=true)=>Uw n A w1 hz hp (ha.below hb));have HRE:=Hq (λw1 (hb:aG w w1)=>Uv n A w1 hz (ha.below hb));have HD:Hid (dQ n=(dX n&&iZ n.pu&&nZ n&&fC n.next&&sD n&&gQ n)):=rfl;have jL:=Hq (aEu w (.cells (dR n A) 53));generalize dX n=PL at *;generalize iZ n.pu=PS at *;generalize nZ n=TD at *;generalize sD n=OT at *;generalize gQ n=RQ at *;generalize dQ n=TT at *;clear ha hz;open aoT in exact xG
abbrev kH:Array Value:=(vG 0 0 none 0 0 0 none 0 0 none 0 0 none 0 0 0 none 0 0)
section
variable {v0 v1 v2 v3 v4 v5 v6 v7 v8:Value} {g:Nat}
theorem iG {w:World} {t:TypeId} (h:w.heap[g]?=some (.cells #[v0,v1,v2,v3,v4,v5,v6,v7,v8] t (0,0))):(w.cell? ⟨g,0,none⟩=some v0/\w.cell? ⟨g,1,none⟩=some v1/\w.cell? ⟨g,2,none⟩=some v2/\w.cell? ⟨g,3,none⟩=some v3/\w.cell? ⟨g,4,none⟩=some v4/\w.cell? ⟨g,5,none⟩=some v5/\w.cell? ⟨g,6,none⟩=some v6/\w.cell? ⟨g,7,none⟩=some v7/\w.cell? ⟨g,8,none⟩=some v8)/\w.frozen? ⟨g,0,none⟩=false/\w.frozen? ⟨g,1,none⟩=false/\w.frozen? ⟨g,2,none⟩=false/\w.frozen? ⟨g,3,none⟩=false/\w.frozen? ⟨g,4,none⟩=false/\w.frozen? ⟨g,5,none⟩=false/\w.frozen? ⟨g,6,none⟩=false/\w.frozen? ⟨g,7,none⟩=false/\w.frozen? ⟨g,8,none⟩=false:=
 ⟨nine h,mX h⟩
variable {fn:Func} {R:Ending->World->Prop} {W:World} {act:Act}
theorem Gu {u0 u1 u2 u3 u4 u5 u6 u7 u8:Value} (hb:W.heap[g]?=some (.cells #[u0,u1,u2,u3,u4,u5,u6,u7,u8] 53 (0,0))):(((((((((W.setCell ⟨g,0,none⟩ v0).setCell ⟨g,1,none⟩ v1).setCell ⟨g,2,none⟩ v2).setCell ⟨g,3,none⟩ v3).setCell ⟨g,4,none⟩ v4).setCell ⟨g,5,none⟩ v5).setCell ⟨g,6,none⟩ v6).setCell ⟨g,7,none⟩ v7).setCell ⟨g,8,none⟩ v8).heap[g]?=some (.cells #[v0,v1,v2,v3,v4,v5,v6,v7,v8] 53 (0,0))/\aC [g] W (((((((((W.setCell ⟨g,0,none⟩ v0).setCell ⟨g,1,none⟩ v1).setCell ⟨g,2,none⟩ v2).setCell ⟨g,3,none⟩ v3).setCell ⟨g,4,none⟩ v4).setCell ⟨g,5,none⟩ v5).setCell ⟨g,6,none⟩ v6).setCell ⟨g,7,none⟩ v7).setCell ⟨g,8,none⟩ v8):=
 ⟨GR.setW_blk [v0,v1,v2,v3,v4,v5,v6,v7,v8] (o:=0) (xs:=[u0,u1,u2,u3,u4,u5,u6,u7,u8]) hb,eP [v0,v1,v2,v3,v4,v5,v6,v7,v8] W 0⟩
theorem azC {u0 u1 u2 u3 u4 u5 u6 u7 u8:Value} {c:Code} {Q:Exit->Act->World->Prop} (hb:W.heap[g]?=some (.cells #[u0,u1,u2,u3,u4,u5,u6,u7,u8] 53 (0,0))) (h:∀X,X.heap[g]?=some (.cells #[v0,v1,v2,v3,v4,v5,v6,v7,v8] 53 (0,0))->aC [g] W X->c.wp Tryz.prog Q act X):c.wp Tryz.prog Q act (((((((((W.setCell ⟨g,0,none⟩ v0).setCell ⟨g,1,none⟩ v1).setCell ⟨g,2,none⟩ v2).setCell ⟨g,3,none⟩ v3).setCell ⟨g,4,none⟩ v4).setCell ⟨g,5,none⟩ v5).setCell ⟨g,6,none⟩ v6).setCell ⟨g,7,none⟩ v7).setCell ⟨g,8,none⟩ v8):=
 h _ (Gu hb).1 (Gu hb).2
theorem oU {p:Nat} (hf:fn.results=#[.cell p 53]) (hp:act.eval (.tmp p)= .pointer (some ⟨g,0,none⟩)) (hd:act.defers=[]) (hb:W.heap[g]?=some (.cells kH 53 (0,0)))
 (h:∀W',W'.heap[g]?=some (.cells #[v0,v1,v2,v3,v4,v5,v6,v7,v8] 53 (0,0))->aC [g] W W'->(∀x,x≠g->W'.heap[x]?=W.heap[x]?)->W.heap.size=W'.heap.size->R (.returned (.agg #[v0,v1,v2,v3,v4,v5,v6,v7,v8])) W'):bodyPost Tryz.prog fn R .ret act (((((((((W.setCell ⟨g,0,none⟩ v0).setCell ⟨g,1,none⟩ v1).setCell ⟨g,2,none⟩ v2).setCell ⟨g,3,none⟩ v3).setCell ⟨g,4,none⟩ v4).setCell ⟨g,5,none⟩ v5).setCell ⟨g,6,none⟩ v6).setCell ⟨g,7,none⟩ v7).setCell ⟨g,8,none⟩ v8):=by
 obtain⟨e,k⟩:=Gu (v0:=v0) (v1:=v1) (v2:=v2) (v3:=v3) (v4:=v4) (v5:=v5) (v6:=v6) (v7:=v7) (v8:=v8) hb;have hs:∀x,x≠g->(((((((((W.setCell ⟨g,0,none⟩ v0).setCell ⟨g,1,none⟩ v1).setCell ⟨g,2,none⟩ v2).setCell ⟨g,3,none⟩ v3).setCell ⟨g,4,none⟩ v4).setCell ⟨g,5,none⟩ v5).setCell ⟨g,6,none⟩ v6).setCell ⟨g,7,none⟩ v7).setCell ⟨g,8,none⟩ v8).heap[x]?=W.heap[x]?:=λx hx=>GR.setW_other hx [v0,v1,v2,v3,v4,v5,v6,v7,v8] (o:=0)
 have hz:W.heap.size=(((((((((W.setCell ⟨g,0,none⟩ v0).setCell ⟨g,1,none⟩ v1).setCell ⟨g,2,none⟩ v2).setCell ⟨g,3,none⟩ v3).setCell ⟨g,4,none⟩ v4).setCell ⟨g,5,none⟩ v5).setCell ⟨g,6,none⟩ v6).setCell ⟨g,7,none⟩ v7).setCell ⟨g,8,none⟩ v8).heap.size:=(Gt [v0,v1,v2,v3,v4,v5,v6,v7,v8] W 0).symm;open aog in exact aj4
theorem jW {p q:Nat} {u1:Value} (hf:fn.results=#[.cell p 53,.tmp q]) (hp:act.eval (.tmp p)= .pointer (some ⟨g,0,none⟩)) (hq:act.eval (.tmp q)=u1) (hd:act.defers=[]) (hb:W.heap[g]?=some (.cells kH 53 (0,0)))
 (h:∀W',W'.heap[g]?=some (.cells #[v0,v1,v2,v3,v4,v5,v6,v7,v8] 53 (0,0))->aC [g] W W'->R (.returned (.tuple #[.agg #[v0,v1,v2,v3,v4,v5,v6,v7,v8],u1])) W'):bodyPost Tryz.prog fn R .ret act (((((((((W.setCell ⟨g,0,none⟩ v0).setCell ⟨g,1,none⟩ v1).setCell ⟨g,2,none⟩ v2).setCell ⟨g,3,none⟩ v3).setCell ⟨g,4,none⟩ v4).setCell ⟨g,5,none⟩ v5).setCell ⟨g,6,none⟩ v6).setCell ⟨g,7,none⟩ v7).setCell ⟨g,8,none⟩ v8):=by
 obtain⟨e,k⟩:=Gu (v0:=v0) (v1:=v1) (v2:=v2) (v3:=v3) (v4:=v4) (v5:=v5) (v6:=v6) (v7:=v7) (v8:=v8) hb;open aof in exact aj4
theorem eB {p q r:Nat} {u1 u2:Value} (hf:fn.results=#[.cell p 53,.tmp q,.tmp r]) (hp:act.eval (.tmp p)= .pointer (some ⟨g,0,none⟩)) (hq:act.eval (.tmp q)=u1) (hr:act.eval (.tmp r)=u2) (hd:act.defers=[]) (hb:W.heap[g]?=some (.cells kH 53 (0,0)))
 (h:∀W',W'.heap[g]?=some (.cells #[v0,v1,v2,v3,v4,v5,v6,v7,v8] 53 (0,0))->aC [g] W W'->R (.returned (.tuple #[.agg #[v0,v1,v2,v3,v4,v5,v6,v7,v8],u1,u2])) W'):bodyPost Tryz.prog fn R .ret act (((((((((W.setCell ⟨g,0,none⟩ v0).setCell ⟨g,1,none⟩ v1).setCell ⟨g,2,none⟩ v2).setCell ⟨g,3,none⟩ v3).setCell ⟨g,4,none⟩ v4).setCell ⟨g,5,none⟩ v5).setCell ⟨g,6,none⟩ v6).setCell ⟨g,7,none⟩ v7).setCell ⟨g,8,none⟩ v8):=by
 obtain⟨e,k⟩:=Gu (v0:=v0) (v1:=v1) (v2:=v2) (v3:=v3) (v4:=v4) (v5:=v5) (v6:=v6) (v7:=v7) (v8:=v8) hb;open aoe in exact aj4
end
end Go.Proofs.YtfachhcijcjbpaaGreatDoor
