/- Parts. -/
import Derived.Test.YtbolgdleijjgfaaGreatDoorRs21
import Derived.Test.YtbolgdleijjgfaaGreatDoorRs22
namespace Go.Proofs.YtbolgdleijjgfaaGreatDoor
open Go.Proofs.Tryz
set_option maxHeartbeats 4000000
set_option maxRecDepth 100000
open Go.RowKit
open Mth
theorem YC (n:Nd) (A:bq) (w:World) (hz:eF n 1048600) (hp:eu n=true) (ha:bY w A n):
 Calls prog 171 #[gM n A] w (dM w (.bool (sW n))):=by
 have HA:=Hq ha;have HD:Hid (sW n=(decide (n.out.length<=40)&&gV (wN n) (λs t=>iL s.i t.i) n.out)):=rfl;have yt:=Hq (λk h=>pV (wN n) (λs t=>iL s.i t.i) n.out k h);have jJ:=Hq (λk h=>zW (wN n) (λs=>s.i) 0 (λx=>Xb) n.out k h);have zy:=Hq (λk h=>uS (λs:jC=>s.i) 0 n.out k h);have HLB:=Hq (λk (h:gV (wN n) (λs t=>iL s.i t.i) (n.out.take k)=true)=>BQ (key:=λs=>s.i) (y0:=0) (λx=>Xb) h);have Vp:=Hq (λs=>show wN n s=(decide (1<=s.i/\s.i<=n.next - 1)&&dV n s.t&&keyOk s.k.data.toList&&fH s.n) from rfl)
 have R7:Hid (∀x w1,aH w w1->Calls prog 189 #[gM n A,.int .i64 x] w1 (dM w1 (.bool (dV n x)))):=λx w1 hb=>by
  have h:=P6 n A x w1 hz.k (ha.below hb).k
  rw [near_same hp] at h
  exact h
 have hlo:=hz.o;have jI:=Hq (aEK w (.cells (dH n A) 39));generalize sW n=TT at *;generalize wN n=KB at *;generalize dV n=NN at *;clear ha hz hp;open an3 in exact vR
theorem Ud (n:Nd) (A:bq) (w:World) (hz:eF n 1048600) (ha:bY w A n):
 Calls prog 173 #[gM n A] w (dM w (.bool (gX n))):=by
 have HA:=Hq ha;have HD:Hid (gX n=(rA n.old&&decide (n.reqs.length<=30)&&gV (tK n) (λs t=>iL s.no t.no) n.reqs)):=rfl;have yt:=Hq (λk h=>pV (tK n) (λs t=>iL s.no t.no) n.reqs k h);have jJ:=Hq (λk h=>zW (tK n) (λs=>s.no) n.old (λx=>Xf) n.reqs k h);have zy:=Hq (λk h=>uS (λs:Rq=>s.no) n.old n.reqs k h);have HLB:=Hq (λk (h:gV (tK n) (λs t=>iL s.no t.no) (n.reqs.take k)=true)=>BQ (key:=λs=>s.no) (y0:=n.old) (λx=>Xf) h);have Vp:=Hq (λs=>show tK n s=(decide (n.old+1<=s.no/\s.no<=1000000000)&&keyOk s.k.data.toList&&fH s.n&&decide (0<=s.s/\s.s<=2)) from rfl);have hlo:=hz.r;have jI:=Hq (aEK w (.cells (dH n A) 39));generalize gX n=TT at *;generalize tK n=KB at *;clear ha hz;open an2 in exact vR
theorem Pp (l:List Int):GR.flat bf l=l.map (Value.int .i64):=by
 induction l with
 |nil=>rfl
 |cons x l ih=>rw [GR.flat_cons,ih];rfl
theorem TH:∀(y:Int),∀u∈bf y,u.oneCell'=true:=by
 intro y u hu;simp only[bf,aE8,aFR,or_false] at hu;subst hu;rfl
theorem BR (a:Option Addr) (cap:Nat) (l:List Int) (w:World) (hl:l.length<=1048600) (ha:bC w a l):
 Calls prog 105 #[.slice a l.length cap] w λe w'=>∃v,e= .returned v/\w'.ownsRow w.heap.size 3 1 v l.length (GR.flat bf l)/\aH w w':=by
 obtain⟨i0,hi,hz0,hz1,hz2⟩:=aFm xG;have q22:∀(w:World) (a:Option Addr) (n c n' c':Nat),(binOp .eql 22 (.slice a n c) (.slice none n' c')).run prog w= .ok (.bool a.isNone) w:=λw a n c n' c'=>aGd w _ _ a n c n' c' underlying22
 have hlit:(w.alloc (.cells #[] 3)).ownsRow w.heap.size 3 1 (.slice (some ⟨w.heap.size,0,none⟩) 0 0) 0 []:=aFw (base:=w.heap.size) (e:=3) (size:=1) w #[] 0 (aEM _) Aae rfl;cases a with
 |none=>
  have hl0:l=[]:=GR.none_nil ha;subst hl0;clear ha hlit;go_in
  exact Te
 |some x=>
  have HN:=Hq (GR.At.news aW Aaa (GR.At.below ha (au w (.cells #[] 3))));clear ha;go_in
  go_wp2_with (at_builtin;refine aFG _ rfl _ _ 22 rfl w.heap.size 3 i0 (.int .i64 0) 1 8 underlying22 hi hz0 hz1 hz2 rfl Aae _ 0 [] rfl hlit x l.length cap (GR.flat bf l) rfl ?c0 ?c1 ?c2 ?c3 ?c4 ?c5 ?_)
  case c0=>exact GR.flat_length bf 1 aW l
  case c1=>exact HN
  case c2=>exact GR.flat_oneCell TH l
  case c3=>unfold maxLen;omega
  case c4=>omega
  case c5=>simp
  intro v' w1 hown' hgrow _;have HO:=Hq (show w1.ownsRow w.heap.size 3 1 v' l.length (GR.flat bf l) by simpa using hown');exact XT
theorem afS (B:Nat) (v:Value) (l:List Int) (w:World) (hl:l.length<=1048602) (hB:B<=w.heap.size) (h:w.ownsRow B 3 1 v l.length (GR.flat bf l)):
 Calls prog 209 #[v] w λe w'=>e= .returned (.tuple #[])/\w'.ownsRow B 3 1 v l.length (GR.flat bf (ZE l))/\Below B w w':=by
 rw [Pp] at h ⊢;rcases h.2 with⟨rfl,hn⟩|⟨g,cap,cur,rfl,hg,hblk,h1,h2,h3,h4⟩
 .have hl0:l=[]:=aFg hn;subst hl0;refine(AnyM.slices_Sort_int_none Tryz.sortL none 0 w).mono ?_;rintro e w' ⟨rfl,rfl⟩;refine⟨rfl,?_,aEY _ _⟩;simpa [ZE] using World.ownsRow_nil _ _ _ _
 .rw [Nat.mul_one] at h4;have hH:=holds_of_blockI hblk h4;refine(AnyM.slices_Sort_int Tryz.sortL g 0 cap l w hH (ay hblk) Aaa).mono ?_;rintro e w' ⟨rfl,n,os,rfl⟩;have hs:(ZE l).length=l.length:=qR l;have h5:=ownsRow_sortedI (n:=n) (os:=os) (ts:=ZE l) hs hg hblk h1 h2 h3;exact⟨rfl,h5,(aEY B w).grown (grownBy_sortedI _) hB (λk hk=>by cases hk;exact hg)⟩
theorem FH (n:Nd) (A:bq) (w:World) (hl:n.kids.length<=1048600) (ha:bC w A.k n.kids):
 Calls prog 191 #[gM n A] w λe w'=>∃v,e= .returned v/\w'.ownsRow w.heap.size 3 1 v (rE n).length (GR.flat bf (ZE (rE n)))/\aH w w':=by
 obtain⟨i0,hi,hz0,hz1,hz2⟩:=aFm xG;have HC:=Hq (BR A.k A.ck n.kids (w.alloc (.cells (dH n A) 39)) hl (GR.At.below ha (au w _)));have jI:=Hq (aEK w (.cells (dH n A) 39));have Sw:Hid ((n.par= -1->rE n=n.kids)/\(¬n.par= -1->rE n=n.kids++[n.par])):=⟨λh=>by unfold rE;rw [aE7 h,aFZ],λh=>by unfold rE;rw [aEX h]⟩;have hln:(rE n).length<=1048602:=by unfold rE;split<;>simp<;>omega
 generalize rE n=NB at *;open an4 in exact vR
namespace Mth
theorem Zt {l:List Sn} {F:List Int} {k:Nat} (hk:k < l.length) (hF:F.length=l.length) (h1:(l.take k).map (·.f)=F.take k) (h2:(l.take k).all vX=true) (h3:(l[k]).f=F[k]' Aaa) (h4:vX l[k]=true):
 (l.take (k+1)).map (·.f)=F.take (k+1)/\(l.take (k+1)).all vX=true:=by
 rw [aEV hk,aEV Aaa,List.map_append,h1,List.all_append,h2];simp[h3,h4]
theorem Zq {l:List Sn} {F:List Int} {k:Nat} (hk:k < l.length) (hF:F.length=l.length) (h3:¬(l[k]).f=F[k]' Aaa):¬l.map (·.f)=F:=by
 intro h;apply h3
 subst h;simp
theorem Zr {l:List Sn} {k:Nat} (hk:k < l.length) (h4:vX l[k]=false):l.all vX=false:=by
 rw [List.all_eq_false];exact⟨l[k],aE2 hk,by rw [h4];simp⟩
end Mth
theorem aji (s:Sn) (b:Option Addr) (c:Nat) (r:Bool) (wc:World) (hl:s.ids.length<=1048600) (ha:bC wc b s.ids) (hr:vX s=r):∀d os,Calls Tryz.prog 192 #[.agg #[.int .i64 s.f,.int .i64 s.l,.slice b s.ids.length c]] (Sort.grow (redrawn wc d) os) λe w''=>e= .returned (.bool r)/\∃p:Regrown,w''=Sort.grow (redrawn wc p.d) p.os:=λd os=>by
 rw [<-hr];exact aFk (Qa s b c _ hl (GR.At.below ha (aFe wc d os)))
theorem Ue (n:Nd) (A:bq) (w:World) (hz:eF n 1048600) (hp:eu n=true) (ha:bY w A n):
 Calls Tryz.prog 172 #[gM n A] w (dM w (.bool (oC n))):=by
 have HA:=Hq ha;have HD:=Hq (xR hp);have HSK:=Hq hz.sk;have Sw:=Hq (FH n A (w.alloc (.cells (dH n A) 39)) hz.k (GR.At.below ha.k (au w _)));have jI:=Hq (aEK w (.cells (dH n A) 39));have hls:=hz.s;have hln:(rE n).length<=1048602:=by have:=hz.k;unfold rE;split<;>simp<;>omega
 have zy:=Hq (qR (rE n));generalize ZE (rE n)=F at *;generalize (rE n).length=NL at *;generalize oC n=TT at *;clear ha hz hp;open an6 in exact vR
theorem yQ (n:Nd) (A:bq) (w:World) (hz:eF n 1048600) (ha:bY w A n):
 Calls Tryz.prog 143 #[gM n A] w (dM w (.bool (dR n))):=by
 have N9:Hid (∀w1,aH w w1->Calls Tryz.prog 168 #[gM n A] w1 (dM w1 (.bool (eu n)))):=λw1 hb=>by
  have h:=Uc n A w1 hz.k (ha.below hb).k
  rw [Uy] at h
  exact h
 have HPU:=Hq (λw1 (hb:aH w w1)=>uP A.p A.cp n.pu w1 hz.p (ha.below hb).p);have HOT:=Hq (λw1 (hb:aH w w1) (hp:eu n=true)=>YC n A w1 hz hp (ha.below hb));have HSE:=Hq (λw1 (hb:aH w w1) (hp:eu n=true)=>Ue n A w1 hz hp (ha.below hb));have HRE:=Hq (λw1 (hb:aH w w1)=>Ud n A w1 hz (ha.below hb));have HD:Hid (dR n=(eu n&&jm n.pu&&oC n&&fH n.next&&sW n&&gX n)):=rfl;have jI:=Hq (aEK w (.cells (dH n A) 39));generalize eu n=PL at *;generalize jm n.pu=PS at *;generalize oC n=TD at *;generalize sW n=OT at *;generalize gX n=RQ at *;generalize dR n=TT at *;clear ha hz;open an5 in exact vR
abbrev kR:Array Value:=(vW 0 0 none 0 0 0 none 0 0 none 0 0 none 0 0 0 none 0 0)
section
variable {v0 v1 v2 v3 v4 v5 v6 v7 v8:Value} {g:Nat}
theorem iM {w:World} {t:TypeId} (h:w.heap[g]?=some (.cells #[v0,v1,v2,v3,v4,v5,v6,v7,v8] t (0,0))):(w.cell? ⟨g,0,none⟩=some v0/\w.cell? ⟨g,1,none⟩=some v1/\w.cell? ⟨g,2,none⟩=some v2/\w.cell? ⟨g,3,none⟩=some v3/\w.cell? ⟨g,4,none⟩=some v4/\w.cell? ⟨g,5,none⟩=some v5/\w.cell? ⟨g,6,none⟩=some v6/\w.cell? ⟨g,7,none⟩=some v7/\w.cell? ⟨g,8,none⟩=some v8)/\w.frozen? ⟨g,0,none⟩=false/\w.frozen? ⟨g,1,none⟩=false/\w.frozen? ⟨g,2,none⟩=false/\w.frozen? ⟨g,3,none⟩=false/\w.frozen? ⟨g,4,none⟩=false/\w.frozen? ⟨g,5,none⟩=false/\w.frozen? ⟨g,6,none⟩=false/\w.frozen? ⟨g,7,none⟩=false/\w.frozen? ⟨g,8,none⟩=false:=
 ⟨nine h,oJ h⟩
variable {fn:Func} {R:Ending->World->Prop} {W:World} {act:Act}
theorem Gu {u0 u1 u2 u3 u4 u5 u6 u7 u8:Value} (hb:W.heap[g]?=some (.cells #[u0,u1,u2,u3,u4,u5,u6,u7,u8] 39 (0,0))):(((((((((W.setCell ⟨g,0,none⟩ v0).setCell ⟨g,1,none⟩ v1).setCell ⟨g,2,none⟩ v2).setCell ⟨g,3,none⟩ v3).setCell ⟨g,4,none⟩ v4).setCell ⟨g,5,none⟩ v5).setCell ⟨g,6,none⟩ v6).setCell ⟨g,7,none⟩ v7).setCell ⟨g,8,none⟩ v8).heap[g]?=some (.cells #[v0,v1,v2,v3,v4,v5,v6,v7,v8] 39 (0,0))/\aA [g] W (((((((((W.setCell ⟨g,0,none⟩ v0).setCell ⟨g,1,none⟩ v1).setCell ⟨g,2,none⟩ v2).setCell ⟨g,3,none⟩ v3).setCell ⟨g,4,none⟩ v4).setCell ⟨g,5,none⟩ v5).setCell ⟨g,6,none⟩ v6).setCell ⟨g,7,none⟩ v7).setCell ⟨g,8,none⟩ v8):=
 ⟨GR.setW_blk [v0,v1,v2,v3,v4,v5,v6,v7,v8] (o:=0) (xs:=[u0,u1,u2,u3,u4,u5,u6,u7,u8]) hb,gB [v0,v1,v2,v3,v4,v5,v6,v7,v8] W 0⟩
theorem azP {u0 u1 u2 u3 u4 u5 u6 u7 u8:Value} {c:Code} {Q:Exit->Act->World->Prop} (hb:W.heap[g]?=some (.cells #[u0,u1,u2,u3,u4,u5,u6,u7,u8] 39 (0,0))) (h:∀X,X.heap[g]?=some (.cells #[v0,v1,v2,v3,v4,v5,v6,v7,v8] 39 (0,0))->aA [g] W X->c.wp Tryz.prog Q act X):c.wp Tryz.prog Q act (((((((((W.setCell ⟨g,0,none⟩ v0).setCell ⟨g,1,none⟩ v1).setCell ⟨g,2,none⟩ v2).setCell ⟨g,3,none⟩ v3).setCell ⟨g,4,none⟩ v4).setCell ⟨g,5,none⟩ v5).setCell ⟨g,6,none⟩ v6).setCell ⟨g,7,none⟩ v7).setCell ⟨g,8,none⟩ v8):=
 h _ (Gu hb).1 (Gu hb).2
theorem pU {p:Nat} (hf:fn.results=#[.cell p 39]) (hp:act.eval (.tmp p)= .pointer (some ⟨g,0,none⟩)) (hd:act.defers=[]) (hb:W.heap[g]?=some (.cells kR 39 (0,0)))
 (h:∀W',W'.heap[g]?=some (.cells #[v0,v1,v2,v3,v4,v5,v6,v7,v8] 39 (0,0))->aA [g] W W'->(∀x,x≠g->W'.heap[x]?=W.heap[x]?)->W.heap.size=W'.heap.size->R (.returned (.agg #[v0,v1,v2,v3,v4,v5,v6,v7,v8])) W'):bodyPost Tryz.prog fn R .ret act (((((((((W.setCell ⟨g,0,none⟩ v0).setCell ⟨g,1,none⟩ v1).setCell ⟨g,2,none⟩ v2).setCell ⟨g,3,none⟩ v3).setCell ⟨g,4,none⟩ v4).setCell ⟨g,5,none⟩ v5).setCell ⟨g,6,none⟩ v6).setCell ⟨g,7,none⟩ v7).setCell ⟨g,8,none⟩ v8):=by
 obtain⟨e,k⟩:=Gu (v0:=v0) (v1:=v1) (v2:=v2) (v3:=v3) (v4:=v4) (v5:=v5) (v6:=v6) (v7:=v7) (v8:=v8) hb;have hs:∀x,x≠g->(((((((((W.setCell ⟨g,0,none⟩ v0).setCell ⟨g,1,none⟩ v1).setCell ⟨g,2,none⟩ v2).setCell ⟨g,3,none⟩ v3).setCell ⟨g,4,none⟩ v4).setCell ⟨g,5,none⟩ v5).setCell ⟨g,6,none⟩ v6).setCell ⟨g,7,none⟩ v7).setCell ⟨g,8,none⟩ v8).heap[x]?=W.heap[x]?:=λx hx=>GR.setW_other hx [v0,v1,v2,v3,v4,v5,v6,v7,v8] (o:=0)
 have hz:W.heap.size=(((((((((W.setCell ⟨g,0,none⟩ v0).setCell ⟨g,1,none⟩ v1).setCell ⟨g,2,none⟩ v2).setCell ⟨g,3,none⟩ v3).setCell ⟨g,4,none⟩ v4).setCell ⟨g,5,none⟩ v5).setCell ⟨g,6,none⟩ v6).setCell ⟨g,7,none⟩ v7).setCell ⟨g,8,none⟩ v8).heap.size:=(Gt [v0,v1,v2,v3,v4,v5,v6,v7,v8] W 0).symm;open aog in exact ajZ
theorem kC {p q:Nat} {u1:Value} (hf:fn.results=#[.cell p 39,.tmp q]) (hp:act.eval (.tmp p)= .pointer (some ⟨g,0,none⟩)) (hq:act.eval (.tmp q)=u1) (hd:act.defers=[]) (hb:W.heap[g]?=some (.cells kR 39 (0,0)))
 (h:∀W',W'.heap[g]?=some (.cells #[v0,v1,v2,v3,v4,v5,v6,v7,v8] 39 (0,0))->aA [g] W W'->R (.returned (.tuple #[.agg #[v0,v1,v2,v3,v4,v5,v6,v7,v8],u1])) W'):bodyPost Tryz.prog fn R .ret act (((((((((W.setCell ⟨g,0,none⟩ v0).setCell ⟨g,1,none⟩ v1).setCell ⟨g,2,none⟩ v2).setCell ⟨g,3,none⟩ v3).setCell ⟨g,4,none⟩ v4).setCell ⟨g,5,none⟩ v5).setCell ⟨g,6,none⟩ v6).setCell ⟨g,7,none⟩ v7).setCell ⟨g,8,none⟩ v8):=by
 obtain⟨e,k⟩:=Gu (v0:=v0) (v1:=v1) (v2:=v2) (v3:=v3) (v4:=v4) (v5:=v5) (v6:=v6) (v7:=v7) (v8:=v8) hb;open aof in exact ajZ
theorem eH {p q r:Nat} {u1 u2:Value} (hf:fn.results=#[.cell p 39,.tmp q,.tmp r]) (hp:act.eval (.tmp p)= .pointer (some ⟨g,0,none⟩)) (hq:act.eval (.tmp q)=u1) (hr:act.eval (.tmp r)=u2) (hd:act.defers=[]) (hb:W.heap[g]?=some (.cells kR 39 (0,0)))
 (h:∀W',W'.heap[g]?=some (.cells #[v0,v1,v2,v3,v4,v5,v6,v7,v8] 39 (0,0))->aA [g] W W'->R (.returned (.tuple #[.agg #[v0,v1,v2,v3,v4,v5,v6,v7,v8],u1,u2])) W'):bodyPost Tryz.prog fn R .ret act (((((((((W.setCell ⟨g,0,none⟩ v0).setCell ⟨g,1,none⟩ v1).setCell ⟨g,2,none⟩ v2).setCell ⟨g,3,none⟩ v3).setCell ⟨g,4,none⟩ v4).setCell ⟨g,5,none⟩ v5).setCell ⟨g,6,none⟩ v6).setCell ⟨g,7,none⟩ v7).setCell ⟨g,8,none⟩ v8):=by
 obtain⟨e,k⟩:=Gu (v0:=v0) (v1:=v1) (v2:=v2) (v3:=v3) (v4:=v4) (v5:=v5) (v6:=v6) (v7:=v7) (v8:=v8) hb;open aoe in exact ajZ
end
end Go.Proofs.YtbolgdleijjgfaaGreatDoor
