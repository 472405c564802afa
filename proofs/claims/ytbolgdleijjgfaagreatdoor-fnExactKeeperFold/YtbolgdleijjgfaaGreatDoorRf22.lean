/- Parts. -/
import Derived.Test.YtbolgdleijjgfaaGreatDoorRf13
import Derived.Test.YtbolgdleijjgfaaGreatDoorRf17
namespace Go.Proofs.YtbolgdleijjgfaaGreatDoor
open Go.Proofs.Tryz
set_option maxHeartbeats 4000000
set_option maxRecDepth 100000
open Go.RowKit
open Mth
theorem YC (a:Option Addr) (cap:Nat) (l:List Int) (x:Int) (w:World) (hl:l.length<=1048600) (ha:bH w a l):
 Calls prog 254 #[.slice a l.length cap,.int .i64 x] w λe w'=>(∃i:Int,e= .returned (.int .i64 i)/\decide (0<=i)=hasB l x)/\w=w':=by
 have HA:=Hq ha;clear ha;go_in
 go_wp2_with fail;go_loop [8] (λi=>∃k:Nat,k<=l.length/\i= .int .i64 k/\hasB (l.take k) x=false) (λi=>l.length - (intOf i).toNat)
 case atStart=>exact⟨0,aE7 _,rfl,rfl⟩
 case round=>
  obtain⟨k,hk,rfl,hno⟩:=hrel;have HN:=Hq hno;clear hno;by_cases hlt:k < l.length
  .obtain⟨g,off,rfl,hgw,q0⟩:=bH.one HA k hlt;by_cases hx:l[k]=x
   .have HY:=Hq (has_yes l x k hlt hx);rw [hx] at q0;clear hx;go_wp2_with fail;go_ret;exact⟨⟨k,rfl,by rw [ah HY];simp⟩,rfl⟩
   .have HS:=Hq (has_snoc l x k hlt);rw [aES hx] at HS;have hx':¬(x=l[k]):=λh=>hx h.symm
    exact ahS
  .open amI in exact uI
theorem Mq (a:Option Addr) (cap:Nat) (l:List Int) (x:Int) (w:World) (hl:l.length<=1048600) (ha:bH w a l):
 Calls prog 226 #[.slice a l.length cap,.int .i64 x] w λe w'=>e= .returned (.bool (hasB l x))/\w=w':=by
 have HI:=Hq (YC a cap l x w hl ha);clear ha;go_in
 go_wp2_with fail;refine HI.mono ?_;rintro e w1 ⟨⟨i,rfl,hi⟩,rfl⟩;have HD:=Hq hi;clear hi;go_wp2_with fail;go_ret;exact⟨aF HD,rfl⟩
theorem Cr (n:Nd) (A:bq) (x:Int) (w:World) (hl:n.kids.length<=1048600) (ha:bH w A.k n.kids):
 Calls prog 206 #[gU n A,.int .i64 x] w (dU w (.bool (hasB n.kids x))):=by
 have HH:=Hq (Mq A.k A.ck n.kids x (w.alloc (.cells (dD n A) 39)) hl (GR.At.below ha (au w _)));clear ha;go_in
 go_wp2_with (go_at_call 226;refine HH.mono ?_;rintro e w1 ⟨rfl,rfl⟩)
 go_ret;exact⟨rfl,au w _⟩
def Mth.nearI (n:Nd) (x:Int):Bool:=uY x&&(decide (x=n.par)||hasB n.kids x)
theorem Mth.near_same {n:Nd} (h:eD n=true) (x:Int):nearI n x=dY n x:=by
 obtain⟨h1,_,h3⟩:=qV h
 have hp:n.par<=29:=by
  unfold eD at h;simp only[aEX] at h;exact(aFa h.1.1.1.2).2
 unfold nearI dY;cases hh:hasB n.kids x
 .simp only[Bool.or_false];by_cases hx:x=n.par
  .by_cases h0:0<=x
   .simp[uY,hx];omega
   .simp[uY,hx];omega
  .simp[hx]
 .have h2:=h1 x ((Au _ _).1 hh);unfold kU at h2;simp only[aEX] at h2;rw [h2.1.1];simp
theorem P8 (n:Nd) (A:bq) (x:Int) (w:World) (hl:n.kids.length<=1048600) (ha:bH w A.k n.kids):
 Calls prog 189 #[gU n A,.int .i64 x] w (dU w (.bool (nearI n x))):=by
 have HK:=Hq (Cr n A x (w.alloc (.cells (dD n A) 39)) hl (GR.At.below ha (au w _)));clear ha;cases h0:uY x
 .have HN:=Hq (show nearI n x=false by simp[nearI,h0]);have HA:=Hq (λw1=>isNode x false w1 h0);clear h0;exact ais
 .have HA:=Hq (λw1=>isNode x true w1 h0);by_cases h1:x=n.par
  .have HN:=Hq (show nearI n x=true by unfold nearI;rw [h0,aET h1];rfl);have h2:(x == n.par)=true:=Abb
   clear h1 h0;exact ais
  .have HN:=Hq (show nearI n x=hasB n.kids x by simp[nearI,h1,h0]);have h2:(x == n.par)=false:=Abb
   clear h1 h0;go_in
   go_wp2_with (first|(go_at_call 187;refine(HA _).mono ?_;rintro e w1 ⟨rfl,rfl⟩)|(go_at_call 206;refine HK.mono ?_;rintro e w2 ⟨rfl,hb2⟩))
   go_ret;exact⟨aF HN.symm,(au w _).trans (hb2.mono Aac)⟩
namespace Mth
def upTo (n:Nat):List Int:=(List.range n).map Int.ofNat
theorem adL (n:Nat):(upTo n).Pairwise (· < ·):=by
 unfold upTo;rw [List.pairwise_map];exact List.pairwise_lt_range.imp (λ{a b} h=>by show(a:Int) < (b:Int);omega)
theorem adM (n:Nat) (x:Int):x∈upTo n↔0<=x/\x < n:=by
 unfold upTo;rw [aGq];constructor
 .rintro⟨a,ha,rfl⟩;have:=aFU.1 ha;show 0<=(a:Int)/\(a:Int) < n
  omega
 .intro h;exact⟨x.toNat,aFU.2 Aaa,by show((x.toNat:Nat):Int)=x;omega⟩
theorem acC {id par:Int} {l:List Int} (h:ig (kU id par) iR l=true):l.length<=30:=by
 obtain⟨h1,h2⟩:=(uL (r:=iR) nR).1 h
 have h3:=akm (upTo 30) l (h2.imp (λ{a b} h=>aFa h)) (adL 30) (λx hx=>by
  have h4:=h1 x hx
  unfold kU uY at h4
  simp only[aEX,aFf] at h4
  rw [adM]
  omega)
 simpa [upTo] using h3
def Gp (n:Nd):Bool:=uY n.id&&(decide (n.par= -1)||(uY n.par&&decide (n.par≠n.id)))&&ig (kU n.id n.par) iR n.kids
theorem UG (n:Nd):Gp n=eD n:=by
 unfold Gp eD;cases hc:ig (kU n.id n.par) iR n.kids
 .simp
 .rw [aET (acC hc)];cases hi:uY n.id
  .simp
  .have h0:0<=n.id/\n.id<=29:=aFa hi;by_cases h1:n.par= -1
   .have h2:n.par≠n.id:=Aaa
    rw [aET h1,aET h2,aET (show -1<=n.par/\n.par<=29 by omega)];rfl
   .rw [aES h1];unfold uY;by_cases h2:0<=n.par/\n.par<=29
    .rw [aET h2,aET (show -1<=n.par/\n.par<=29 by omega)];simp
    .rw [aES h2,aES (show¬(-1<=n.par/\n.par<=29) by omega)];simp
theorem afk {id par x:Int} (h:kU id par x=true): -1 < x:=by
 unfold kU uY at h;exact abd
theorem ab8 {low x:Int} (h:Ed low x=true):low - 1 < x:=by
 unfold Ed at h;simp only[aFf] at h;omega
theorem Xc {n:Nd} {s:jI} (h:wU n s=true):0 < s.i:=by
 unfold wU at h;exact abd
theorem Xg {n:Nd} {s:Rq} (h:tY n s=true):n.old < s.no:=by
 unfold tY at h;exact abd
end Mth
theorem Ui (n:Nd) (A:bq) (w:World) (hl:n.kids.length<=1048600) (ha:bH w A.k n.kids):
 Calls Tryz.prog 168 #[gU n A] w (dU w (.bool (Gp n))):=by
 have HA:=Hq ha;have HD:Hid (Gp n=(uY n.id&&(decide (n.par= -1)||(uY n.par&&decide (n.par≠n.id)))&&ig (kU n.id n.par) iR n.kids)):=rfl;have yC:=Hq (λk h=>qh (kU n.id n.par) iR n.kids k h);have jP:=Hq (λk h=>Ah (kU n.id n.par) (λx=>x) (-1) (λx=>afk) n.kids k h);have zI:=Hq (λk h=>uV (λx:Int=>x) (-1) n.kids k h);have Vv:=Hq (λx=>show kU n.id n.par x=(uY x&&decide (x≠n.id)&&decide (x≠n.par)) from rfl);have jO:=Hq (aEP w (.cells (dD n A) 39));generalize Gp n=TT at *;generalize kU n.id n.par=KB at *;open anT in exact vY
theorem Qc (s:Sn) (b:Option Addr) (c:Nat) (w:World) (hl:s.ids.length<=1048600) (ha:bH w b s.ids):
 Calls Tryz.prog 192 #[.agg #[.int .i64 s.f,.int .i64 s.l,.slice b s.ids.length c]] w (dU w (.bool (wD s))):=by
 obtain⟨fr,lo,ids⟩:=s;dsimp only at hl ha ⊢;have HA:=Hq ha;have HD:Hid (wD ⟨fr,lo,ids⟩=(fJ lo&&decide (ids.length<=40)&&ig (Ed lo) iR ids)):=rfl;have yC:=Hq (λk h=>qh (Ed lo) iR ids k h);have jP:=Hq (λk h=>Ah (Ed lo) (λx=>x) (lo - 1) (λx=>ab8) ids k h);have zI:=Hq (λk h=>uV (λx:Int=>x) (lo - 1) ids k h);have HLB:=Hq (λk (h:ig (Ed lo) iR (ids.take k)=true)=>Cb (key:=λx=>x) (y0:=lo - 1) (λx=>ab8) h);have Vv:=Hq (λx=>show Ed lo x=decide (lo<=x/\x<=1000000000) from rfl);generalize wD ⟨fr,lo,ids⟩=TT at *;generalize Ed lo=KB at *;clear ha;cases h1:fJ lo
 case' false=>
  have HP:Hid (TT=false):=by rw [ah HD,h1];rfl
  have H1:=Hq (λw1=>aO lo false w1 h1);exact aii
 have H1:=Hq (λw1=>aO lo true w1 h1);have hlo:1<=lo/\lo<=1000000000:=aFa h1;obtain⟨hlo1,hlo2⟩:=hlo;by_cases h2:ids.length<=40
 case' neg=>
  have HP:=Hq (show TT=false by rw [ah HD,aES h2];simp);have hb2:decide ((40:Int) < ids.length)=true:=aET Aaa;exact aii
 have hb2:decide ((40:Int) < ids.length)=false:=aES Aaa;have nH:Hid (TT=ig KB iR ids):=by rw [ah HD,h1,aET h2];rfl
 clear HD h1;go_in
 go_wp2_with (go_at_call 170;refine(H1 _).mono ?_;rintro e w1 ⟨rfl,rfl⟩)
 go_loop [3,22] (λlv i=>∃(k:Nat) (y:Int),k<=ids.length/\i= .int .i64 k/\lv= .int .i64 y/\y=yK (λx=>x) (lo - 1) (ids.take k)/\ig KB iR (ids.take k)=true) (λ_ i=>ids.length - (intOf i).toNat)
 case atStart=>exact⟨0,lo - 1,aE7 _,rfl,Aaf,rfl,rfl⟩
 case round=>
  obtain⟨k,y,hk,rfl,rfl,hy,hall⟩:=hrel;have jA:=Hq hall;have HY:=Hq hy;have hy0:lo - 1<=y:=by rw [hy];exact HLB k hall
  clear hall hy;by_cases hlt:k < ids.length
  case' neg=>
   have hke:k=ids.length:=Aaa
   subst hke;have hnlt:decide ((ids.length:Int) < (ids.length:Int))=false:=Aac
   have HF:Hid (TT=true):=by
    exact Wo
   go_wp2_with fail;go_ret;exact⟨aF HF.symm,au w _⟩
  obtain⟨g,off,rfl,hgw,q0⟩:=bH.one (GR.At.below HA (au w (.cells #[.int .i64 fr,.int .i64 lo,.slice b ids.length c] 130))) k hlt;have HBAD:Hid (ig KB iR (ids.take (k+1))=false->TT=false):=λh=>nH.trans (yC _ h)
  have iJ:Hid (ig KB iR (ids.take (k+1))=(KB ids[k]&&decide (y < ids[k]))):=by
   exact ah5
  have zT:=Hq (zI k hlt);have zO:=Hq (Vv ids[k]);clear jP zI yC Vv HLB;generalize ids[k]=x at *;by_cases h2:y < x
  case' neg=>
   have hb3:decide (x<=y)=true:=aET Aaa;have HV:=Hq (HBAD (by rw [ah iJ,ah zO];rw [aES h2];simp));clear HBAD iJ zO;go_wp2_with (fail)
   go_ret;exact⟨aF HV.symm,au w _⟩
  have hb3:decide (x<=y)=false:=aES Aaa;cases h3:rM x
  case' false=>
   have H3:=Hq (λw1=>kS x false w1 h3);have h4:¬(0<=x/\x<=1000000000):=of_decide_eq_false h3;have HV:=Hq (HBAD (by rw [ah iJ,ah zO];rw [aES (show¬(lo<=x/\x<=1000000000) by omega)];rfl));clear HBAD iJ zO h3 h4;go_wp2_with (go_at_call 193;refine(H3 _).mono ?_;rintro e w1 ⟨rfl,rfl⟩)
   go_ret;exact⟨aF HV.symm,au w _⟩
  have H3:=Hq (λw1=>kS x true w1 h3);have h4:0<=x/\x<=1000000000:=aFa h3;have HV:=Hq (show ig KB iR (ids.take (k+1))=true by rw [ah iJ,ah zO,aET (show lo<=x/\x<=1000000000 by omega),aET h2];rfl);clear HBAD iJ zO h3 h4;go_wp2_with (go_at_call 193;refine(H3 _).mono ?_;rintro e w1 ⟨rfl,rfl⟩)
  exact aiE
theorem YF (n:Nd) (A:bq) (w:World) (hz:eG n 1048600) (hp:eD n=true) (ha:cK w A n):
 Calls Tryz.prog 171 #[gU n A] w (dU w (.bool (tJ n))):=by
 have HA:=Hq ha;have HD:Hid (tJ n=(decide (n.out.length<=40)&&ig (wU n) (λs t=>iR s.i t.i) n.out)):=rfl;have yC:=Hq (λk h=>qh (wU n) (λs t=>iR s.i t.i) n.out k h);have jP:=Hq (λk h=>Ah (wU n) (λs=>s.i) 0 (λx=>Xc) n.out k h);have zI:=Hq (λk h=>uV (λs:jI=>s.i) 0 n.out k h);have HLB:=Hq (λk (h:ig (wU n) (λs t=>iR s.i t.i) (n.out.take k)=true)=>Cb (key:=λs=>s.i) (y0:=0) (λx=>Xc) h);have Vv:=Hq (λs=>show wU n s=(decide (1<=s.i/\s.i<=n.next - 1)&&dY n s.t&&keyOk s.k.data.toList&&fJ s.n) from rfl)
 have R6:Hid (∀x w1,aH w w1->Calls Tryz.prog 189 #[gU n A,.int .i64 x] w1 (dU w1 (.bool (dY n x)))):=λx w1 hb=>by
  have h:=P8 n A x w1 hz.k (ha.below hb).k
  rw [near_same hp] at h
  exact h
 have hlo:=hz.o;have jO:=Hq (aEP w (.cells (dD n A) 39));generalize tJ n=TT at *;generalize wU n=KB at *;generalize dY n=NN at *;clear ha hz hp;open anY in exact vY
theorem Uj (n:Nd) (A:bq) (w:World) (hz:eG n 1048600) (ha:cK w A n):
 Calls Tryz.prog 173 #[gU n A] w (dU w (.bool (iw n))):=by
 have HA:=Hq ha;have HD:Hid (iw n=(rM n.old&&decide (n.reqs.length<=30)&&ig (tY n) (λs t=>iR s.no t.no) n.reqs)):=rfl;have yC:=Hq (λk h=>qh (tY n) (λs t=>iR s.no t.no) n.reqs k h);have jP:=Hq (λk h=>Ah (tY n) (λs=>s.no) n.old (λx=>Xg) n.reqs k h);have zI:=Hq (λk h=>uV (λs:Rq=>s.no) n.old n.reqs k h);have HLB:=Hq (λk (h:ig (tY n) (λs t=>iR s.no t.no) (n.reqs.take k)=true)=>Cb (key:=λs=>s.no) (y0:=n.old) (λx=>Xg) h);have Vv:=Hq (λs=>show tY n s=(decide (n.old+1<=s.no/\s.no<=1000000000)&&keyOk s.k.data.toList&&fJ s.n&&decide (0<=s.s/\s.s<=2)) from rfl);have hlo:=hz.r;have jO:=Hq (aEP w (.cells (dD n A) 39));generalize iw n=TT at *;generalize tY n=KB at *;clear ha hz;open anX in exact vY
theorem Pw (l:List Int):GR.flat bg l=l.map (Value.int .i64):=by
 induction l with
 |nil=>rfl
 |cons x l ih=>rw [GR.flat_cons,ih];rfl
theorem TR:∀(y:Int),∀u∈bg y,u.oneCell'=true:=by
 intro y u hu;simp only[bg,aFd,aFW,or_false] at hu;subst hu;rfl
theorem Cc (a:Option Addr) (cap:Nat) (l:List Int) (w:World) (hl:l.length<=1048600) (ha:bH w a l):
 Calls Tryz.prog 105 #[.slice a l.length cap] w λe w'=>∃v,e= .returned v/\w'.ownsRow w.heap.size 3 1 v l.length (GR.flat bg l)/\aH w w':=by
 obtain⟨i0,hi,hz0,hz1,hz2⟩:=aFt xL;have q22:∀(w:World) (a:Option Addr) (n c n' c':Nat),(binOp .eql 22 (.slice a n c) (.slice none n' c')).run Tryz.prog w= .ok (.bool a.isNone) w:=λw a n c n' c'=>aGi w _ _ a n c n' c' Tryz.underlying22
 have hlit:(w.alloc (.cells #[] 3)).ownsRow w.heap.size 3 1 (.slice (some ⟨w.heap.size,0,none⟩) 0 0) 0 []:=aFC (base:=w.heap.size) (e:=3) (size:=1) w #[] 0 (aER _) Aae rfl;cases a with
 |none=>
  have hl0:l=[]:=GR.none_nil ha;subst hl0;clear ha hlit;go_in
  exact Tk
 |some x=>
  have HN:=Hq (GR.At.news aX Aaa (GR.At.below ha (au w (.cells #[] 3))));clear ha;go_in
  go_wp2_with (at_builtin;refine aFL _ rfl _ _ 22 rfl w.heap.size 3 i0 (.int .i64 0) 1 8 Tryz.underlying22 hi hz0 hz1 hz2 rfl Aae _ 0 [] rfl hlit x l.length cap (GR.flat bg l) rfl ?c0 ?c1 ?c2 ?c3 ?c4 ?c5 ?_)
  case c0=>exact GR.flat_length bg 1 aX l
  case c1=>exact HN
  case c2=>exact GR.flat_oneCell TR l
  case c3=>unfold maxLen;omega
  case c4=>omega
  case c5=>simp
  intro v' w1 hown' hgrow _;have HO:=Hq (show w1.ownsRow w.heap.size 3 1 v' l.length (GR.flat bg l) by simpa using hown');exact XW
theorem afJ (B:Nat) (v:Value) (l:List Int) (w:World) (hl:l.length<=1048602) (hB:B<=w.heap.size) (h:w.ownsRow B 3 1 v l.length (GR.flat bg l)):
 Calls Tryz.prog 209 #[v] w λe w'=>e= .returned (.tuple #[])/\w'.ownsRow B 3 1 v l.length (GR.flat bg (ZI l))/\Below B w w':=by
 rw [Pw] at h ⊢;rcases h.2 with⟨rfl,hn⟩|⟨g,cap,cur,rfl,hg,hblk,h1,h2,h3,h4⟩
 .have hl0:l=[]:=aFk hn;subst hl0;refine(AnyM.slices_Sort_int_none Tryz.sortL none 0 w).mono ?_;rintro e w' ⟨rfl,rfl⟩;refine⟨rfl,?_,aE3 _ _⟩;simpa [ZI] using World.ownsRow_nil _ _ _ _
 .rw [Nat.mul_one] at h4;have hH:=holds_of_blockI hblk h4;refine(AnyM.slices_Sort_int Tryz.sortL g 0 cap l w hH (ay hblk) Aaa).mono ?_;rintro e w' ⟨rfl,n,os,rfl⟩;have hs:(ZI l).length=l.length:=rz l;have h5:=ownsRow_sortedI (n:=n) (os:=os) (ts:=ZI l) hs hg hblk h1 h2 h3;exact⟨rfl,h5,(aE3 B w).grown (grownBy_sortedI _) hB (λk hk=>by cases hk;exact hg)⟩
theorem FU (n:Nd) (A:bq) (w:World) (hl:n.kids.length<=1048600) (ha:bH w A.k n.kids):
 Calls Tryz.prog 191 #[gU n A] w λe w'=>∃v,e= .returned v/\w'.ownsRow w.heap.size 3 1 v (rQ n).length (GR.flat bg (ZI (rQ n)))/\aH w w':=by
 obtain⟨i0,hi,hz0,hz1,hz2⟩:=aFt xL;have HC:=Hq (Cc A.k A.ck n.kids (w.alloc (.cells (dD n A) 39)) hl (GR.At.below ha (au w _)));have jO:=Hq (aEP w (.cells (dD n A) 39));have SA:Hid ((n.par= -1->rQ n=n.kids)/\(¬n.par= -1->rQ n=n.kids++[n.par])):=⟨λh=>by unfold rQ;rw [aFc h,aF4],λh=>by unfold rQ;rw [aE2 h]⟩;have hln:(rQ n).length<=1048602:=by unfold rQ;split<;>simp<;>omega
 generalize rQ n=NB at *;open anZ in exact vY
namespace Mth
theorem Zw {l:List Sn} {F:List Int} {k:Nat} (hk:k < l.length) (hF:F.length=l.length) (h1:(l.take k).map (·.f)=F.take k) (h2:(l.take k).all wD=true) (h3:(l[k]).f=F[k]' Aaa) (h4:wD l[k]=true):
 (l.take (k+1)).map (·.f)=F.take (k+1)/\(l.take (k+1)).all wD=true:=by
 rw [aE0 hk,aE0 Aaa,List.map_append,h1,List.all_append,h2];simp[h3,h4]
theorem Zu {l:List Sn} {F:List Int} {k:Nat} (hk:k < l.length) (hF:F.length=l.length) (h3:¬(l[k]).f=F[k]' Aaa):¬l.map (·.f)=F:=by
 intro h;apply h3
 subst h;simp
theorem Zv {l:List Sn} {k:Nat} (hk:k < l.length) (h4:wD l[k]=false):l.all wD=false:=by
 rw [List.all_eq_false];exact⟨l[k],aE8 hk,by rw [h4];simp⟩
end Mth
theorem ajg (s:Sn) (b:Option Addr) (c:Nat) (r:Bool) (wc:World) (hl:s.ids.length<=1048600) (ha:bH wc b s.ids) (hr:wD s=r):∀d os,Calls Tryz.prog 192 #[.agg #[.int .i64 s.f,.int .i64 s.l,.slice b s.ids.length c]] (Sort.grow (redrawn wc d) os) λe w''=>e= .returned (.bool r)/\∃p:Regrown,w''=Sort.grow (redrawn wc p.d) p.os:=λd os=>by
 rw [<-hr];exact aFr (Qc s b c _ hl (GR.At.below ha (aFl wc d os)))
theorem Uk (n:Nd) (A:bq) (w:World) (hz:eG n 1048600) (hp:eD n=true) (ha:cK w A n):
 Calls Tryz.prog 172 #[gU n A] w (dU w (.bool (oZ n))):=by
 have HA:=Hq ha;have HD:=Hq (xX hp);have HSK:=Hq hz.sk;have SA:=Hq (FU n A (w.alloc (.cells (dD n A) 39)) hz.k (GR.At.below ha.k (au w _)));have jO:=Hq (aEP w (.cells (dD n A) 39));have hls:=hz.s;have hln:(rQ n).length<=1048602:=by have:=hz.k;unfold rQ;split<;>simp<;>omega
 have zI:=Hq (rz (rQ n));generalize ZI (rQ n)=F at *;generalize (rQ n).length=NL at *;generalize oZ n=TT at *;clear ha hz hp;open an1 in exact vY
theorem yY (n:Nd) (A:bq) (w:World) (hz:eG n 1048600) (ha:cK w A n):
 Calls Tryz.prog 143 #[gU n A] w (dU w (.bool (dV n))):=by
 have Oc:Hid (∀w1,aH w w1->Calls Tryz.prog 168 #[gU n A] w1 (dU w1 (.bool (eD n)))):=λw1 hb=>by
  have h:=Ui n A w1 hz.k (ha.below hb).k
  rw [UG] at h
  exact h
 have HPU:=Hq (λw1 (hb:aH w w1)=>uS A.p A.cp n.pu w1 hz.p (ha.below hb).p);have HOT:=Hq (λw1 (hb:aH w w1) (hp:eD n=true)=>YF n A w1 hz hp (ha.below hb));have HSE:=Hq (λw1 (hb:aH w w1) (hp:eD n=true)=>Uk n A w1 hz hp (ha.below hb));have HRE:=Hq (λw1 (hb:aH w w1)=>Uj n A w1 hz (ha.below hb));have HD:Hid (dV n=(eD n&&jv n.pu&&oZ n&&fJ n.next&&tJ n&&iw n)):=rfl;have jO:=Hq (aEP w (.cells (dD n A) 39));generalize eD n=PL at *;generalize jv n.pu=PS at *;generalize oZ n=TD at *;generalize tJ n=OT at *;generalize iw n=RQ at *;generalize dV n=TT at *;clear ha hz;open an0 in exact vY
open Go.WideShapes
open Go.ChangeShapes
theorem iM:Tryz.prog.cellsOf 3=1:=Aab
theorem lT:Tryz.prog.cellsOf 9=1:=Aab
section
variable {H:Type} {enc:TypeId×Value->H} {W:World}
theorem nS {α:Type} {en:α->List Value} {sz:Nat} {ok:α->Prop} {t e:TypeId} {fuel:Nat} {cs:List Value} {x:DataW H×List MemPlace} (ht:Tryz.prog.underlying t=some (.slice e)) (hc:Tryz.prog.cellsOf e=sz) (hsz:0 < sz) (hs:∀y,(en y).length=sz)
 (hel:∀fuel cs' x,cs'.length=sz->DataW.trod enc Tryz.prog W 0 (λ_=>true) true fuel e cs'=some x->∃y,ok y/\cs'=en y)
 (h:DataW.trod enc Tryz.prog W 0 (λ_=>true) true fuel t cs=some x):
 ∃(a:Option Addr) (cap:Nat) (l:List α),cs=[.slice a l.length cap]/\l.length<=maxLen/\(∀y∈l,ok y)/\GR.At en sz W a l:=by
 rcases Deep.open_slice ht h with⟨hcs,_⟩|⟨x,len,cap,m,n,D,Pl,hcs,_,hlc,hcm,hm,_,hcell⟩
 .exact⟨none,0,[],hcs,Aac,λp hp=>by simp at hp,λi hi=>Aau⟩
 .have hm':m=cap:=by rw [hm];simp
  have each:∀i,i < len->∃q:α,ok q/\∀j,j < sz->W.cell? (x.add (i*sz+j))=(en q)[j]?:=by
   intro i hi;obtain⟨cs',h1,h2⟩:=hcell i Aaa;rw [hc] at h1;obtain⟨_,hlen,hcc⟩:=World.cells?_some h1;obtain⟨y,hy,rfl⟩:=hel _ _ _ hlen h2;refine⟨y,hy,λj hj=>?_⟩;have e:=hcc j Aaa;rw [Deep.add_add] at e;exact e
  have hd:Nonempty α\/len=0:=by
   by_cases h0:len=0
   .exact .inr h0
   .obtain⟨q,_⟩:=each 0 Aaa;exact .inl ⟨q⟩
  rcases hd with d|d
  .obtain⟨q,hq⟩:∃q:Nat->α,∀i,i < len->ok (q i)/\∀j,j < sz->W.cell? (x.add (i*sz+j))=(en (q i))[j]?:=by
    exact⟨λi=>if hi:i < len then(each i hi).choose else Classical.choice d,λi hi=>by simp only[dif_pos hi];exact(each i hi).choose_spec⟩
   refine⟨some x,cap,(List.range len).map q,by rw [hcs];simp,Aah,λp hp=>?_,λi hi=>?_⟩
   .obtain⟨i,hi,rfl⟩:=aGq.1 hp;exact(hq i (aFU.1 hi)).1
   .have hi':i < len:=Aat
    obtain⟨b,off,spot⟩:=x;have h0:=(hq 0 Aaa).2 0 hsz;have hne:∃v,(en (q 0))[0]?=some v:=⟨_,aEV (by rw [hs];exact hsz)⟩;obtain⟨v0,hv0⟩:=hne;rw [hv0] at h0;have hspot:spot=none:=by simpa [Addr.add] using World.cell?_spot h0
    subst hspot;have h1:=(hq i hi').2;have ea:∀k:Nat,(⟨b,off,none⟩:Addr).add k=⟨b,off+k,none⟩:=λk=>by unfold Addr.add;split<;>simp_all
    have h3:=h1 0 hsz;rw [ea,aEV (by rw [hs];exact hsz)] at h3;refine⟨b,off,rfl,aFT _ _ h3,λj hj=>?_⟩;have h2:=h1 j hj;rw [ea] at h2;simpa using h2
  .subst d;exact⟨some x,cap,[],by rw [hcs];simp,Aac,λp hp=>by simp at hp,λi hi=>Aau⟩
theorem open_ints' {fuel:Nat} {cs:List Value} {x:DataW H×List MemPlace} (h:DataW.trod enc Tryz.prog W 0 (λ_=>true) true fuel 22 cs=some x):
 ∃(a:Option Addr) (cap:Nat) (l:List Int),cs=[.slice a l.length cap]/\l.length<=maxLen/\bH W a l:=by
 obtain⟨a,cap,l,h1,h2,_,h4⟩:=nS (en:=bg) (sz:=1) (ok:=λ_=>True) Tryz.underlying22 iM Aaa aX (λfuel cs' x _ h=>by
  obtain⟨n,q,_⟩:=aFg Tryz.underlying3 h
  exact⟨n,trivial,q⟩) h
 exact⟨a,cap,l,h1,h2,h4⟩
theorem M0 {fuel:Nat} {cs:List Value} {x:DataW H×List MemPlace} (h:DataW.trod enc Tryz.prog W 0 (λ_=>true) true fuel 23 cs=some x):
 ∃(a:Option Addr) (cap:Nat) (l:List Pu),cs=[.slice a l.length cap]/\l.length<=maxLen/\(∀y∈l,y.k.size<=maxLen)/\aG W a l:=
 nS (en:=fA) (sz:=4) (ok:=λy=>y.k.size<=maxLen) Tryz.underlying23 Aab Aaa aQ (λfuel cs' x hlen h=>by
  obtain⟨xs,k,_,_,_,hxl,hfl⟩:=aF9 Tryz.underlying133 h
  match xs,hxl,cs',hlen with
  |[y0,y1,y2,y3],_,[v0,v1,v2,v3],_=>
   have g0:=hfl 0 _ rfl
   have g1:=hfl 1 _ rfl
   have g2:=hfl 2 _ rfl
   have g3:=hfl 3 _ rfl
   simp[iM,lT] at g0 g1 g2 g3
   obtain⟨s0,q0,_,hs0⟩:=aGr Tryz.underlying9 g0
   obtain⟨n1,q1,_⟩:=aFg Tryz.underlying3 g1
   obtain⟨n2,q2,_⟩:=aFg Tryz.underlying3 g2
   obtain⟨n3,q3,_⟩:=aFg Tryz.underlying3 g3
   simp at q0 q1 q2 q3
   subst q0 q1 q2 q3
   exact⟨⟨s0,n1,n2,n3⟩,hs0,rfl⟩) h
theorem UE {fuel:Nat} {cs:List Value} {x:DataW H×List MemPlace} (h:DataW.trod enc Tryz.prog W 0 (λ_=>true) true fuel 24 cs=some x):
 ∃(a:Option Addr) (cap:Nat) (l:List jI),cs=[.slice a l.length cap]/\l.length<=maxLen/\(∀y∈l,y.k.size<=maxLen)/\SentAt W a l:=
 nS (en:=aM) (sz:=4) (ok:=λy=>y.k.size<=maxLen) Tryz.underlying24 Aab Aaa aT (λfuel cs' x hlen h=>by
  obtain⟨xs,k,_,_,_,hxl,hfl⟩:=aF9 Tryz.underlying136 h
  match xs,hxl,cs',hlen with
  |[y0,y1,y2,y3],_,[v0,v1,v2,v3],_=>
   have g0:=hfl 0 _ rfl
   have g1:=hfl 1 _ rfl
   have g2:=hfl 2 _ rfl
   have g3:=hfl 3 _ rfl
   simp[iM,lT] at g0 g1 g2 g3
   obtain⟨n0,q0,_⟩:=aFg Tryz.underlying3 g0
   obtain⟨n1,q1,_⟩:=aFg Tryz.underlying3 g1
   obtain⟨s2,q2,_,hs2⟩:=aGr Tryz.underlying9 g2
   obtain⟨n3,q3,_⟩:=aFg Tryz.underlying3 g3
   simp at q0 q1 q2 q3
   subst q0 q1 q2 q3
   exact⟨⟨n0,n1,s2,n3⟩,hs2,rfl⟩) h
theorem Za {fuel:Nat} {cs:List Value} {x:DataW H×List MemPlace} (h:DataW.trod enc Tryz.prog W 0 (λ_=>true) true fuel 26 cs=some x):
 ∃(a:Option Addr) (cap:Nat) (l:List Rq),cs=[.slice a l.length cap]/\l.length<=maxLen/\(∀y∈l,y.k.size<=maxLen)/\gB W a l:=
 nS (en:=aL) (sz:=4) (ok:=λy=>y.k.size<=maxLen) Tryz.underlying26 Aab Aaa aW (λfuel cs' x hlen h=>by
  obtain⟨xs,k,_,_,_,hxl,hfl⟩:=aF9 Tryz.underlying141 h
  match xs,hxl,cs',hlen with
  |[y0,y1,y2,y3],_,[v0,v1,v2,v3],_=>
   have g0:=hfl 0 _ rfl
   have g1:=hfl 1 _ rfl
   have g2:=hfl 2 _ rfl
   have g3:=hfl 3 _ rfl
   simp[iM,lT] at g0 g1 g2 g3
   obtain⟨n0,q0,_⟩:=aFg Tryz.underlying3 g0
   obtain⟨s1,q1,_,hs1⟩:=aGr Tryz.underlying9 g1
   obtain⟨n2,q2,_⟩:=aFg Tryz.underlying3 g2
   obtain⟨n3,q3,_⟩:=aFg Tryz.underlying3 g3
   simp at q0 q1 q2 q3
   subst q0 q1 q2 q3
   exact⟨⟨n0,s1,n2,n3⟩,hs1,rfl⟩) h
theorem Gg:Tryz.prog.cellsOf 22=1:=Aab
theorem Zb {fuel:Nat} {cs:List Value} {x:DataW H×List MemPlace} (h:DataW.trod enc Tryz.prog W 0 (λ_=>true) true fuel 25 cs=some x):
 ∃(a:Option Addr) (cap:Nat) (l:List Sn),cs=[.slice a l.length cap]/\l.length<=maxLen/\(∀y∈l,y.ids.length<=maxLen)/\iA W a l:=by
 obtain⟨a,cap,l,h1,h2,h3,h4⟩:=nS (en:=eX) (sz:=3) (ok:=λy=>∃b c,∃ids:List Int,y.v= .slice b ids.length c/\ids.length<=maxLen/\bH W b ids) Tryz.underlying25 Aab Aaa bE (λfuel cs' x hlen h=>by
  obtain⟨xs,k,_,_,_,hxl,hfl⟩:=aF9 Tryz.underlying138 h
  match xs,hxl,cs',hlen with
  |[y0,y1,y2],_,[v0,v1,v2],_=>
   have g0:=hfl 0 _ rfl
   have g1:=hfl 1 _ rfl
   have g2:=hfl 2 _ rfl
   simp[iM,Gg] at g0 g1 g2
   obtain⟨n0,q0,_⟩:=aFg Tryz.underlying3 g0
   obtain⟨n1,q1,_⟩:=aFg Tryz.underlying3 g1
   obtain⟨b,c,ids,q2,hi1,hi2⟩:=open_ints' g2
   simp at q0 q1 q2
   subst q0 q1 q2
   exact⟨⟨n0,n1,.slice b ids.length c⟩,⟨b,c,ids,rfl,hi1,hi2⟩,rfl⟩) h
 have hex:∀y:R3,∃s:Sn,y∈l->(s.f=y.f/\s.l=y.l/\∃b c,y.v= .slice b s.ids.length c/\s.ids.length<=maxLen/\bH W b s.ids):=λy=>by
  by_cases hy:y∈l
  .obtain⟨b,c,ids,e1,e2,e3⟩:=h3 y hy;exact⟨⟨y.f,y.l,ids⟩,λ_=>⟨rfl,rfl,b,c,e1,e2,e3⟩⟩
  .exact⟨default,λh=>absurd h hy⟩
 refine⟨a,cap,l.map (λy=>(hex y).choose),by rw [h1];simp,by simpa using h2,?_,?_⟩
 .intro s hs;obtain⟨y,hy,rfl⟩:=aGq.1 hs;obtain⟨_,_,b,c,_,e2,_⟩:=(hex y).choose_spec hy;exact e2
 .intro i hi;have hi':i < l.length:=Aat
  obtain⟨g,off,e,hg,hc⟩:=h4 i hi';have hsp:=(hex l[i]).choose_spec (aE8 hi');have hge:(l.map (λy=>(hex y).choose))[i]=(hex l[i]).choose:=Aac
  rw [hge];obtain⟨s1,s2,b,c,e1,e2,e3⟩:=hsp;refine⟨g,off,b,c,e,hg,?_,?_,?_,e3⟩
  .rw [s1];simpa using hc 0 Aaa
  .rw [s2];simpa [aFv] using hc 1 Aaa
  .rw [<-e1];simpa [aFv] using hc 2 Aaa
theorem afv:Tryz.prog.cellsOf 28=9:=Aab
theorem azj:Tryz.prog.cellsOf 23=1:=Aab
theorem azk:Tryz.prog.cellsOf 24=1:=Aab
theorem azl:Tryz.prog.cellsOf 25=1:=Aab
theorem azm:Tryz.prog.cellsOf 26=1:=Aab
end
end Go.Proofs.YtbolgdleijjgfaaGreatDoor
