/- Parts. -/
import Derived.Test.YtohmklmkjmlpjaaGreatDoorRc12
import Derived.Test.YtohmklmkjmlpjaaGreatDoorRc19
namespace Go.Proofs.YtohmklmkjmlpjaaGreatDoor
open Go.Proofs.Tryz
set_option maxHeartbeats 4000000
set_option maxRecDepth 100000
open Go.RowKit
open Mth
variable {n:Nd} {l:List Sn} {k:Nat} {id par:Int} {F:List Int}
theorem YC (a:Option Addr) (cap:Nat) (l:List Int) (x:Int) (w:World) (hl:l.length<=1048600) (ha:dH w a l):
 Calls prog 264 #[.slice a l.length cap,.int .i64 x] w λe w'=>(∃i:Int,e= .returned (.int .i64 i)/\decide (0<=i)=hasB l x)/\w=w':=by
 have HA:=Hq ha;clear ha;go_in
 go_wp2_with fail;go_loop [8] (λi=>∃k:Nat,k<=l.length/\i= .int .i64 k/\hasB (l.take k) x=false) (λi=>l.length - (intOf i).toNat)
 case atStart=>exact⟨0,aGB _,rfl,rfl⟩
 case round=>
  obtain⟨k,hk,rfl,hno⟩:=hrel;have HN:=Hq hno;clear hno;by_cases hlt:k < l.length
  .obtain⟨g,off,rfl,hgw,q0⟩:=dH.one HA k hlt;by_cases hx:l[k]=x
   .have HY:=Hq (has_yes l x k hlt hx);rw [hx] at q0;clear hx;go_wp2_with fail;go_ret;exact⟨⟨k,rfl,by rw [ah HY];simp⟩,rfl⟩
   .have HS:=Hq (has_snoc l x k hlt);rw [aGi hx] at HS;have hx':¬(x=l[k]):=λh=>hx h.symm
    exact aiF
  .open aoc in exact vT
theorem ME (a:Option Addr) (cap:Nat) (l:List Int) (x:Int) (w:World) (hl:l.length<=1048600) (ha:dH w a l):
 Calls prog 242 #[.slice a l.length cap,.int .i64 x] w λe w'=>e= .returned (.bool (hasB l x))/\w=w':=by
 have HI:=Hq (YC a cap l x w hl ha);clear ha;go_in
 go_wp2_with fail;refine HI.mono ?_;rintro e w1 ⟨⟨i,rfl,hi⟩,rfl⟩;have HD:=Hq hi;clear hi;go_wp2_with fail;go_ret;exact⟨aF HD,rfl⟩
theorem Cm (n:Nd) (A:bV) (x:Int) (w:World) (hl:n.kids.length<=1048600) (ha:dH w A.k n.kids):
 Calls prog 218 #[gP n A,.int .i64 x] w (dZ w (.bool (hasB n.kids x))):=by
 have HH:=Hq (ME A.k A.ck n.kids x (w.alloc (.cells (dG n A) 40)) hl (GR.At.below ha (ay w _)));clear ha;go_in
 go_wp2_with (go_at_call 242;refine HH.mono ?_;rintro e w1 ⟨rfl,rfl⟩)
 go_ret;exact⟨rfl,ay w _⟩
def Mth.nearI (n:Nd) (x:Int):Bool:=uU x&&(decide (x=n.par)||hasB n.kids x)
theorem Mth.near_same (h:eO n=true) (x:Int):nearI n x=eD n x:=by
 obtain⟨h1,_,h3⟩:=qP h
 have hp:n.par<=29:=by
  unfold eO at h;simp only[aGl] at h;exact(aGw h.1.1.1.2).2
 unfold nearI eD;cases hh:hasB n.kids x
 .simp only[Bool.or_false];by_cases hx:x=n.par
  .by_cases h0:0<=x
   .simp[uU,hx];omega
   .simp[uU,hx];omega
  .simp[hx]
 .have h2:=h1 x ((zZ _ _).1 hh);unfold kW at h2;simp only[aGl] at h2;rw [h2.1.1];simp
theorem Qf (n:Nd) (A:bV) (x:Int) (w:World) (hl:n.kids.length<=1048600) (ha:dH w A.k n.kids):
 Calls prog 203 #[gP n A,.int .i64 x] w (dZ w (.bool (nearI n x))):=by
 have HK:=Hq (Cm n A x (w.alloc (.cells (dG n A) 40)) hl (GR.At.below ha (ay w _)));clear ha;cases h0:uU x
 .have HN:=Hq (show nearI n x=false by simp[nearI,h0]);have HA:=Hq (λw1=>isNode x false w1 h0);clear h0;exact ajc
 .have HA:=Hq (λw1=>isNode x true w1 h0);by_cases h1:x=n.par
  .have HN:=Hq (show nearI n x=true by unfold nearI;rw [h0,aGk h1];rfl);have h2:(x == n.par)=true:=Abc
   clear h1 h0;exact ajc
  .have HN:=Hq (show nearI n x=hasB n.kids x by simp[nearI,h1,h0]);have h2:(x == n.par)=false:=Abc
   clear h1 h0;go_in
   go_wp2_with (first|(go_at_call 201;refine(HA _).mono ?_;rintro e w1 ⟨rfl,rfl⟩)|(go_at_call 218;refine HK.mono ?_;rintro e w2 ⟨rfl,hb2⟩))
   go_ret;exact⟨aF HN.symm,(ay w _).trans (hb2.mono Aac)⟩
namespace Mth
def upTo (n:Nat):List Int:=(List.range n).map Int.ofNat
theorem ad8 (n:Nat):(upTo n).Pairwise (· < ·):=by
 unfold upTo;rw [List.pairwise_map];exact List.pairwise_lt_range.imp (λ{a b} h=>by show(a:Int) < (b:Int);omega)
theorem ad9 (n:Nat) (x:Int):x∈upTo n↔0<=x/\x < n:=by
 unfold upTo;rw [aHQ];constructor
 .rintro⟨a,ha,rfl⟩;have:=aG7.1 ha;show 0<=(a:Int)/\(a:Int) < n
  omega
 .intro h;exact⟨x.toNat,aG7.2 Aaa,by show((x.toNat:Nat):Int)=x;omega⟩
theorem ac1 {l:List Int} (h:iA (kW id par) iX l=true):l.length<=30:=by
 obtain⟨h1,h2⟩:=(uH (r:=iX) nL).1 h
 have h3:=abF (upTo 30) l (h2.imp (λ{a b} h=>aGw h)) (ad8 30) (λx hx=>by
  have h4:=h1 x hx
  unfold kW uU at h4
  simp only[aGl,aGy] at h4
  rw [ad9]
  omega)
 simpa [upTo] using h3
def Gd (n:Nd):Bool:=uU n.id&&(decide (n.par= -1)||(uU n.par&&decide (n.par≠n.id)))&&iA (kW n.id n.par) iX n.kids
theorem U9 (n:Nd):Gd n=eO n:=by
 unfold Gd eO;cases hc:iA (kW n.id n.par) iX n.kids
 .simp
 .rw [aGk (ac1 hc)];cases hi:uU n.id
  .simp
  .have h0:0<=n.id/\n.id<=29:=aGw hi;by_cases h1:n.par= -1
   .have h2:n.par≠n.id:=Aaa
    rw [aGk h1,aGk h2,aGk (show -1<=n.par/\n.par<=29 by omega)];rfl
   .rw [aGi h1];unfold uU;by_cases h2:0<=n.par/\n.par<=29
    .rw [aGk h2,aGk (show -1<=n.par/\n.par<=29 by omega)];simp
    .rw [aGi h2,aGi (show¬(-1<=n.par/\n.par<=29) by omega)];simp
theorem afH {x:Int} (h:kW id par x=true): -1 < x:=by
 unfold kW uU at h;exact abt
theorem acJ {low x:Int} (h:Cj low x=true):low - 1 < x:=by
 unfold Cj at h;simp only[aGy] at h;omega
theorem Xi {s:jM} (h:vW n s=true):0 < s.i:=by
 unfold vW at h;exact abt
theorem Xm {s:Rq} (h:tN n s=true):n.old < s.no:=by
 unfold tN at h;exact abt
end Mth
theorem Uu (n:Nd) (A:bV) (w:World) (hl:n.kids.length<=1048600) (ha:dH w A.k n.kids):
 Calls Tryz.prog 167 #[gP n A] w (dZ w (.bool (Gd n))):=by
 have HA:=Hq ha;have HD:Hid (Gd n=(uU n.id&&(decide (n.par= -1)||(uU n.par&&decide (n.par≠n.id)))&&iA (kW n.id n.par) iX n.kids)):=rfl;have su:=Hq (λk h=>pX (kW n.id n.par) iX n.kids k h);have jR:=Hq (λk h=>zP (kW n.id n.par) (λx=>x) (-1) (λx=>afH) n.kids k h);have zw:=Hq (λk h=>uR (λx:Int=>x) (-1) n.kids k h);have VO:=Hq (λx=>show kW n.id n.par x=(uU x&&decide (x≠n.id)&&decide (x≠n.par)) from rfl);have kJ:=Hq (aGg w (.cells (dG n A) 40));generalize Gd n=TT at *;generalize kW n.id n.par=KB at *;open apx in exact vU
theorem Qj (s:Sn) (b:Option Addr) (c:Nat) (w:World) (hl:s.ids.length<=1048600) (ha:dH w b s.ids):
 Calls Tryz.prog 206 #[.agg #[.int .i64 s.f,.int .i64 s.l,.slice b s.ids.length c]] w (dZ w (.bool (wu s))):=by
 obtain⟨fr,lo,ids⟩:=s;dsimp only at hl ha ⊢;have HA:=Hq ha;have HD:Hid (wu ⟨fr,lo,ids⟩=(fO lo&&decide (ids.length<=40)&&iA (Cj lo) iX ids)):=rfl;have su:=Hq (λk h=>pX (Cj lo) iX ids k h);have jR:=Hq (λk h=>zP (Cj lo) (λx=>x) (lo - 1) (λx=>acJ) ids k h);have zw:=Hq (λk h=>uR (λx:Int=>x) (lo - 1) ids k h);have HLB:=Hq (λk (h:iA (Cj lo) iX (ids.take k)=true)=>BP (key:=λx=>x) (y0:=lo - 1) (λx=>acJ) h);have VO:=Hq (λx=>show Cj lo x=decide (lo<=x/\x<=1000000000) from rfl);generalize wu ⟨fr,lo,ids⟩=TT at *;generalize Cj lo=KB at *;clear ha;cases h1:fO lo
 case' false=>
  have HP:Hid (TT=false):=by rw [ah HD,h1];rfl
  have H1:=Hq (λw1=>aQ lo false w1 h1);exact ai3
 have H1:=Hq (λw1=>aQ lo true w1 h1);have hlo:1<=lo/\lo<=1000000000:=aGw h1;obtain⟨hlo1,hlo2⟩:=hlo;by_cases h2:ids.length<=40
 case' neg=>
  have HP:=Hq (show TT=false by rw [ah HD,aGi h2];simp);have hb2:decide ((40:Int) < ids.length)=true:=aGk Aaa;exact ai3
 have hb2:decide ((40:Int) < ids.length)=false:=aGi Aaa;have oN:Hid (TT=iA KB iX ids):=by rw [ah HD,h1,aGk h2];rfl
 clear HD h1;go_in
 go_wp2_with (go_at_call 169;refine(H1 _).mono ?_;rintro e w1 ⟨rfl,rfl⟩)
 go_loop [3,22] (λlv i=>∃(k:Nat) (y:Int),k<=ids.length/\i= .int .i64 k/\lv= .int .i64 y/\y=yu (λx=>x) (lo - 1) (ids.take k)/\iA KB iX (ids.take k)=true) (λ_ i=>ids.length - (intOf i).toNat)
 case atStart=>exact⟨0,lo - 1,aGB _,rfl,Aaf,rfl,rfl⟩
 case round=>
  obtain⟨k,y,hk,rfl,rfl,hy,hall⟩:=hrel;have jG:=Hq hall;have HY:=Hq hy;have hy0:lo - 1<=y:=by rw [hy];exact HLB k hall
  clear hall hy;by_cases hlt:k < ids.length
  case' neg=>
   have hke:k=ids.length:=Aaa
   subst hke;have hnlt:decide ((ids.length:Int) < (ids.length:Int))=false:=Aac
   have HF:Hid (TT=true):=by
    exact WE
   go_wp2_with fail;go_ret;exact⟨aF HF.symm,ay w _⟩
  obtain⟨g,off,rfl,hgw,q0⟩:=dH.one (GR.At.below HA (ay w (.cells #[.int .i64 fr,.int .i64 lo,.slice b ids.length c] 110))) k hlt;have HBAD:Hid (iA KB iX (ids.take (k+1))=false->TT=false):=λh=>oN.trans (su _ h)
  have iQ:Hid (iA KB iX (ids.take (k+1))=(KB ids[k]&&decide (y < ids[k]))):=by
   exact aiU
  have El:=Hq (zw k hlt);have DJ:=Hq (VO ids[k]);clear jR zw su VO HLB;generalize ids[k]=x at *;by_cases h2:y < x
  case' neg=>
   have hb3:decide (x<=y)=true:=aGk Aaa;have HV:=Hq (HBAD (by rw [ah iQ,ah DJ];rw [aGi h2];simp));clear HBAD iQ DJ;go_wp2_with (fail)
   go_ret;exact⟨aF HV.symm,ay w _⟩
  have hb3:decide (x<=y)=false:=aGi Aaa;cases h3:rz x
  case' false=>
   have H3:=Hq (λw1=>kV x false w1 h3);have h4:¬(0<=x/\x<=1000000000):=of_decide_eq_false h3;have HV:=Hq (HBAD (by rw [ah iQ,ah DJ];rw [aGi (show¬(lo<=x/\x<=1000000000) by omega)];rfl));clear HBAD iQ DJ h3 h4;go_wp2_with (go_at_call 207;refine(H3 _).mono ?_;rintro e w1 ⟨rfl,rfl⟩)
   go_ret;exact⟨aF HV.symm,ay w _⟩
  have H3:=Hq (λw1=>kV x true w1 h3);have h4:0<=x/\x<=1000000000:=aGw h3;have HV:=Hq (show iA KB iX (ids.take (k+1))=true by rw [ah iQ,ah DJ,aGk (show lo<=x/\x<=1000000000 by omega),aGk h2];rfl);clear HBAD iQ DJ h3 h4;go_wp2_with (go_at_call 207;refine(H3 _).mono ?_;rintro e w1 ⟨rfl,rfl⟩)
  exact ajm
theorem YF (n:Nd) (A:bV) (w:World) (hz:eG n 1048600) (hp:eO n=true) (ha:dD w A n):
 Calls Tryz.prog 170 #[gP n A] w (dZ w (.bool (tC n))):=by
 have HA:=Hq ha;have HD:Hid (tC n=(decide (n.out.length<=40)&&iA (vW n) (λs t=>iX s.i t.i) n.out)):=rfl;have su:=Hq (λk h=>pX (vW n) (λs t=>iX s.i t.i) n.out k h);have jR:=Hq (λk h=>zP (vW n) (λs=>s.i) 0 (λx=>Xi) n.out k h);have zw:=Hq (λk h=>uR (λs:jM=>s.i) 0 n.out k h);have HLB:=Hq (λk (h:iA (vW n) (λs t=>iX s.i t.i) (n.out.take k)=true)=>BP (key:=λs=>s.i) (y0:=0) (λx=>Xi) h);have VO:=Hq (λs=>show vW n s=(decide (1<=s.i/\s.i<=n.next - 1)&&eD n s.t&&keyOk s.k.data.toList&&fO s.n) from rfl)
 have Sl:Hid (∀x w1,aI w w1->Calls Tryz.prog 203 #[gP n A,.int .i64 x] w1 (dZ w1 (.bool (eD n x)))):=λx w1 hb=>by
  have h:=Qf n A x w1 hz.k (ha.below hb).k
  rw [near_same hp] at h
  exact h
 have hlo:=hz.o;have kJ:=Hq (aGg w (.cells (dG n A) 40));generalize tC n=TT at *;generalize vW n=KB at *;generalize eD n=NN at *;clear ha hz hp;open apz in exact vU
theorem Uv (n:Nd) (A:bV) (w:World) (hz:eG n 1048600) (ha:dD w A n):
 Calls Tryz.prog 172 #[gP n A] w (dZ w (.bool (iC n))):=by
 have HA:=Hq ha;have HD:Hid (iC n=(rz n.old&&decide (n.reqs.length<=30)&&iA (tN n) (λs t=>iX s.no t.no) n.reqs)):=rfl;have su:=Hq (λk h=>pX (tN n) (λs t=>iX s.no t.no) n.reqs k h);have jR:=Hq (λk h=>zP (tN n) (λs=>s.no) n.old (λx=>Xm) n.reqs k h);have zw:=Hq (λk h=>uR (λs:Rq=>s.no) n.old n.reqs k h);have HLB:=Hq (λk (h:iA (tN n) (λs t=>iX s.no t.no) (n.reqs.take k)=true)=>BP (key:=λs=>s.no) (y0:=n.old) (λx=>Xm) h);have VO:=Hq (λs=>show tN n s=(decide (n.old+1<=s.no/\s.no<=1000000000)&&keyOk s.k.data.toList&&fO s.n&&decide (0<=s.s/\s.s<=2)) from rfl);have hlo:=hz.r;have kJ:=Hq (aGg w (.cells (dG n A) 40));generalize iC n=TT at *;generalize tN n=KB at *;clear ha hz;open apy in exact vU
theorem PG (l:List Int):GR.flat aS l=l.map (Value.int .i64):=by
 induction l with
 |nil=>rfl
 |cons x l ih=>rw [GR.flat_cons,ih];rfl
theorem T9:∀(y:Int),∀u∈aS y,u.oneCell'=true:=by
 intro y u hu;simp only[aS,aGF,aHx,or_false] at hu;subst hu;rfl
theorem BQ (a:Option Addr) (cap:Nat) (l:List Int) (w:World) (hl:l.length<=1048600) (ha:dH w a l):
 Calls Tryz.prog 117 #[.slice a l.length cap] w λe w'=>∃v,e= .returned v/\w'.ownsRow w.heap.size 3 1 v l.length (GR.flat aS l)/\aI w w':=by
 obtain⟨i0,hi,hz0,hz1,hz2⟩:=aGV xB;have q22:∀(w:World) (a:Option Addr) (n c n' c':Nat),(binOp .eql 22 (.slice a n c) (.slice none n' c')).run Tryz.prog w= .ok (.bool a.isNone) w:=λw a n c n' c'=>aHO w _ _ a n c n' c' Tryz.underlying22
 have hlit:(w.alloc (.cells #[] 3)).ownsRow w.heap.size 3 1 (.slice (some ⟨w.heap.size,0,none⟩) 0 0) 0 []:=aGY (base:=w.heap.size) (e:=3) (size:=1) w #[] 0 (aGh _) Aae rfl;cases a with
 |none=>
  have hl0:l=[]:=GR.none_nil ha;subst hl0;clear ha hlit;go_in
  exact TF
 |some x=>
  have HN:=Hq (GR.At.news aO Aaa (GR.At.below ha (ay w (.cells #[] 3))));clear ha;go_in
  go_wp2_with (at_builtin;refine aHg _ rfl _ _ 22 rfl w.heap.size 3 i0 (.int .i64 0) 1 8 Tryz.underlying22 hi hz0 hz1 hz2 rfl Aae _ 0 [] rfl hlit x l.length cap (GR.flat aS l) rfl ?c0 ?c1 ?c2 ?c3 ?c4 ?c5 ?_)
  case c0=>exact GR.flat_length aS 1 aO l
  case c1=>exact HN
  case c2=>exact GR.flat_oneCell T9 l
  case c3=>unfold maxLen;omega
  case c4=>omega
  case c5=>simp
  intro v' w1 hown' hgrow _;have HO:=Hq (show w1.ownsRow w.heap.size 3 1 v' l.length (GR.flat aS l) by simpa using hown');exact XV
theorem af3 (B:Nat) (v:Value) (l:List Int) (w:World) (hl:l.length<=1048602) (hB:B<=w.heap.size) (h:w.ownsRow B 3 1 v l.length (GR.flat aS l)):
 Calls Tryz.prog 233 #[v] w λe w'=>e= .returned (.tuple #[])/\w'.ownsRow B 3 1 v l.length (GR.flat aS (ZF l))/\Below B w w':=by
 rw [PG] at h ⊢;rcases h.2 with⟨rfl,hn⟩|⟨g,cap,cur,rfl,hg,hblk,h1,h2,h3,h4⟩
 .have hl0:l=[]:=aGM hn;subst hl0;refine(AnyM.slices_Sort_int_none Tryz.sortL none 0 w).mono ?_;rintro e w' ⟨rfl,rfl⟩;refine⟨rfl,?_,aGs _ _⟩;simpa [ZF] using World.ownsRow_nil _ _ _ _
 .rw [Nat.mul_one] at h4;have hH:=holds_of_blockI hblk h4;refine(AnyM.slices_Sort_int Tryz.sortL g 0 cap l w hH (aA hblk) Aaa).mono ?_;rintro e w' ⟨rfl,n,os,rfl⟩;have hs:(ZF l).length=l.length:=qV l;have h5:=ownsRow_sortedI (n:=n) (os:=os) (ts:=ZF l) hs hg hblk h1 h2 h3;exact⟨rfl,h5,(aGs B w).grown (grownBy_sortedI _) hB (λk hk=>by cases hk;exact hg)⟩
theorem FN (n:Nd) (A:bV) (w:World) (hl:n.kids.length<=1048600) (ha:dH w A.k n.kids):
 Calls Tryz.prog 205 #[gP n A] w λe w'=>∃v,e= .returned v/\w'.ownsRow w.heap.size 3 1 v (rC n).length (GR.flat aS (ZF (rC n)))/\aI w w':=by
 obtain⟨i0,hi,hz0,hz1,hz2⟩:=aGV xB;have HC:=Hq (BQ A.k A.ck n.kids (w.alloc (.cells (dG n A) 40)) hl (GR.At.below ha (ay w _)));have kJ:=Hq (aGg w (.cells (dG n A) 40));have HNB:Hid ((n.par= -1->rC n=n.kids)/\(¬n.par= -1->rC n=n.kids++[n.par])):=⟨λh=>by unfold rC;rw [aGC h,aHB],λh=>by unfold rC;rw [aGr h]⟩;have hln:(rC n).length<=1048602:=by unfold rC;split<;>simp<;>omega
 generalize rC n=NB at *;open apA in exact vU
namespace Mth
theorem Zt (hk:k < l.length) (hF:F.length=l.length) (h1:(l.take k).map (·.f)=F.take k) (h2:(l.take k).all wu=true) (h3:(l[k]).f=F[k]' Aaa) (h4:wu l[k]=true):
 (l.take (k+1)).map (·.f)=F.take (k+1)/\(l.take (k+1)).all wu=true:=by
 rw [aGt hk,aGt Aaa,List.map_append,h1,List.all_append,h2];simp[h3,h4]
theorem Zq (hk:k < l.length) (hF:F.length=l.length) (h3:¬(l[k]).f=F[k]' Aaa):¬l.map (·.f)=F:=by
 intro h;apply h3
 subst h;simp
theorem Zr (hk:k < l.length) (h4:wu l[k]=false):l.all wu=false:=by
 rw [List.all_eq_false];exact⟨l[k],aGz hk,by rw [h4];simp⟩
end Mth
theorem aj4 (s:Sn) (b:Option Addr) (c:Nat) (r:Bool) (wc:World) (hl:s.ids.length<=1048600) (ha:dH wc b s.ids) (hr:wu s=r):∀d os,Calls Tryz.prog 206 #[.agg #[.int .i64 s.f,.int .i64 s.l,.slice b s.ids.length c]] (Sort.grow (redrawn wc d) os) λe w''=>e= .returned (.bool r)/\∃p:Regrown,w''=Sort.grow (redrawn wc p.d) p.os:=λd os=>by
 rw [<-hr];exact aG6 (Qj s b c _ hl (GR.At.below ha (aHr wc d os)))
theorem Uw (n:Nd) (A:bV) (w:World) (hz:eG n 1048600) (hp:eO n=true) (ha:dD w A n):
 Calls Tryz.prog 171 #[gP n A] w (dZ w (.bool (oL n))):=by
 have HA:=Hq ha;have HD:=Hq (xM hp);have HSK:=Hq hz.sk;have HNB:=Hq (FN n A (w.alloc (.cells (dG n A) 40)) hz.k (GR.At.below ha.k (ay w _)));have kJ:=Hq (aGg w (.cells (dG n A) 40));have hls:=hz.s;have hln:(rC n).length<=1048602:=by have:=hz.k;unfold rC;split<;>simp<;>omega
 have zw:=Hq (qV (rC n));generalize ZF (rC n)=F at *;generalize (rC n).length=NL at *;generalize oL n=TT at *;clear ha hz hp;open apC in exact vU
theorem Ut (n:Nd) (A:bV) (w:World) (hz:eG n 1048600) (ha:dD w A n):
 Calls Tryz.prog 137 #[gP n A] w (dZ w (.bool (eH n))):=by
 have Om:Hid (∀w1,aI w w1->Calls Tryz.prog 167 #[gP n A] w1 (dZ w1 (.bool (eO n)))):=λw1 hb=>by
  have h:=Uu n A w1 hz.k (ha.below hb).k
  rw [U9] at h
  exact h
 have HPU:=Hq (λw1 (hb:aI w w1)=>uQ A.p A.cp n.pu w1 hz.p (ha.below hb).p);have HOT:=Hq (λw1 (hb:aI w w1) (hp:eO n=true)=>YF n A w1 hz hp (ha.below hb));have HSE:=Hq (λw1 (hb:aI w w1) (hp:eO n=true)=>Uw n A w1 hz hp (ha.below hb));have HRE:=Hq (λw1 (hb:aI w w1)=>Uv n A w1 hz (ha.below hb));have HD:Hid (eH n=(eO n&&jD n.pu&&oL n&&fO n.next&&tC n&&iC n)):=rfl;have kJ:=Hq (aGg w (.cells (dG n A) 40));generalize eO n=PL at *;generalize jD n.pu=PS at *;generalize oL n=TD at *;generalize tC n=OT at *;generalize iC n=RQ at *;generalize eH n=TT at *;clear ha hz;open apB in exact vU
end Go.Proofs.YtohmklmkjmlpjaaGreatDoor
