/- Parts. -/
import Derived.Test.YtohmklmkjmlpjaaGreatDoorRk16
import Derived.Test.YtohmklmkjmlpjaaGreatDoorRk6
import Derived.Test.YtohmklmkjmlpjaaGreatDoorRk19
namespace Go.Proofs.YtohmklmkjmlpjaaGreatDoor
open Go.Proofs.Tryz
set_option maxHeartbeats 4000000
set_option maxRecDepth 100000
open Go.RowKit
open Mth
variable {l:List Sn} {k:Nat} {id par:Int} {n:Nd} {F:List Int}
namespace Mth
def upTo (n:Nat):List Int:=(List.range n).map Int.ofNat
theorem ac5 (n:Nat):(upTo n).Pairwise (· < ·):=by
 unfold upTo;rw [List.pairwise_map];exact List.pairwise_lt_range.imp (λ{a b} h=>by show(a:Int) < (b:Int);omega)
theorem ac6 (n:Nat) (x:Int):x∈upTo n↔0<=x/\x < n:=by
 unfold upTo;rw [List.mem_map];constructor
 .rintro⟨a,ha,rfl⟩;have:=List.mem_range.1 ha;show 0<=(a:Int)/\(a:Int) < n
  omega
 .intro h;exact⟨x.toNat,List.mem_range.2 Aaa,by show((x.toNat:Nat):Int)=x;omega⟩
theorem abY {l:List Int} (h:gU (jX id par) iM l=true):l.length<=30:=by
 obtain⟨h1,h2⟩:=(tF (r:=iM) mJ).1 h
 have h3:=aaN (upTo 30) l (h2.imp (λ{a b} h=>of_decide_eq_true h)) (ac5 30) (λx hx=>by
  have h4:=h1 x hx
  unfold jX tY at h4
  simp only[Bool.and_eq_true,decide_eq_true_eq] at h4
  rw [ac6]
  omega)
 simpa [upTo] using h3
def E9 (n:Nd):Bool:=tY n.id&&(decide (n.par= -1)||(tY n.par&&decide (n.par≠n.id)))&&gU (jX n.id n.par) iM n.kids
theorem TR (n:Nd):E9 n=eD n:=by
 unfold E9 eD;cases hc:gU (jX n.id n.par) iM n.kids
 .simp
 .rw [decide_eq_true (abY hc)];cases hi:tY n.id
  .simp
  .have h0:0<=n.id/\n.id<=29:=of_decide_eq_true hi;by_cases h1:n.par= -1
   .have h2:n.par≠n.id:=Aaa
    rw [decide_eq_true h1,decide_eq_true h2,decide_eq_true (show -1<=n.par/\n.par<=29 by omega)];rfl
   .rw [decide_eq_false h1];unfold tY;by_cases h2:0<=n.par/\n.par<=29
    .rw [decide_eq_true h2,decide_eq_true (show -1<=n.par/\n.par<=29 by omega)];simp
    .rw [decide_eq_false h2,decide_eq_false (show¬(-1<=n.par/\n.par<=29) by omega)];simp
theorem aeF {x:Int} (h:jX id par x=true): -1 < x:=by
 unfold jX tY at h;exact aay
theorem abC {low x:Int} (h:Bh low x=true):low - 1 < x:=by
 unfold Bh at h;simp only[decide_eq_true_eq] at h;omega
theorem Vz {s:jK} (h:uQ n s=true):0 < s.i:=by
 unfold uQ at h;exact aay
theorem VE {s:Rq} (h:rU n s=true):n.old < s.no:=by
 unfold rU at h;exact aay
end Mth
theorem Tj (n:Nd) (A:bQ) (w:World) (hl:n.kids.length<=1048600) (ha:bX w A.k n.kids):
 Calls Tryz.prog 167 #[gB n A] w (eG w (.bool (E9 n))):=by
 have HA:=Hq ha;have HD:Hid (E9 n=(tY n.id&&(decide (n.par= -1)||(tY n.par&&decide (n.par≠n.id)))&&gU (jX n.id n.par) iM n.kids)):=rfl;have wT:=Hq (λk h=>oD (jX n.id n.par) iM n.kids k h);have jy:=Hq (λk h=>ze (jX n.id n.par) (λx=>x) (-1) (λx=>aeF) n.kids k h);have yI:=Hq (λk h=>tV (λx:Int=>x) (-1) n.kids k h);have UF:=Hq (λx=>show jX n.id n.par x=(tY x&&decide (x≠n.id)&&decide (x≠n.par)) from rfl);have jN:=Hq (heap_alloc_new w (.cells (dG n A) 40));generalize E9 n=TT at *;generalize jX n.id n.par=KB at *;open aoA in exact wL
theorem Pj (s:Sn) (b:Option Addr) (c:Nat) (w:World) (hl:s.ids.length<=1048600) (ha:bX w b s.ids):
 Calls Tryz.prog 206 #[.agg #[.int .i64 s.f,.int .i64 s.l,.slice b s.ids.length c]] w (eG w (.bool (uU s))):=by
 obtain⟨fr,lo,ids⟩:=s;dsimp only at hl ha ⊢;have HA:=Hq ha;have HD:Hid (uU ⟨fr,lo,ids⟩=(fF lo&&decide (ids.length<=40)&&gU (Bh lo) iM ids)):=rfl;have wT:=Hq (λk h=>oD (Bh lo) iM ids k h);have jy:=Hq (λk h=>ze (Bh lo) (λx=>x) (lo - 1) (λx=>abC) ids k h);have yI:=Hq (λk h=>tV (λx:Int=>x) (lo - 1) ids k h);have HLB:=Hq (λk (h:gU (Bh lo) iM (ids.take k)=true)=>AR (key:=λx=>x) (y0:=lo - 1) (λx=>abC) h);have UF:=Hq (λx=>show Bh lo x=decide (lo<=x/\x<=1000000000) from rfl);generalize uU ⟨fr,lo,ids⟩=TT at *;generalize Bh lo=KB at *;clear ha;cases h1:fF lo
 case' false=>
  have HP:Hid (TT=false):=by rw [ah HD,h1];rfl
  have H1:=Hq (λw1=>aP lo false w1 h1);exact ahQ
 have H1:=Hq (λw1=>aP lo true w1 h1);have hlo:1<=lo/\lo<=1000000000:=of_decide_eq_true h1;obtain⟨hlo1,hlo2⟩:=hlo;by_cases h2:ids.length<=40
 case' neg=>
  have HP:=Hq (show TT=false by rw [ah HD,decide_eq_false h2];simp);have hb2:decide ((40:Int) < ids.length)=true:=decide_eq_true Aaa;exact ahQ
 have hb2:decide ((40:Int) < ids.length)=false:=decide_eq_false Aaa;have nS:Hid (TT=gU KB iM ids):=by rw [ah HD,h1,decide_eq_true h2];rfl
 clear HD h1;go_in
 go_wp2_with (go_at_call 169;refine(H1 _).mono ?_;rintro e w1 ⟨rfl,rfl⟩)
 go_loop [3,22] (λlv i=>∃(k:Nat) (y:Int),k<=ids.length/\i= .int .i64 k/\lv= .int .i64 y/\y=xu (λx=>x) (lo - 1) (ids.take k)/\gU KB iM (ids.take k)=true) (λ_ i=>ids.length - (intOf i).toNat)
 case atStart=>exact⟨0,lo - 1,Nat.zero_le _,rfl,Aah,rfl,rfl⟩
 case round=>
  obtain⟨k,y,hk,rfl,rfl,hy,hall⟩:=hrel;have kS:=Hq hall;have HY:=Hq hy;have hy0:lo - 1<=y:=by rw [hy];exact HLB k hall
  clear hall hy;by_cases hlt:k < ids.length
  case' neg=>
   have hke:k=ids.length:=Aaa
   subst hke;have hnlt:decide ((ids.length:Int) < (ids.length:Int))=false:=Aac
   have HF:Hid (TT=true):=by
    exact Vi
   go_wp2_with fail;go_ret;exact⟨aF HF.symm,ay w _⟩
  obtain⟨g,off,rfl,hgw,q0⟩:=bX.one (GR.At.below HA (ay w (.cells #[.int .i64 fr,.int .i64 lo,.slice b ids.length c] 110))) k hlt;have HBAD:Hid (gU KB iM (ids.take (k+1))=false->TT=false):=λh=>nS.trans (wT _ h)
  have iH:Hid (gU KB iM (ids.take (k+1))=(KB ids[k]&&decide (y < ids[k]))):=by
   exact ahJ
  have Dq:=Hq (yI k hlt);have CR:=Hq (UF ids[k]);clear jy yI wT UF HLB;generalize ids[k]=x at *;by_cases h2:y < x
  case' neg=>
   have hb3:decide (x<=y)=true:=decide_eq_true Aaa;have HV:=Hq (HBAD (by rw [ah iH,ah CR];rw [decide_eq_false h2];simp));clear HBAD iH CR;go_wp2_with (fail)
   go_ret;exact⟨aF HV.symm,ay w _⟩
  have hb3:decide (x<=y)=false:=decide_eq_false Aaa;cases h3:qw x
  case' false=>
   have H3:=Hq (λw1=>jW x false w1 h3);have h4:¬(0<=x/\x<=1000000000):=of_decide_eq_false h3;have HV:=Hq (HBAD (by rw [ah iH,ah CR];rw [decide_eq_false (show¬(lo<=x/\x<=1000000000) by omega)];rfl));clear HBAD iH CR h3 h4;go_wp2_with (go_at_call 207;refine(H3 _).mono ?_;rintro e w1 ⟨rfl,rfl⟩)
   go_ret;exact⟨aF HV.symm,ay w _⟩
  have H3:=Hq (λw1=>jW x true w1 h3);have h4:0<=x/\x<=1000000000:=of_decide_eq_true h3;have HV:=Hq (show gU KB iM (ids.take (k+1))=true by rw [ah iH,ah CR,decide_eq_true (show lo<=x/\x<=1000000000 by omega),decide_eq_true h2];rfl);clear HBAD iH CR h3 h4;go_wp2_with (go_at_call 207;refine(H3 _).mono ?_;rintro e w1 ⟨rfl,rfl⟩)
  exact aia
theorem Xm (n:Nd) (A:bQ) (w:World) (hz:eU n 1048600) (hp:eD n=true) (ha:dw w A n):
 Calls Tryz.prog 170 #[gB n A] w (eG w (.bool (rJ n))):=by
 have HA:=Hq ha;have HD:Hid (rJ n=(decide (n.out.length<=40)&&gU (uQ n) (λs t=>iM s.i t.i) n.out)):=rfl;have wT:=Hq (λk h=>oD (uQ n) (λs t=>iM s.i t.i) n.out k h);have jy:=Hq (λk h=>ze (uQ n) (λs=>s.i) 0 (λx=>Vz) n.out k h);have yI:=Hq (λk h=>tV (λs:jK=>s.i) 0 n.out k h);have HLB:=Hq (λk (h:gU (uQ n) (λs t=>iM s.i t.i) (n.out.take k)=true)=>AR (key:=λs=>s.i) (y0:=0) (λx=>Vz) h);have UF:=Hq (λs=>show uQ n s=(decide (1<=s.i/\s.i<=n.next - 1)&&dZ n s.t&&keyOk s.k.data.toList&&fF s.n) from rfl)
 have Ra:Hid (∀x w1,aI w w1->Calls Tryz.prog 203 #[gB n A,.int .i64 x] w1 (eG w1 (.bool (dZ n x)))):=λx w1 hb=>by
  have h:=Pe n A x w1 hz.k (ha.below hb).k
  rw [near_same hp] at h
  exact h
 have hlo:=hz.o;have jN:=Hq (heap_alloc_new w (.cells (dG n A) 40));generalize rJ n=TT at *;generalize uQ n=KB at *;generalize dZ n=NN at *;clear ha hz hp;open aoC in exact wL
theorem Tk (n:Nd) (A:bQ) (w:World) (hz:eU n 1048600) (ha:dw w A n):
 Calls Tryz.prog 172 #[gB n A] w (eG w (.bool (gX n))):=by
 have HA:=Hq ha;have HD:Hid (gX n=(qw n.old&&decide (n.reqs.length<=30)&&gU (rU n) (λs t=>iM s.no t.no) n.reqs)):=rfl;have wT:=Hq (λk h=>oD (rU n) (λs t=>iM s.no t.no) n.reqs k h);have jy:=Hq (λk h=>ze (rU n) (λs=>s.no) n.old (λx=>VE) n.reqs k h);have yI:=Hq (λk h=>tV (λs:Rq=>s.no) n.old n.reqs k h);have HLB:=Hq (λk (h:gU (rU n) (λs t=>iM s.no t.no) (n.reqs.take k)=true)=>AR (key:=λs=>s.no) (y0:=n.old) (λx=>VE) h);have UF:=Hq (λs=>show rU n s=(decide (n.old+1<=s.no/\s.no<=1000000000)&&keyOk s.k.data.toList&&fF s.n&&decide (0<=s.s/\s.s<=2)) from rfl);have hlo:=hz.r;have jN:=Hq (heap_alloc_new w (.cells (dG n A) 40));generalize gX n=TT at *;generalize rU n=KB at *;clear ha hz;open aoB in exact wL
theorem OM (l:List Int):GR.flat aU l=l.map (Value.int .i64):=by
 induction l with
 |nil=>rfl
 |cons x l ih=>rw [GR.flat_cons,ih];rfl
theorem Sv:∀(y:Int),∀u∈aU y,u.oneCell'=true:=by
 intro y u hu;simp only[aU,List.mem_cons,List.not_mem_nil,or_false] at hu;subst hu;rfl
theorem AU (a:Option Addr) (cap:Nat) (l:List Int) (w:World) (hl:l.length<=1048600) (ha:bX w a l):
 Calls Tryz.prog 117 #[.slice a l.length cap] w λe w'=>∃v,e= .returned v/\w'.ownsRow w.heap.size 3 1 v l.length (GR.flat aU l)/\aI w w':=by
 obtain⟨i0,hi,hz0,hz1,hz2⟩:=info_parts wm;have q22:∀(w:World) (a:Option Addr) (n c n' c':Nat),(binOp .eql 22 (.slice a n c) (.slice none n' c')).run Tryz.prog w= .ok (.bool a.isNone) w:=λw a n c n' c'=>Lib.run_eql_slice_nil w _ _ a n c n' c' Tryz.underlying22
 have hlit:(w.alloc (.cells #[] 3)).ownsRow w.heap.size 3 1 (.slice (some ⟨w.heap.size,0,none⟩) 0 0) 0 []:=World.ownsRow_lit (base:=w.heap.size) (e:=3) (size:=1) w #[] 0 (Nat.le_refl _) Aae rfl;cases a with
 |none=>
  have hl0:l=[]:=GR.none_nil ha;subst hl0;clear ha hlit;go_in
  exact R8
 |some x=>
  have HN:=Hq (GR.At.news aQ Aaa (GR.At.below ha (ay w (.cells #[] 3))));clear ha;go_in
  go_wp2_with (at_builtin;refine wpList_append_own _ rfl _ _ 22 rfl w.heap.size 3 i0 (.int .i64 0) 1 8 Tryz.underlying22 hi hz0 hz1 hz2 rfl Aae _ 0 [] rfl hlit x l.length cap (GR.flat aU l) rfl ?c0 ?c1 ?c2 ?c3 ?c4 ?c5 ?_)
  case c0=>exact GR.flat_length aU 1 aQ l
  case c1=>exact HN
  case c2=>exact GR.flat_oneCell Sv l
  case c3=>unfold maxLen;omega
  case c4=>omega
  case c5=>simp
  intro v' w1 hown' hgrow _;have HO:=Hq (show w1.ownsRow w.heap.size 3 1 v' l.length (GR.flat aU l) by simpa using hown');exact Wu
theorem ae1 (B:Nat) (v:Value) (l:List Int) (w:World) (hl:l.length<=1048602) (hB:B<=w.heap.size) (h:w.ownsRow B 3 1 v l.length (GR.flat aU l)):
 Calls Tryz.prog 233 #[v] w λe w'=>e= .returned (.tuple #[])/\w'.ownsRow B 3 1 v l.length (GR.flat aU (Yi l))/\Below B w w':=by
 rw [OM] at h ⊢;rcases h.2 with⟨rfl,hn⟩|⟨g,cap,cur,rfl,hg,hblk,h1,h2,h3,h4⟩
 .have hl0:l=[]:=List.eq_nil_of_length_eq_zero hn;subst hl0;refine(AnyM.slices_Sort_int_none Tryz.sortL none 0 w).mono ?_;rintro e w' ⟨rfl,rfl⟩;refine⟨rfl,?_,Below.refl _ _⟩;simpa [Yi] using World.ownsRow_nil _ _ _ _
 .rw [Nat.mul_one] at h4;have hH:=holds_of_blockI hblk h4;refine(AnyM.slices_Sort_int Tryz.sortL g 0 cap l w hH (aA hblk) Aaa).mono ?_;rintro e w' ⟨rfl,n,os,rfl⟩;have hs:(Yi l).length=l.length:=qh l;have h5:=ownsRow_sortedI (n:=n) (os:=os) (ts:=Yi l) hs hg hblk h1 h2 h3;exact⟨rfl,h5,(Below.refl B w).grown (grownBy_sortedI _) hB (λk hk=>by cases hk;exact hg)⟩
theorem EF (n:Nd) (A:bQ) (w:World) (hl:n.kids.length<=1048600) (ha:bX w A.k n.kids):
 Calls Tryz.prog 205 #[gB n A] w λe w'=>∃v,e= .returned v/\w'.ownsRow w.heap.size 3 1 v (qy n).length (GR.flat aU (Yi (qy n)))/\aI w w':=by
 obtain⟨i0,hi,hz0,hz1,hz2⟩:=info_parts wm;have HC:=Hq (AU A.k A.ck n.kids (w.alloc (.cells (dG n A) 40)) hl (GR.At.below ha (ay w _)));have jN:=Hq (heap_alloc_new w (.cells (dG n A) 40));have Rp:Hid ((n.par= -1->qy n=n.kids)/\(¬n.par= -1->qy n=n.kids++[n.par])):=⟨λh=>by unfold qy;rw [if_pos h,List.append_nil],λh=>by unfold qy;rw [if_neg h]⟩;have hln:(qy n).length<=1048602:=by unfold qy;split<;>simp<;>omega
 generalize qy n=NB at *;open aoD in exact wL
namespace Mth
def aC3 (id par:Int) (kids fs:List Int):Nd:=⟨id,par,kids,1,[],[],fs.map (λx=>⟨x,1,[]⟩),0,[]⟩
def aCV:Nd:=⟨0,0,[],0,[],[],[],0,[]⟩
end Mth
def aCG (x:Int):R3:=⟨x,1,.slice none 0 0⟩
abbrev nnc (id par:Int) (kv v:Value):Array Value:=#[.int .i64 id,.int .i64 par,kv,.int .i64 1,.slice none 0 0,.slice none 0 0,v,.int .i64 0,.slice none 0 0]
structure NN (w2 wr:World) (nb:Nat) (id par:Int) (kv v:Value) (fs:List Int):Prop where
 keep:aC [nb] w2 wr
 blk:wr.heap[nb]?=some (.cells (nnc id par kv v) 40 (0,0))
 own:wr.ownsRow w2.heap.size 110 3 v fs.length (GR.flat fK (fs.map aCG))
 lt:nb < w2.heap.size
namespace Mth
theorem XZ (hk:k < l.length) (hF:F.length=l.length) (h1:(l.take k).map (·.f)=F.take k) (h2:(l.take k).all uU=true) (h3:(l[k]).f=F[k]' Aaa) (h4:uU l[k]=true):
 (l.take (k+1)).map (·.f)=F.take (k+1)/\(l.take (k+1)).all uU=true:=by
 rw [List.take_succ_eq_append_getElem hk,List.take_succ_eq_append_getElem Aaa,List.map_append,h1,List.all_append,h2];simp[h3,h4]
theorem XW (hk:k < l.length) (hF:F.length=l.length) (h3:¬(l[k]).f=F[k]' Aaa):¬l.map (·.f)=F:=by
 intro h;apply h3
 subst h;simp
theorem XY (hk:k < l.length) (h4:uU l[k]=false):l.all uU=false:=by
 rw [List.all_eq_false];exact⟨l[k],List.getElem_mem hk,by rw [h4];simp⟩
end Mth
theorem aiY (s:Sn) (b:Option Addr) (c:Nat) (r:Bool) (wc:World) (hl:s.ids.length<=1048600) (ha:bX wc b s.ids) (hr:uU s=r):∀d os,Calls Tryz.prog 206 #[.agg #[.int .i64 s.f,.int .i64 s.l,.slice b s.ids.length c]] (Sort.grow (redrawn wc d) os) λe w''=>e= .returned (.bool r)/\∃p:Regrown,w''=Sort.grow (redrawn wc p.d) p.os:=λd os=>by
 rw [<-hr];exact Calls.regrown_of (Pj s b c _ hl (GR.At.below ha (below_regrown wc d os)))
theorem Tn (n:Nd) (A:bQ) (w:World) (hz:eU n 1048600) (hp:eD n=true) (ha:dw w A n):
 Calls Tryz.prog 171 #[gB n A] w (eG w (.bool (nQ n))):=by
 have HA:=Hq ha;have HD:=Hq (wI hp);have HSK:=Hq hz.sk;have Rp:=Hq (EF n A (w.alloc (.cells (dG n A) 40)) hz.k (GR.At.below ha.k (ay w _)));have jN:=Hq (heap_alloc_new w (.cells (dG n A) 40));have hls:=hz.s;have hln:(qy n).length<=1048602:=by have:=hz.k;unfold qy;split<;>simp<;>omega
 have yI:=Hq (qh (qy n));generalize Yi (qy n)=F at *;generalize (qy n).length=NL at *;generalize nQ n=TT at *;clear ha hz hp;open aoF in exact wL
theorem xV (n:Nd) (A:bQ) (w:World) (hz:eU n 1048600) (ha:dw w A n):
 Calls Tryz.prog 137 #[gB n A] w (eG w (.bool (dW n))):=by
 have Nw:Hid (∀w1,aI w w1->Calls Tryz.prog 167 #[gB n A] w1 (eG w1 (.bool (eD n)))):=λw1 hb=>by
  have h:=Tj n A w1 hz.k (ha.below hb).k
  rw [TR] at h
  exact h
 have HPU:=Hq (λw1 (hb:aI w w1)=>tQ A.p A.cp n.pu w1 hz.p (ha.below hb).p);have HOT:=Hq (λw1 (hb:aI w w1) (hp:eD n=true)=>Xm n A w1 hz hp (ha.below hb));have HSE:=Hq (λw1 (hb:aI w w1) (hp:eD n=true)=>Tn n A w1 hz hp (ha.below hb));have HRE:=Hq (λw1 (hb:aI w w1)=>Tk n A w1 hz (ha.below hb));have HD:Hid (dW n=(eD n&&jk n.pu&&nQ n&&fF n.next&&rJ n&&gX n)):=rfl;have jN:=Hq (heap_alloc_new w (.cells (dG n A) 40));generalize eD n=PL at *;generalize jk n.pu=PS at *;generalize nQ n=TD at *;generalize rJ n=OT at *;generalize gX n=RQ at *;generalize dW n=TT at *;clear ha hz;open aoE in exact wL
abbrev iF:Array Value:=(iD 0 0 none 0 0 0 none 0 0 none 0 0 none 0 0 0 none 0 0)
end Go.Proofs.YtohmklmkjmlpjaaGreatDoor
