/- Parts. -/
import Derived.Test.YtohmklmkjmlpjaaGreatDoorRk19
import Derived.Test.YtohmklmkjmlpjaaGreatDoorRk5
import Derived.Test.YtohmklmkjmlpjaaGreatDoorRk21
namespace Go.Proofs.YtohmklmkjmlpjaaGreatDoor
open Go.Proofs.Tryz
set_option maxHeartbeats 4000000
set_option maxRecDepth 100000
open Go.RowKit
open Mth
variable {l:List Sn} {k:Nat} {id par:Int} {n:Nd} {F:List Int}
namespace Mth
def upTo (n:Nat):List Int:=(List.range n).map Int.ofNat
theorem adB (n:Nat):(upTo n).Pairwise (· < ·):=by
 unfold upTo;rw [List.pairwise_map];exact List.pairwise_lt_range.imp (λ{a b} h=>by show(a:Int) < (b:Int);omega)
theorem adC (n:Nat) (x:Int):x∈upTo n↔0<=x/\x < n:=by
 unfold upTo;rw [List.mem_map];constructor
 .rintro⟨a,ha,rfl⟩;have:=List.mem_range.1 ha;show 0<=(a:Int)/\(a:Int) < n
  omega
 .intro h;exact⟨x.toNat,List.mem_range.2 Aaa,by show((x.toNat:Nat):Int)=x;omega⟩
theorem acB {l:List Int} (h:gZ (ku id par) iN l=true):l.length<=30:=by
 obtain⟨h1,h2⟩:=(tH (r:=iN) mX).1 h
 have h3:=abp (upTo 30) l (h2.imp (λ{a b} h=>of_decide_eq_true h)) (adB 30) (λx hx=>by
  have h4:=h1 x hx
  unfold ku uh at h4
  simp only[Bool.and_eq_true,decide_eq_true_eq] at h4
  rw [adC]
  omega)
 simpa [upTo] using h3
def Fv (n:Nd):Bool:=uh n.id&&(decide (n.par= -1)||(uh n.par&&decide (n.par≠n.id)))&&gZ (ku n.id n.par) iN n.kids
theorem Uc (n:Nd):Fv n=eP n:=by
 unfold Fv eP;cases hc:gZ (ku n.id n.par) iN n.kids
 .simp
 .rw [decide_eq_true (acB hc)];cases hi:uh n.id
  .simp
  .have h0:0<=n.id/\n.id<=29:=of_decide_eq_true hi;by_cases h1:n.par= -1
   .have h2:n.par≠n.id:=Aaa
    rw [decide_eq_true h1,decide_eq_true h2,decide_eq_true (show -1<=n.par/\n.par<=29 by omega)];rfl
   .rw [decide_eq_false h1];unfold uh;by_cases h2:0<=n.par/\n.par<=29
    .rw [decide_eq_true h2,decide_eq_true (show -1<=n.par/\n.par<=29 by omega)];simp
    .rw [decide_eq_false h2,decide_eq_false (show¬(-1<=n.par/\n.par<=29) by omega)];simp
theorem afi {x:Int} (h:ku id par x=true): -1 < x:=by
 unfold ku uh at h;exact aa7
theorem ab6 {low x:Int} (h:Bv low x=true):low - 1 < x:=by
 unfold Bv at h;simp only[decide_eq_true_eq] at h;omega
theorem VZ {s:jw} (h:uR n s=true):0 < s.i:=by
 unfold uR at h;exact aa7
theorem Wj {s:Rq} (h:rW n s=true):n.old < s.no:=by
 unfold rW at h;exact aa7
end Mth
theorem Tw (n:Nd) (A:bV) (w:World) (hl:n.kids.length<=1048600) (ha:bZ w A.k n.kids):
 Calls Tryz.prog 167 #[fQ n A] w (eO w (.bool (Fv n))):=by
 have HA:=Hq ha;have HD:Hid (Fv n=(uh n.id&&(decide (n.par= -1)||(uh n.par&&decide (n.par≠n.id)))&&gZ (ku n.id n.par) iN n.kids)):=rfl;have wV:=Hq (λk h=>oH (ku n.id n.par) iN n.kids k h);have jB:=Hq (λk h=>zk (ku n.id n.par) (λx=>x) (-1) (λx=>afi) n.kids k h);have yJ:=Hq (λk h=>tZ (λx:Int=>x) (-1) n.kids k h);have UO:=Hq (λx=>show ku n.id n.par x=(uh x&&decide (x≠n.id)&&decide (x≠n.par)) from rfl);have jP:=Hq (heap_alloc_new w (.cells (dH n A) 40));generalize Fv n=TT at *;generalize ku n.id n.par=KB at *;open aqO in exact wO
theorem PD (s:Sn) (b:Option Addr) (c:Nat) (w:World) (hl:s.ids.length<=1048600) (ha:bZ w b s.ids):
 Calls Tryz.prog 206 #[.agg #[.int .i64 s.f,.int .i64 s.l,.slice b s.ids.length c]] w (eO w (.bool (uV s))):=by
 obtain⟨fr,lo,ids⟩:=s;dsimp only at hl ha ⊢;have HA:=Hq ha;have HD:Hid (uV ⟨fr,lo,ids⟩=(fK lo&&decide (ids.length<=40)&&gZ (Bv lo) iN ids)):=rfl;have wV:=Hq (λk h=>oH (Bv lo) iN ids k h);have jB:=Hq (λk h=>zk (Bv lo) (λx=>x) (lo - 1) (λx=>ab6) ids k h);have yJ:=Hq (λk h=>tZ (λx:Int=>x) (lo - 1) ids k h);have HLB:=Hq (λk (h:gZ (Bv lo) iN (ids.take k)=true)=>Ba (key:=λx=>x) (y0:=lo - 1) (λx=>ab6) h);have UO:=Hq (λx=>show Bv lo x=decide (lo<=x/\x<=1000000000) from rfl);generalize uV ⟨fr,lo,ids⟩=TT at *;generalize Bv lo=KB at *;clear ha;cases h1:fK lo
 case' false=>
  have HP:Hid (TT=false):=by rw [ah HD,h1];rfl
  have H1:=Hq (λw1=>aT lo false w1 h1);exact ajb
 have H1:=Hq (λw1=>aT lo true w1 h1);have hlo:1<=lo/\lo<=1000000000:=of_decide_eq_true h1;obtain⟨hlo1,hlo2⟩:=hlo;by_cases h2:ids.length<=40
 case' neg=>
  have HP:=Hq (show TT=false by rw [ah HD,decide_eq_false h2];simp);have hb2:decide ((40:Int) < ids.length)=true:=decide_eq_true Aaa;exact ajb
 have hb2:decide ((40:Int) < ids.length)=false:=decide_eq_false Aaa;have nW:Hid (TT=gZ KB iN ids):=by rw [ah HD,h1,decide_eq_true h2];rfl
 clear HD h1;go_in
 go_wp2_with (go_at_call 169;refine(H1 _).mono ?_;rintro e w1 ⟨rfl,rfl⟩)
 go_loop [3,22] (λlv i=>∃(k:Nat) (y:Int),k<=ids.length/\i= .int .i64 k/\lv= .int .i64 y/\y=xB (λx=>x) (lo - 1) (ids.take k)/\gZ KB iN (ids.take k)=true) (λ_ i=>ids.length - (intOf i).toNat)
 case atStart=>exact⟨0,lo - 1,Nat.zero_le _,rfl,Aah,rfl,rfl⟩
 case round=>
  obtain⟨k,y,hk,rfl,rfl,hy,hall⟩:=hrel;have kX:=Hq hall;have HY:=Hq hy;have hy0:lo - 1<=y:=by rw [hy];exact HLB k hall
  clear hall hy;by_cases hlt:k < ids.length
  case' neg=>
   have hke:k=ids.length:=Aaa
   subst hke;have hnlt:decide ((ids.length:Int) < (ids.length:Int))=false:=Aac
   have HF:Hid (TT=true):=by
    exact VD
   go_wp2_with fail;go_ret;exact⟨aF HF.symm,ay w _⟩
  obtain⟨g,off,rfl,hgw,q0⟩:=bZ.one (GR.At.below HA (ay w (.cells #[.int .i64 fr,.int .i64 lo,.slice b ids.length c] 110))) k hlt;have HBAD:Hid (gZ KB iN (ids.take (k+1))=false->TT=false):=λh=>nW.trans (wV _ h)
  have iG:Hid (gZ KB iN (ids.take (k+1))=(KB ids[k]&&decide (y < ids[k]))):=by
   exact ai3
  have Dy:=Hq (yJ k hlt);have CX:=Hq (UO ids[k]);clear jB yJ wV UO HLB;generalize ids[k]=x at *;by_cases h2:y < x
  case' neg=>
   have hb3:decide (x<=y)=true:=decide_eq_true Aaa;have HV:=Hq (HBAD (by rw [ah iG,ah CX];rw [decide_eq_false h2];simp));clear HBAD iG CX;go_wp2_with (fail)
   go_ret;exact⟨aF HV.symm,ay w _⟩
  have hb3:decide (x<=y)=false:=decide_eq_false Aaa;cases h3:qy x
  case' false=>
   have H3:=Hq (λw1=>j6 x false w1 h3);have h4:¬(0<=x/\x<=1000000000):=of_decide_eq_false h3;have HV:=Hq (HBAD (by rw [ah iG,ah CX];rw [decide_eq_false (show¬(lo<=x/\x<=1000000000) by omega)];rfl));clear HBAD iG CX h3 h4;go_wp2_with (go_at_call 207;refine(H3 _).mono ?_;rintro e w1 ⟨rfl,rfl⟩)
   go_ret;exact⟨aF HV.symm,ay w _⟩
  have H3:=Hq (λw1=>j6 x true w1 h3);have h4:0<=x/\x<=1000000000:=of_decide_eq_true h3;have HV:=Hq (show gZ KB iN (ids.take (k+1))=true by rw [ah iG,ah CX,decide_eq_true (show lo<=x/\x<=1000000000 by omega),decide_eq_true h2];rfl);clear HBAD iG CX h3 h4;go_wp2_with (go_at_call 207;refine(H3 _).mono ?_;rintro e w1 ⟨rfl,rfl⟩)
  exact ajv
theorem XR (n:Nd) (A:bV) (w:World) (hz:eX n 1048600) (hp:eP n=true) (ha:dx w A n):
 Calls Tryz.prog 170 #[fQ n A] w (eO w (.bool (rQ n))):=by
 have HA:=Hq ha;have HD:Hid (rQ n=(decide (n.out.length<=40)&&gZ (uR n) (λs t=>iN s.i t.i) n.out)):=rfl;have wV:=Hq (λk h=>oH (uR n) (λs t=>iN s.i t.i) n.out k h);have jB:=Hq (λk h=>zk (uR n) (λs=>s.i) 0 (λx=>VZ) n.out k h);have yJ:=Hq (λk h=>tZ (λs:jw=>s.i) 0 n.out k h);have HLB:=Hq (λk (h:gZ (uR n) (λs t=>iN s.i t.i) (n.out.take k)=true)=>Ba (key:=λs=>s.i) (y0:=0) (λx=>VZ) h);have UO:=Hq (λs=>show uR n s=(decide (1<=s.i/\s.i<=n.next - 1)&&eF n s.t&&keyOk s.k.data.toList&&fK s.n) from rfl)
 have Ro:Hid (∀x w1,aI w w1->Calls Tryz.prog 203 #[fQ n A,.int .i64 x] w1 (eO w1 (.bool (eF n x)))):=λx w1 hb=>by
  have h:=Pw n A x w1 hz.k (ha.below hb).k
  rw [near_same hp] at h
  exact h
 have hlo:=hz.o;have jP:=Hq (heap_alloc_new w (.cells (dH n A) 40));generalize rQ n=TT at *;generalize uR n=KB at *;generalize eF n=NN at *;clear ha hz hp;open aqQ in exact wO
theorem Tz (n:Nd) (A:bV) (w:World) (hz:eX n 1048600) (ha:dx w A n):
 Calls Tryz.prog 172 #[fQ n A] w (eO w (.bool (gX n))):=by
 have HA:=Hq ha;have HD:Hid (gX n=(qy n.old&&decide (n.reqs.length<=30)&&gZ (rW n) (λs t=>iN s.no t.no) n.reqs)):=rfl;have wV:=Hq (λk h=>oH (rW n) (λs t=>iN s.no t.no) n.reqs k h);have jB:=Hq (λk h=>zk (rW n) (λs=>s.no) n.old (λx=>Wj) n.reqs k h);have yJ:=Hq (λk h=>tZ (λs:Rq=>s.no) n.old n.reqs k h);have HLB:=Hq (λk (h:gZ (rW n) (λs t=>iN s.no t.no) (n.reqs.take k)=true)=>Ba (key:=λs=>s.no) (y0:=n.old) (λx=>Wj) h);have UO:=Hq (λs=>show rW n s=(decide (n.old+1<=s.no/\s.no<=1000000000)&&keyOk s.k.data.toList&&fK s.n&&decide (0<=s.s/\s.s<=2)) from rfl);have hlo:=hz.r;have jP:=Hq (heap_alloc_new w (.cells (dH n A) 40));generalize gX n=TT at *;generalize rW n=KB at *;clear ha hz;open aqP in exact wO
theorem O3 (l:List Int):GR.flat bf l=l.map (Value.int .i64):=by
 induction l with
 |nil=>rfl
 |cons x l ih=>rw [GR.flat_cons,ih];rfl
theorem SI:∀(y:Int),∀u∈bf y,u.oneCell'=true:=by
 intro y u hu;simp only[bf,List.mem_cons,List.not_mem_nil,or_false] at hu;subst hu;rfl
theorem Bb (a:Option Addr) (cap:Nat) (l:List Int) (w:World) (hl:l.length<=1048600) (ha:bZ w a l):
 Calls Tryz.prog 117 #[.slice a l.length cap] w λe w'=>∃v,e= .returned v/\w'.ownsRow w.heap.size 3 1 v l.length (GR.flat bf l)/\aI w w':=by
 obtain⟨i0,hi,hz0,hz1,hz2⟩:=info_parts wC;have q22:∀(w:World) (a:Option Addr) (n c n' c':Nat),(binOp .eql 22 (.slice a n c) (.slice none n' c')).run Tryz.prog w= .ok (.bool a.isNone) w:=λw a n c n' c'=>Lib.run_eql_slice_nil w _ _ a n c n' c' Tryz.underlying22
 have hlit:(w.alloc (.cells #[] 3)).ownsRow w.heap.size 3 1 (.slice (some ⟨w.heap.size,0,none⟩) 0 0) 0 []:=World.ownsRow_lit (base:=w.heap.size) (e:=3) (size:=1) w #[] 0 (Nat.le_refl _) Aae rfl;cases a with
 |none=>
  have hl0:l=[]:=GR.none_nil ha;subst hl0;clear ha hlit;go_in
  exact Sl
 |some x=>
  have HN:=Hq (GR.At.news aX Aaa (GR.At.below ha (ay w (.cells #[] 3))));clear ha;go_in
  go_wp2_with (at_builtin;refine wpList_append_own _ rfl _ _ 22 rfl w.heap.size 3 i0 (.int .i64 0) 1 8 Tryz.underlying22 hi hz0 hz1 hz2 rfl Aae _ 0 [] rfl hlit x l.length cap (GR.flat bf l) rfl ?c0 ?c1 ?c2 ?c3 ?c4 ?c5 ?_)
  case c0=>exact GR.flat_length bf 1 aX l
  case c1=>exact HN
  case c2=>exact GR.flat_oneCell SI l
  case c3=>unfold maxLen;omega
  case c4=>omega
  case c5=>simp
  intro v' w1 hown' hgrow _;have HO:=Hq (show w1.ownsRow w.heap.size 3 1 v' l.length (GR.flat bf l) by simpa using hown');exact Xb
theorem afF (B:Nat) (v:Value) (l:List Int) (w:World) (hl:l.length<=1048602) (hB:B<=w.heap.size) (h:w.ownsRow B 3 1 v l.length (GR.flat bf l)):
 Calls Tryz.prog 233 #[v] w λe w'=>e= .returned (.tuple #[])/\w'.ownsRow B 3 1 v l.length (GR.flat bf (YN l))/\Below B w w':=by
 rw [O3] at h ⊢;rcases h.2 with⟨rfl,hn⟩|⟨g,cap,cur,rfl,hg,hblk,h1,h2,h3,h4⟩
 .have hl0:l=[]:=List.eq_nil_of_length_eq_zero hn;subst hl0;refine(AnyM.slices_Sort_int_none Tryz.sortL none 0 w).mono ?_;rintro e w' ⟨rfl,rfl⟩;refine⟨rfl,?_,Below.refl _ _⟩;simpa [YN] using World.ownsRow_nil _ _ _ _
 .rw [Nat.mul_one] at h4;have hH:=holds_of_blockI hblk h4;refine(AnyM.slices_Sort_int Tryz.sortL g 0 cap l w hH (aA hblk) Aaa).mono ?_;rintro e w' ⟨rfl,n,os,rfl⟩;have hs:(YN l).length=l.length:=ql l;have h5:=ownsRow_sortedI (n:=n) (os:=os) (ts:=YN l) hs hg hblk h1 h2 h3;exact⟨rfl,h5,(Below.refl B w).grown (grownBy_sortedI _) hB (λk hk=>by cases hk;exact hg)⟩
theorem EP (n:Nd) (A:bV) (w:World) (hl:n.kids.length<=1048600) (ha:bZ w A.k n.kids):
 Calls Tryz.prog 205 #[fQ n A] w λe w'=>∃v,e= .returned v/\w'.ownsRow w.heap.size 3 1 v (qA n).length (GR.flat bf (YN (qA n)))/\aI w w':=by
 obtain⟨i0,hi,hz0,hz1,hz2⟩:=info_parts wC;have HC:=Hq (Bb A.k A.ck n.kids (w.alloc (.cells (dH n A) 40)) hl (GR.At.below ha (ay w _)));have jP:=Hq (heap_alloc_new w (.cells (dH n A) 40));have RJ:Hid ((n.par= -1->qA n=n.kids)/\(¬n.par= -1->qA n=n.kids++[n.par])):=⟨λh=>by unfold qA;rw [if_pos h,List.append_nil],λh=>by unfold qA;rw [if_neg h]⟩;have hln:(qA n).length<=1048602:=by unfold qA;split<;>simp<;>omega
 generalize qA n=NB at *;open aqR in exact wO
namespace Mth
def aGZ (id par:Int) (kids fs:List Int):Nd:=⟨id,par,kids,1,[],[],fs.map (λx=>⟨x,1,[]⟩),0,[]⟩
def aGR:Nd:=⟨0,0,[],0,[],[],[],0,[]⟩
end Mth
def aGC (x:Int):R3:=⟨x,1,.slice none 0 0⟩
abbrev nnc (id par:Int) (kv v:Value):Array Value:=#[.int .i64 id,.int .i64 par,kv,.int .i64 1,.slice none 0 0,.slice none 0 0,v,.int .i64 0,.slice none 0 0]
structure NN (w2 wr:World) (nb:Nat) (id par:Int) (kv v:Value) (fs:List Int):Prop where
 keep:aC [nb] w2 wr
 blk:wr.heap[nb]?=some (.cells (nnc id par kv v) 40 (0,0))
 own:wr.ownsRow w2.heap.size 110 3 v fs.length (GR.flat fV (fs.map aGC))
 lt:nb < w2.heap.size
namespace Mth
theorem YC (hk:k < l.length) (hF:F.length=l.length) (h1:(l.take k).map (·.f)=F.take k) (h2:(l.take k).all uV=true) (h3:(l[k]).f=F[k]' Aaa) (h4:uV l[k]=true):
 (l.take (k+1)).map (·.f)=F.take (k+1)/\(l.take (k+1)).all uV=true:=by
 rw [List.take_succ_eq_append_getElem hk,List.take_succ_eq_append_getElem Aaa,List.map_append,h1,List.all_append,h2];simp[h3,h4]
theorem Yz (hk:k < l.length) (hF:F.length=l.length) (h3:¬(l[k]).f=F[k]' Aaa):¬l.map (·.f)=F:=by
 intro h;apply h3
 subst h;simp
theorem YA (hk:k < l.length) (h4:uV l[k]=false):l.all uV=false:=by
 rw [List.all_eq_false];exact⟨l[k],List.getElem_mem hk,by rw [h4];simp⟩
end Mth
theorem ake (s:Sn) (b:Option Addr) (c:Nat) (r:Bool) (wc:World) (hl:s.ids.length<=1048600) (ha:bZ wc b s.ids) (hr:uV s=r):∀d os,Calls Tryz.prog 206 #[.agg #[.int .i64 s.f,.int .i64 s.l,.slice b s.ids.length c]] (Sort.grow (redrawn wc d) os) λe w''=>e= .returned (.bool r)/\∃p:Regrown,w''=Sort.grow (redrawn wc p.d) p.os:=λd os=>by
 rw [<-hr];exact Calls.regrown_of (PD s b c _ hl (GR.At.below ha (below_regrown wc d os)))
theorem TA (n:Nd) (A:bV) (w:World) (hz:eX n 1048600) (hp:eP n=true) (ha:dx w A n):
 Calls Tryz.prog 171 #[fQ n A] w (eO w (.bool (nV n))):=by
 have HA:=Hq ha;have HD:=Hq (wK hp);have HSK:=Hq hz.sk;have RJ:=Hq (EP n A (w.alloc (.cells (dH n A) 40)) hz.k (GR.At.below ha.k (ay w _)));have jP:=Hq (heap_alloc_new w (.cells (dH n A) 40));have hls:=hz.s;have hln:(qA n).length<=1048602:=by have:=hz.k;unfold qA;split<;>simp<;>omega
 have yJ:=Hq (ql (qA n));generalize YN (qA n)=F at *;generalize (qA n).length=NL at *;generalize nV n=TT at *;clear ha hz hp;open aqT in exact wO
theorem xX (n:Nd) (A:bV) (w:World) (hz:eX n 1048600) (ha:dx w A n):
 Calls Tryz.prog 137 #[fQ n A] w (eO w (.bool (dY n))):=by
 have NH:Hid (∀w1,aI w w1->Calls Tryz.prog 167 #[fQ n A] w1 (eO w1 (.bool (eP n)))):=λw1 hb=>by
  have h:=Tw n A w1 hz.k (ha.below hb).k
  rw [Uc] at h
  exact h
 have HPU:=Hq (λw1 (hb:aI w w1)=>tX A.p A.cp n.pu w1 hz.p (ha.below hb).p);have HOT:=Hq (λw1 (hb:aI w w1) (hp:eP n=true)=>XR n A w1 hz hp (ha.below hb));have HSE:=Hq (λw1 (hb:aI w w1) (hp:eP n=true)=>TA n A w1 hz hp (ha.below hb));have HRE:=Hq (λw1 (hb:aI w w1)=>Tz n A w1 hz (ha.below hb));have HD:Hid (dY n=(eP n&&jh n.pu&&nV n&&fK n.next&&rQ n&&gX n)):=rfl;have jP:=Hq (heap_alloc_new w (.cells (dH n A) 40));generalize eP n=PL at *;generalize jh n.pu=PS at *;generalize nV n=TD at *;generalize rQ n=OT at *;generalize gX n=RQ at *;generalize dY n=TT at *;clear ha hz;open aqS in exact wO
abbrev gN:Array Value:=(fP 0 0 none 0 0 0 none 0 0 none 0 0 none 0 0 0 none 0 0)
end Go.Proofs.YtohmklmkjmlpjaaGreatDoor
