/- Parts. -/
import Derived.Test.YtbolgdleijjgfaaGreatDoorRs4
import Derived.Test.YtbolgdleijjgfaaGreatDoorRs2
namespace Go.Proofs.YtbolgdleijjgfaaGreatDoor
open Go.Proofs.Tryz
set_option maxHeartbeats 4000000
set_option maxRecDepth 100000
open Go.RowKit
open Mth
variable (a:Option Addr) (cap:Nat) (l:List Pu) {w w1 W:World} {g:Nat} {t:TypeId} {a0 a1 a2 a3 b0 b1 b2 b3 v:Value} {A:Obj} {P:Program}
abbrev aG (w:World) (a:Option Addr) (l:List Pu):Prop:=GR.At fu 4 w a l
theorem aG.four {a:Option Addr} {l:List Pu} (h:aG w a l) (i:Nat) (hi:i < l.length):∃g off,a=some ⟨g,off,none⟩/\g < w.heap.size/\w.cell? ⟨g,off+i*4,none⟩=some (.string l[i].k)/\w.cell? ⟨g,off+i*4+1,none⟩=some (.int .i64 l[i].m)/\w.cell? ⟨g,off+i*4+2,none⟩=some (.int .i64 l[i].f)/\w.cell? ⟨g,off+i*4+3,none⟩=some (.int .i64 l[i].s):=by
 obtain⟨g,off,e,hg,hc⟩:=h i hi;refine⟨g,off,e,hg,?_,?_,?_,?_⟩
 .simpa using hc 0 Aaa
 .exact Wl
 .exact Wm
 .exact Wn
theorem azB (s:ByteArray) (b:Bool) (hs:s.size<=maxLen) (hb:keyOk s.data.toList=b) (W:World) (n:Nat):Calls prog 93 #[.string s] (W.drewN n) λe w''=>e= .returned (.bool b)/\∃m,w''=W.drewN m:=by
 rw [<-hb];exact(KP s _ hs).mono λe w' ⟨he,hw⟩=>⟨he,n,hw.symm⟩
theorem qAm (x:Int) (b:Bool) (hb:decide (yJ x 0 1000000000)=b) (W:World) (n:Nat):Calls prog 91 #[.int .i64 x] (W.drewN n) λe w''=>e= .returned (.bool b)/\∃m,w''=W.drewN m:=by
 rw [<-hb];exact(xH x _).mono λe w' ⟨he,hw⟩=>⟨he,n,hw.symm⟩
theorem pY (w:World) (hl:l.length<=1048600) (hk:∀p∈l,p.k.size<=maxLen) (ha:aG w a l):
 Calls prog 88 #[.slice a l.length cap] w (dM w (.bool (jm l))):=by
 have HA:=Hq ha;have HK:=Hq hk;clear ha hk;go_in
 go_wp2_with fail;go_loopw [3] (λi wr=>∃k:Nat,k<=l.length/\i= .int .i64 k/\(List.range k).all (og l)=true/\aH w wr) (λi _=>l.length - (intOf i).toNat)
 case atStart=>exact abk
 case round=>
  obtain⟨k,hk,rfl,hall,hbel⟩:=hrel;have aY:=Hq hbel;have jr:=Hq hall;clear hall hbel;by_cases hlt:k < l.length
  .have hks:=ah HK l[k] (aE2 hlt);open apT in exact awV
  .exact ahC
theorem wT (key:ByteArray) (w:World) (hl:l.length<=1048600) (ha:aG w a l):
 Calls prog 159 #[.slice a l.length cap,.string key] w (dM w (yc (aD l key))):=by
 have HA:=Hq ha;clear ha;go_in
 go_wp2_with fail;go_loopw [5] (λi wr=>∃k:Nat,k<=l.length/\i= .int .i64 k/\(l.take k).find? (λp=>p.k.toList == key.toList)=none/\wr=w.alloc (.cells (iR ⟨#[]⟩ 0 0 0) 155)) (λi _=>l.length - (intOf i).toNat)
 case atStart=>exact⟨0,aE1 _,rfl,rfl,rfl⟩
 case round=>
  obtain⟨k,hk,rfl,hnone,rfl⟩:=hrel;have HN:=Hq hnone;clear hnone;by_cases hlt:k < l.length
  .obtain⟨g,off,rfl,hgw,c0,c1,c2,c3⟩:=aG.four HA k hlt;have hfs:=JY (λp=>p.k.toList == key.toList) l k hlt HN;cases hf:l[k].k.toList == key.toList
   .have HX:=Hq (hfs.2 hf);clear hfs HN;open av4 in exact aaW
   .have HX:=Hq (show aD l key=l[k] by unfold aD;rw [hfs.1 hf];rfl);clear hfs HN;open av3 in exact aaW
  .open amP in exact uz
theorem fP (h:w.heap[g]?=some (.cells #[a0,a1,a2,a3] t (0,0))):
 (w.cell? ⟨g,0,none⟩=some a0/\w.cell? ⟨g,1,none⟩=some a1/\w.cell? ⟨g,2,none⟩=some a2/\w.cell? ⟨g,3,none⟩=some a3)/\(w.frozen? ⟨g,0,none⟩=false/\w.frozen? ⟨g,1,none⟩=false/\w.frozen? ⟨g,2,none⟩=false/\w.frozen? ⟨g,3,none⟩=false):=by
 have hc:∀i,w.cell? ⟨g,i,none⟩=#[a0,a1,a2,a3][i]?:=λi=>aEW w g i _ t (0,0) h
 have hf:∀i,w.frozen? ⟨g,i,none⟩=false:=λi=>by unfold World.frozen?;rw [h];simp
 exact⟨⟨hc 0,hc 1,hc 2,hc 3⟩,hf 0,hf 1,hf 2,hf 3⟩
theorem dP (w:World) (o:Obj):Below w.heap.size w (w.alloc o):=(aEY _ _).alloc (aEM _) _
theorem FN:(prog.info? 155).map (λi=>(i.zero,i.size,i.bytes))=some (some (.agg (iR ByteArray.empty 0 0 0)),4,40):=Aab
theorem aG.news {x:Addr} {l:List Pu} (h:aG w (some x) l):∀j u,(GR.flat fu l)[j]?=some u->w.cell? (x.add j)=some u:=by
 intro j u hu
 have hj:j < l.length*4:=by
  have:=(aFF.1 hu).1;rwa [GR.flat_length fu 4 aP] at this
 obtain⟨g,off,e,hg,hc⟩:=h (j / 4) Aaa;have hf:=GR.flat_at fu 4 aP l (j / 4) Aaa (j % 4) Aaa;have ej:j / 4*4+j % 4=j:=Aaa
 rw [ej] at hf;have h2:=hc (j % 4) Aaa;exact ah8
theorem Fe (l:List Pu):∀u∈GR.flat fu l,u.oneCell'=true:=by
 intro u hu;unfold GR.flat at hu;rw [aGa] at hu;obtain⟨p,_,hp⟩:=hu;simp only[fu,aE8,aFR,or_false] at hp;rcases hp with rfl|rfl|rfl|rfl<;>rfl
namespace Fo
open Go.RowKit
theorem two_blocks {B:Obj} (hb:Below ((w.alloc A).alloc B).heap.size ((w.alloc A).alloc B) w1):
 w1.heap[w.heap.size]?=some A/\w1.heap[w.heap.size+1]?=some B/\w.heap.size+1 < w1.heap.size/\aH w w1:=by
 have hs:((w.alloc A).alloc B).heap.size=w.heap.size+1+1:=Aac
 have hz:=hb.size;refine⟨?_,?_,Aaa,(((aEY _ _).alloc (aEM _) _).alloc Aac _).trans (hb.mono Aaa)⟩
 .rw [hb.block _ Aaa,aEZ _ _ _ Aac];exact aEK w A
 .rw [hb.block _ Aaa];have h:=aEK (w.alloc A) B;rwa [show(w.alloc A).heap.size=w.heap.size+1 by simp] at h
theorem one_block (hb:Below (w.alloc A).heap.size (w.alloc A) w1):
 w1.heap[w.heap.size]?=some A/\w.heap.size < w1.heap.size/\aH w w1:=by
 have hs:(w.alloc A).heap.size=w.heap.size+1:=Aac
 have hz:=hb.size;refine⟨?_,Aaa,((aEY _ _).alloc (aEM _) _).trans (hb.mono Aaa)⟩;rw [hb.block _ Aaa];exact aEK w A
theorem blk_set {c:Nat} {cs:Array Value} (h:w.heap[c]?=some (.cells cs t (0,0))) (i:Nat) (v:Value):(w.setCell ⟨c,i,none⟩ v).heap[c]?=some (.cells (cs.setIfInBounds i v) t (0,0)):=by
 exact VY
theorem four_set (h:w.heap[g]?=some (.cells #[a0,a1,a2,a3] t (0,0))):
 ((((w.setCell ⟨g,0,none⟩ b0).setCell ⟨g,1,none⟩ b1).setCell ⟨g,2,none⟩ b2).setCell ⟨g,3,none⟩ b3).heap[g]?=some (.cells #[b0,b1,b2,b3] t (0,0)):=
 blk_set (blk_set (blk_set (blk_set h 0 b0) 1 b1) 2 b2) 3 b3
theorem four_below {a:World} {B:Nat} (h:Below B a w) (hg:B<=g):
 Below B a ((((w.setCell ⟨g,0,none⟩ b0).setCell ⟨g,1,none⟩ b1).setCell ⟨g,2,none⟩ b2).setCell ⟨g,3,none⟩ b3):=
 (((h.setCell (p:=⟨g,0,none⟩) hg b0).setCell (p:=⟨g,1,none⟩) hg b1).setCell (p:=⟨g,2,none⟩) hg b2).setCell (p:=⟨g,3,none⟩) hg b3
theorem one_other {g' i:Nat} {o:Option Obj} (h:w.heap[g']?=o) (hne:g'≠g):(w.setCell ⟨g,i,none⟩ v).heap[g']?=o:=by
 rw [aE9 _ _ _ _ hne,h]
theorem bodyPost_at {fn:Func} {Q:Ending->World->Prop} {x:Exit} {act:Act} (h:∀W',W'=W->bodyPost P fn Q x act W'):bodyPost P fn Q x act W:=h W rfl
theorem wp_at {c:Code} {Q:Exit->Act->World->Prop} {a:Act} (h:∀W',W'=W->Code.wp P c Q a W'):Code.wp P c Q a W:=h W rfl
theorem lt_of_blk {o:Obj} (h:w.heap[g]?=some o):g < w.heap.size:=by
 exact aa7
theorem setCell_size (w:World) (p:Addr) (v:Value):(w.setCell p v).heap.size=w.heap.size:=by
 unfold World.setCell;simp
end Fo
theorem MI (w:World) (hl:l.length<=1048600) (hn:a=none->l.length=0/\cap=0) (ha:aG w a l):
 Calls Tryz.prog 81 #[.slice a l.length cap] w λe w'=>∃v,e= .returned v/\v≠ .slice none 0 0/\w'.ownsRow w.heap.size 155 4 v l.length (GR.flat fu l)/\aH w w':=by
 obtain⟨i0,hi,hz0,hz1,hz2⟩:=aFm FN;open avt in exact ahg
theorem own_lower {b b':Nat} {e:TypeId} {sz:Nat} {n:Nat} {xs:List Value} (h:w.ownsRow b e sz v n xs) (hb:b'<=b):w.ownsRow b' e sz v n xs:=by
 exact aiu
theorem Qm (a:Option Addr) (cap:Nat) (l:List Pu) (p:Pu) (n:Int) (w:World) (hl:l.length<=1048600) (hk:∀p∈l,p.k.size<=maxLen) (hn:a=none->l.length=0/\cap=0) (ha:aG w a l) (hno:jm l=false\/¬(1<=n/\n<=1000000000)):
 Calls Tryz.prog 184 #[.slice a l.length cap,yc p,.int .i64 n] w λe w'=>∃v,e= .returned (.tuple #[v,.bool false])/\v≠ .slice none 0 0/\w'.ownsRow w.heap.size 155 4 v l.length (GR.flat fu l)/\aH w w':=by
 have mW:=Hq (λw1 (h:aG w1 a l)=>pY a cap l w1 hl hk h);have NY:=Hq (λw1 (h:aG w1 a l)=>MI a cap l w1 hl hn h);have HA:=Hq ha;clear ha hk hn;obtain⟨pk,pm,pf,ps⟩:=p;go_in
 go_wp2_with fail;refine(mW _ (GR.At.below HA (dP w _))).mono ?_;rintro e w1 ⟨rfl,hb1⟩;have HB1:=Hq ((dP w _).trans (hb1.mono (dP w _).size));clear hb1;cases hok:jm l with
 |false=>
  exact axW
 |true=>
  have hn2:decide (yJ n 1 1000000000)=false:=aEN (by rcases hno with h|h;(rw [hok] at h;cases h);exact h);go_wp2_with fail;refine(Uj _ _ _ _).mono ?_;rintro e w3 ⟨rfl,rfl⟩;rw [hn2];exact axW
theorem adQ (f:Pu->Bool):∀(l:List Pu) (k:Nat),k<=l.length->(∀q∈l.take k,f q=true)->(∀h:k < l.length,f l[k]=false)->l.takeWhile f=l.take k/\l.dropWhile f=l.drop k:=by
 intro l;induction l with
 |nil=>intro k hk _ _;simp
 |cons x r ih=>
  intro k hk h1 h2;cases k with
  |zero=>
   have hx:f x=false:=h2 Aac;simp[hx]
  |succ k=>
   have hx:f x=true:=h1 x Aac;obtain⟨g1,g2⟩:=ih k Acf (λq hq=>h1 q (by simp[hq])) (λh=>h2 Abm);simp[hx,g1,g2]
end Go.Proofs.YtbolgdleijjgfaaGreatDoor
