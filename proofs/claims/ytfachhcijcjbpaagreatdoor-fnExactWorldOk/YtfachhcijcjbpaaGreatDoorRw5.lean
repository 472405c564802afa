/- Parts. -/
import Derived.Test.YtfachhcijcjbpaaGreatDoorRw2
import Derived.Test.YtfachhcijcjbpaaGreatDoorRw3
namespace Go.Proofs.YtfachhcijcjbpaaGreatDoor
open Go.Proofs.Tryz
set_option maxHeartbeats 4000000
set_option maxRecDepth 100000
open Go.RowKit
open Mth
variable (a:Option Addr) (cap:Nat) (l:List Pu) {w w1 W w':World} {G:ByteArray->Pu} {n g mb b:Nat} {t:TypeId} {a0 a1 v a2 a3 b0 b1 b2 b3:Value} {A:Obj} {P:Program} {D:DataW Unit}
abbrev aH (w:World) (a:Option Addr) (l:List Pu):Prop:=GR.At fO 4 w a l
theorem aH.four {a:Option Addr} {l:List Pu} (h:aH w a l) (i:Nat) (hi:i < l.length):∃g off,a=some ⟨g,off,none⟩/\g < w.heap.size/\w.cell? ⟨g,off+i*4,none⟩=some (.string l[i].k)/\w.cell? ⟨g,off+i*4+1,none⟩=some (.int .i64 l[i].m)/\w.cell? ⟨g,off+i*4+2,none⟩=some (.int .i64 l[i].f)/\w.cell? ⟨g,off+i*4+3,none⟩=some (.int .i64 l[i].s):=by
 obtain⟨g,off,e,hg,hc⟩:=h i hi;refine⟨g,off,e,hg,?_,?_,?_,?_⟩
 .simpa using hc 0 Aaa
 .exact JZ
 .exact Pm
 .exact Pn
theorem azk (s:ByteArray) (b:Bool) (hs:s.size<=maxLen) (hb:keyOk s.data.toList=b) (W:World) (n:Nat):Calls prog 62 #[.string s] (W.drewN n) λe w''=>e= .returned (.bool b)/\∃m,w''=W.drewN m:=by
 rw [<-hb];exact(KY s _ hs).mono λe w' ⟨he,hw⟩=>⟨he,n,hw.symm⟩
theorem qAm (x:Int) (b:Bool) (hb:decide (yB x 0 1000000000)=b) (W:World) (n:Nat):Calls prog 60 #[.int .i64 x] (W.drewN n) λe w''=>e= .returned (.bool b)/\∃m,w''=W.drewN m:=by
 rw [<-hb];exact(wQ x _).mono λe w' ⟨he,hw⟩=>⟨he,n,hw.symm⟩
theorem pE (w:World) (hl:l.length<=1048600) (hk:∀p∈l,p.k.size<=maxLen) (ha:aH w a l):
 Calls prog 57 #[.slice a l.length cap] w (dK w (.bool (iZ l))):=by
 have HA:=Hq ha;have HK:=Hq hk;clear ha hk;go_in
 go_wp2_with fail;go_loopw [3] (λi wr=>∃k:Nat,k<=l.length/\i= .int .i64 k/\(List.range k).all (nU l)=true/\aG w wr) (λi _=>l.length - (intOf i).toNat)
 case atStart=>exact abm
 case round=>
  obtain⟨k,hk,rfl,hall,hbel⟩:=hrel;have aO:=Hq hbel;have kS:=Hq hall;clear hall hbel;by_cases hlt:k < l.length
  .have hks:=ah HK l[k] (aEL hlt);open ap2 in exact awu
  .exact ahI
theorem wE (key:ByteArray) (w:World) (hl:l.length<=1048600) (ha:aH w a l):
 Calls prog 143 #[.slice a l.length cap,.string key] w (dK w (xO (aD l key))):=by
 have HA:=Hq ha;clear ha;go_in
 go_wp2_with fail;go_loopw [5] (λi wr=>∃k:Nat,k<=l.length/\i= .int .i64 k/\(l.take k).find? (λp=>p.k.toList == key.toList)=none/\wr=w.alloc (.cells (iK ⟨#[]⟩ 0 0 0) 142)) (λi _=>l.length - (intOf i).toNat)
 case atStart=>exact⟨0,aEN _,rfl,rfl,rfl⟩
 case round=>
  obtain⟨k,hk,rfl,hnone,rfl⟩:=hrel;have HN:=Hq hnone;clear hnone;by_cases hlt:k < l.length
  .obtain⟨g,off,rfl,hgw,c0,c1,c2,c3⟩:=aH.four HA k hlt;have hfs:=J9 (λp=>p.k.toList == key.toList) l k hlt HN;cases hf:l[k].k.toList == key.toList
   .have HX:=Hq (hfs.2 hf);clear hfs HN;open avw in exact aaX
   .have HX:=Hq (show aD l key=l[k] by unfold aD;rw [hfs.1 hf];rfl);clear hfs HN;open avv in exact aaX
  .open ano in exact xE
theorem fG (h:w.heap[g]?=some (.cells #[a0,a1,a2,a3] t (0,0))):
 (w.cell? ⟨g,0,none⟩=some a0/\w.cell? ⟨g,1,none⟩=some a1/\w.cell? ⟨g,2,none⟩=some a2/\w.cell? ⟨g,3,none⟩=some a3)/\(w.frozen? ⟨g,0,none⟩=false/\w.frozen? ⟨g,1,none⟩=false/\w.frozen? ⟨g,2,none⟩=false/\w.frozen? ⟨g,3,none⟩=false):=by
 have hc:∀i,w.cell? ⟨g,i,none⟩=#[a0,a1,a2,a3][i]?:=λi=>aEz w g i _ t (0,0) h
 have hf:∀i,w.frozen? ⟨g,i,none⟩=false:=λi=>by unfold World.frozen?;rw [h];simp
 exact⟨⟨hc 0,hc 1,hc 2,hc 3⟩,hf 0,hf 1,hf 2,hf 3⟩
theorem aV (w:World) (o:Obj):Below w.heap.size w (w.alloc o):=(aEK _ _).alloc (aEx _) _
theorem FN:(prog.info? 142).map (λi=>(i.zero,i.size,i.bytes))=some (some (.agg (iK ByteArray.empty 0 0 0)),4,40):=Aab
theorem aH.news {x:Addr} {l:List Pu} (h:aH w (some x) l):∀j u,(GR.flat fO l)[j]?=some u->w.cell? (x.add j)=some u:=by
 intro j u hu
 have hj:j < l.length*4:=by
  have:=(aFh.1 hu).1;rwa [GR.flat_length fO 4 aP] at this
 obtain⟨g,off,e,hg,hc⟩:=h (j / 4) Aaa;have hf:=GR.flat_at fO 4 aP l (j / 4) Aaa (j % 4) Aaa;have ej:j / 4*4+j % 4=j:=Aaa
 rw [ej] at hf;have h2:=hc (j % 4) Aaa;exact aii
theorem Fe (l:List Pu):∀u∈GR.flat fO l,u.oneCell'=true:=by
 intro u hu;unfold GR.flat at hu;rw [aFQ] at hu;obtain⟨p,_,hp⟩:=hu;simp only[fO,aET,aFt,or_false] at hp;rcases hp with rfl|rfl|rfl|rfl<;>rfl
namespace Fo
open Go.RowKit
theorem two_blocks {B:Obj} (hb:Below ((w.alloc A).alloc B).heap.size ((w.alloc A).alloc B) w1):
 w1.heap[w.heap.size]?=some A/\w1.heap[w.heap.size+1]?=some B/\w.heap.size+1 < w1.heap.size/\aG w w1:=by
 have hs:((w.alloc A).alloc B).heap.size=w.heap.size+1+1:=Aac
 have hz:=hb.size;refine⟨?_,?_,Aaa,(((aEK _ _).alloc (aEx _) _).alloc Aac _).trans (hb.mono Aaa)⟩
 .rw [hb.block _ Aaa,aEI _ _ _ Aac];exact aEu w A
 .rw [hb.block _ Aaa];have h:=aEu (w.alloc A) B;rwa [show(w.alloc A).heap.size=w.heap.size+1 by simp] at h
theorem one_block (hb:Below (w.alloc A).heap.size (w.alloc A) w1):
 w1.heap[w.heap.size]?=some A/\w.heap.size < w1.heap.size/\aG w w1:=by
 have hs:(w.alloc A).heap.size=w.heap.size+1:=Aac
 have hz:=hb.size;refine⟨?_,Aaa,((aEK _ _).alloc (aEx _) _).trans (hb.mono Aaa)⟩;rw [hb.block _ Aaa];exact aEu w A
theorem blk_set {c:Nat} {cs:Array Value} (h:w.heap[c]?=some (.cells cs t (0,0))) (i:Nat) (v:Value):(w.setCell ⟨c,i,none⟩ v).heap[c]?=some (.cells (cs.setIfInBounds i v) t (0,0)):=by
 exact Wx
theorem four_set (h:w.heap[g]?=some (.cells #[a0,a1,a2,a3] t (0,0))):
 ((((w.setCell ⟨g,0,none⟩ b0).setCell ⟨g,1,none⟩ b1).setCell ⟨g,2,none⟩ b2).setCell ⟨g,3,none⟩ b3).heap[g]?=some (.cells #[b0,b1,b2,b3] t (0,0)):=
 blk_set (blk_set (blk_set (blk_set h 0 b0) 1 b1) 2 b2) 3 b3
theorem four_below {a:World} {B:Nat} (h:Below B a w) (hg:B<=g):
 Below B a ((((w.setCell ⟨g,0,none⟩ b0).setCell ⟨g,1,none⟩ b1).setCell ⟨g,2,none⟩ b2).setCell ⟨g,3,none⟩ b3):=
 (((h.setCell (p:=⟨g,0,none⟩) hg b0).setCell (p:=⟨g,1,none⟩) hg b1).setCell (p:=⟨g,2,none⟩) hg b2).setCell (p:=⟨g,3,none⟩) hg b3
theorem one_other {g' i:Nat} {o:Option Obj} (h:w.heap[g']?=o) (hne:g'≠g):(w.setCell ⟨g,i,none⟩ v).heap[g']?=o:=by
 rw [aEU _ _ _ _ hne,h]
theorem bodyPost_at {fn:Func} {Q:Ending->World->Prop} {x:Exit} {act:Act} (h:∀W',W'=W->bodyPost P fn Q x act W'):bodyPost P fn Q x act W:=h W rfl
theorem wp_at {c:Code} {Q:Exit->Act->World->Prop} {a:Act} (h:∀W',W'=W->Code.wp P c Q a W'):Code.wp P c Q a W:=h W rfl
theorem lt_of_blk {o:Obj} (h:w.heap[g]?=some o):g < w.heap.size:=by
 exact aeT
theorem setCell_size (w:World) (p:Addr) (v:Value):(w.setCell p v).heap.size=w.heap.size:=by
 unfold World.setCell;simp
end Fo
open Go.RowKit Go.Maps
namespace Mth
def nothing (p:Pu):Bool:=p.m == 0&&p.f == 0&&p.s == 0
theorem QJ (p:Pu):nothing p=true↔p.m=0/\p.f=0/\p.s=0:=by unfold nothing;simp[and_assoc]
def upd (G:ByteArray->Pu) (p:Pu):ByteArray->Pu:=λk=>if k=p.k then p else G k
end Mth
def Nl:Value->Option (DataW Unit×List MemPlace)
 | .agg ⟨[.string k,.int .i64 m,.int .i64 f,.int .i64 s]⟩=>some (.agg [.lit (.string k.data.toList),.lit (.int .i64 m),.lit (.int .i64 f),.lit (.int .i64 s)],[])
 |_=>none
def AU (p:Pu):DataW Unit:= .agg [.lit (.string p.k.data.toList),.lit (.int .i64 p.m),.lit (.int .i64 p.f),.lit (.int .i64 p.s)]
theorem KI (p:Pu):Nl (xO p)=some (AU p,[]):=rfl
theorem Gd {p:Pu} {ps:List MemPlace} (h:Nl v=some (AU p,ps)):v=xO p:=by
 unfold Nl at h;split at h
 .rename_i k m f s
  obtain⟨pk,pm,pf,ps⟩:=p;simp only[AU,aFR,Prod.mk.injEq,DataW.agg.injEq,List.cons.injEq,DataW.lit.injEq,Lit.string.injEq,Lit.int.injEq,true_and,and_true] at h;obtain⟨⟨h1,h2,h3,h4⟩,_⟩:=h;subst h2 h3 h4;have e:k=pk:=aFP (Array.toList_inj.1 h1);rw [e]
 .cases h
abbrev klit (k:ByteArray):Lit:= .string k.data.toList
theorem Em {a b:ByteArray} (h:a≠b):klit a≠klit b:=λe=>h (by
 injection e with e
 exact aFP (Array.toList_inj.1 e))
theorem UA:Keyed Tryz.prog 9:=string_keyed Tryz.underlying9
theorem acJ (s:ByteArray) (hs:s.size<=maxLen):keyOf Tryz.prog 9 (.string s)=some (klit s):=Go.WideMaps.keyOf_string_mk Tryz.underlying9 hs
theorem al6 (w:World):(zeroValue 142).run Tryz.prog w= .ok (xO ⟨ByteArray.empty,0,0,0⟩) w:=Aab
def Agr (D:DataW Unit) (G:ByteArray->Pu):Prop:=∀k,(G k).k=k/\Maps.has D (klit k)= !nothing (G k)/\(nothing (G k)=false->∀z,D.atKey (klit k) z=AU (G k))
def iA (w:World) (mb n:Nat) (G:ByteArray->Pu):Prop:=∃D,w.ownsMap Tryz.prog 9 Nl mb n D/\Agr D G
theorem Agr.empty:Agr (.map []) (λk=>⟨k,0,0,0⟩):=λk=>⟨rfl,rfl,λh=>Abb⟩
theorem Agr.put (h:Agr D G) (hD:Maps.IsMap D) (p:Pu) (hp:nothing p=false):Agr (D.put (klit p.k) (AU p)) (upd G p):=by
 intro k;unfold upd;by_cases e:k=p.k
 .rw [aER e,e];exact⟨rfl,by rw [has_put_same hD (show WideAt.IsKeyLit (klit p.k) from trivial),hp];rfl,λ_ z=>atKey_put_same hD (show WideAt.IsKeyLit (klit p.k) from trivial) _ z⟩
 .rw [aEG e];obtain⟨h1,h2,h3⟩:=h k;exact⟨h1,by rw [has_put_other (Em e),h2],λhn z=>by rw [atKey_put_other (Em e)];exact h3 hn z⟩
theorem Agr.del (h:Agr D G) (p:Pu) (hp:nothing p=true):Agr (D.del (klit p.k)) (upd G p):=by
 intro k;unfold upd;by_cases e:k=p.k
 .rw [aER e,e];exact⟨rfl,by rw [has_del_same,hp];rfl,λhn=>by rw [hp] at hn;cases hn⟩
 .rw [aEG e];obtain⟨h1,h2,h3⟩:=h k;exact⟨h1,by rw [has_del_other (Em e),h2],λhn z=>by rw [atKey_del_other (Em e)];exact h3 hn z⟩
theorem iA.made (w:World):iA (w.alloc (.map #[] 0)) w.heap.size 0 (λk=>⟨k,0,0,0⟩):=⟨_,World.ownsMap_made w _ _ _,Agr.empty⟩
theorem iA.lt (h:iA w mb n G):mb < w.heap.size:=h.choose_spec.1.lt
theorem iA.kept (h:iA w mb n G) (hb:w'.heap[mb]?=w.heap[mb]?):iA w' mb n G:=by
 exact ai9
theorem iA.look (h:iA w mb n G) (k:ByteArray) (hk:k.size<=maxLen):
 (Instr.lookup 390 (.map (some mb)) (.string k) true).run Tryz.prog w= .ok (.tuple #[xO (if nothing (G k) then⟨ByteArray.empty,0,0,0⟩ else G k),.bool (!nothing (G k))]) w:=by
 obtain⟨D,hown,ha⟩:=h;obtain⟨v,ps,hrun,hv⟩:=hown.look_ok UA Tryz.underlying390 (al6 w) (KI _) (acJ k hk);obtain⟨_,h2,h3⟩:=ha k;rw [hrun,h2];cases hn:nothing (G k)
 .rw [h3 hn] at hv;rw [Gd hv];rfl
 .rw [hn] at h2;rw [atKey_of_not_has h2] at hv;rw [Gd hv];rfl
theorem og (h:w.mapTurned w' b):_root_.Go.Proofs.YtfachhcijcjbpaaGreatDoor.Keeps b w w':=by
 have g:=h.grown;exact⟨g.os,g.tape,g.output,g.size,λk hk hne=>g.block k hk (λe=>hne (aFe e))⟩
theorem iA.store (h:iA w mb n G) (p:Pu) (hk:p.k.size<=maxLen) (hn:n < maxLen) (hp:nothing p=false):
 ∃w',(Instr.mapUpdate 390 (.map (some mb)) (.string p.k) (xO p)).run Tryz.prog w= .ok () w'/\iA w' mb (n+1) (upd G p)/\Keeps mb w w':=by
 obtain⟨D,hown,ha⟩:=h;obtain⟨w',hrun,h1,h2⟩:=hown.store UA Tryz.underlying390 hn (acJ p.k hk) (KI p);exact⟨w',hrun,⟨_,h1,ha.put hown.isMap p hp⟩,og h2⟩
theorem iA.drop (h:iA w mb n G) (p:Pu) (hk:p.k.size<=maxLen) (hp:nothing p=true) (ty:TypeId):
 ∃w',(Builtin.delete_ #[390,9] ty #[.map (some mb),.string p.k]).run Tryz.prog w= .ok (.tuple #[]) w'/\iA w' mb n (upd G p)/\Keeps mb w w':=by
 obtain⟨D,hown,ha⟩:=h;obtain⟨w',hrun,h1,h2⟩:=hown.drop UA Tryz.underlying390 (acJ p.k hk) ty;exact⟨w',hrun,⟨_,h1,ha.del p hp⟩,og h2⟩
theorem Qj (p:Pu) (w:World):Calls Tryz.prog 315 #[xO p] w (dK w (.bool (nothing p))):=by
 obtain⟨pk,pm,pf,ps⟩:=p;go_in
 go_wp2
 all_goals
  go_ret
  exact⟨by simp[nothing, *],aV w _⟩
theorem lY (h:w.heap[g]?=some (.cells #[a0,a1] t (0,0))):
 (w.cell? ⟨g,0,none⟩=some a0/\w.cell? ⟨g,1,none⟩=some a1)/\(w.frozen? ⟨g,0,none⟩=false/\w.frozen? ⟨g,1,none⟩=false):=by
 have hc:∀i,w.cell? ⟨g,i,none⟩=#[a0,a1][i]?:=λi=>aEz w g i _ t (0,0) h
 have hf:∀i,w.frozen? ⟨g,i,none⟩=false:=λi=>by unfold World.frozen?;rw [h];simp
 exact⟨⟨hc 0,hc 1⟩,hf 0,hf 1⟩
theorem iA.mono {n':Nat} (h:iA w mb n G) (hn:n<=n'):iA w mb n' G:=by
 obtain⟨D,h1,h2⟩:=h;exact⟨D,h1.mono hn,h2⟩
theorem Xc (mp mb n:Nat) (v:Value) (G:ByteArray->Pu) (p:Pu) (w:World) (hk:p.k.size<=1048576) (hn:n < maxLen) (hm:w.heap[mp]?=some (.cells #[v,.map (some mb)] 392 (0,0))) (hM:iA w mb n G):
 Calls Tryz.prog 308 #[.pointer (some ⟨mp,0,none⟩),xO p] w λe w'=>e= .returned (.tuple #[])/\iA w' mb (n+1) (upd G p)/\Keeps mb w w':=by
 have HN:=Hq (λw1=>Qj p w1);have HM:=Hq hm;have HI:=Hq hM;have hkm:p.k.size<=maxLen:=Aai
 have hmp:=Fo.lt_of_blk hm;have hmb:=hM.lt;cases hno:nothing p
 .obtain⟨pk,pm,pf,ps⟩:=p;have HST:=Hq (λw1 h=>iA.store (w:=w1) (mb:=mb) (n:=n) (G:=G) h ⟨pk,pm,pf,ps⟩ hkm hn hno);open aqJ in exact awC
 .obtain⟨pk,pm,pf,ps⟩:=p;have HST:=Hq (λw1 ty h=>iA.drop (w:=w1) (mb:=mb) (n:=n) (G:=G) h ⟨pk,pm,pf,ps⟩ hkm hno ty);open aqI in exact awC
theorem MF (mp mb n:Nat) (v:Value) (G:ByteArray->Pu) (k:ByteArray) (w:World) (hk:k.size<=1048576) (hm:w.heap[mp]?=some (.cells #[v,.map (some mb)] 392 (0,0))) (hM:iA w mb n G):
 Calls Tryz.prog 309 #[.pointer (some ⟨mp,0,none⟩),.string k] w (dK w (xO (G k))):=by
 have hmp:=Fo.lt_of_blk hm;have hmb:=hM.lt;obtain⟨⟨m0,m1⟩,_⟩:=lY hm;have hGk:=(hM.choose_spec.2 k).1;have hrun:=(iA.kept (w':=w.alloc (.cells (iK ⟨#[]⟩ 0 0 0) 142)) hM (by rw [aEI _ _ _ hmb])).look k Aai;clear hm hM;cases hno:nothing (G k)
 .rw [hno] at hrun;generalize G k=p at *;obtain⟨pk,pm,pf,ps⟩:=p;dsimp only at hGk;subst hGk;simp only[Bool.not_false,aEG Bool.false_ne_true] at hrun;go_in
  go_wp2_with fail;exact aEE (v:= .agg (iK pk pm pf ps)) (by simp[results,Tryz.results309,go_sem]) rfl ⟨rfl,((aEK _ _).alloc (aEx _) _).alloc Aac _⟩
 .have hG0:G k=⟨k,0,0,0⟩:=by
   obtain⟨h1,h2,h3⟩:=(QJ _).1 hno;generalize G k=p at *;obtain⟨pk,pm,pf,ps⟩:=p;dsimp only at hGk h1 h2 h3;rw [hGk,h1,h2,h3]
  rw [hno] at hrun;rw [hG0];clear hno hG0 hGk;simp only[Bool.not_true,aER] at hrun;go_in
  go_wp2_with fail;exact aEE (v:= .agg (iK k 0 0 0)) (by simp[results,Tryz.results309,go_sem]) rfl ⟨rfl,((aEK _ _).alloc (aEx _) _).alloc Aac _⟩
theorem M0 (w:World) (hl:l.length<=1048600) (hn:a=none->l.length=0/\cap=0) (ha:aH w a l):
 Calls Tryz.prog 95 #[.slice a l.length cap] w λe w'=>∃v,e= .returned v/\v≠ .slice none 0 0/\w'.ownsRow w.heap.size 142 4 v l.length (GR.flat fO l)/\aG w w':=by
 obtain⟨i0,hi,hz0,hz1,hz2⟩:=aEY FN;open au2 in exact ahk
theorem own_lower {b':Nat} {e:TypeId} {sz:Nat} {xs:List Value} (h:w.ownsRow b e sz v n xs) (hb:b'<=b):w.ownsRow b' e sz v n xs:=by
 exact aiB
theorem QC (a:Option Addr) (cap:Nat) (l:List Pu) (p:Pu) (n:Int) (w:World) (hl:l.length<=1048600) (hk:∀p∈l,p.k.size<=maxLen) (hn:a=none->l.length=0/\cap=0) (ha:aH w a l) (hno:iZ l=false\/¬(1<=n/\n<=1000000000)):
 Calls Tryz.prog 167 #[.slice a l.length cap,xO p,.int .i64 n] w λe w'=>∃v,e= .returned (.tuple #[v,.bool false])/\v≠ .slice none 0 0/\w'.ownsRow w.heap.size 142 4 v l.length (GR.flat fO l)/\aG w w':=by
 have nD:=Hq (λw1 (h:aH w1 a l)=>pE a cap l w1 hl hk h);have Ol:=Hq (λw1 (h:aH w1 a l)=>M0 a cap l w1 hl hn h);have HA:=Hq ha;clear ha hk hn;obtain⟨pk,pm,pf,ps⟩:=p;go_in
 go_wp2_with fail;refine(nD _ (GR.At.below HA (aV w _))).mono ?_;rintro e w1 ⟨rfl,hb1⟩;have HB1:=Hq ((aV w _).trans (hb1.mono (aV w _).size));clear hb1;cases hok:iZ l with
 |false=>
  exact axz
 |true=>
  have hn2:decide (yB n 1 1000000000)=false:=aEw (by rcases hno with h|h;(rw [hok] at h;cases h);exact h);go_wp2_with fail;refine(UF _ _ _ _).mono ?_;rintro e w3 ⟨rfl,rfl⟩;rw [hn2];exact axz
theorem adW (f:Pu->Bool):∀(l:List Pu) (k:Nat),k<=l.length->(∀q∈l.take k,f q=true)->(∀h:k < l.length,f l[k]=false)->l.takeWhile f=l.take k/\l.dropWhile f=l.drop k:=by
 intro l;induction l with
 |nil=>intro k hk _ _;simp
 |cons x r ih=>
  intro k hk h1 h2;cases k with
  |zero=>
   have hx:f x=false:=h2 Aac;simp[hx]
  |succ k=>
   have hx:f x=true:=h1 x Aac;obtain⟨g1,g2⟩:=ih k Abt (λq hq=>h1 q (by simp[hq])) (λh=>h2 Abk);simp[hx,g1,g2]
end Go.Proofs.YtfachhcijcjbpaaGreatDoor
