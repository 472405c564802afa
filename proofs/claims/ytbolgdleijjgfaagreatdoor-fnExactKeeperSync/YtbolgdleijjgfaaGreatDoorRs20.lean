/- Parts. -/
import Derived.Test.YtbolgdleijjgfaaGreatDoorRs18
namespace Go.Proofs.YtbolgdleijjgfaaGreatDoor
open Go.Proofs.Tryz
set_option maxHeartbeats 2000000
set_option maxRecDepth 100000
open Go.RowKit
open Mth
variable (a:Option Addr) {S S':Nat->Prop} {w b w':World} {g sz:Nat} {α:Type} {enc:α->List Value} {l:List α}
def fZ (k:Nat):Pu:=⟨mark k,(k:Int)+1,(k:Int)+2,(k:Int)+3⟩
theorem GR.W.fourPurse {a:Option Addr} {l:List Pu} (h:GR.W fu 4 w a g l) (i:Nat) (hi:i < l.length):a=some ⟨g,0,none⟩/\g < w.heap.size/\(w.cell? ⟨g,i*4,none⟩=some (.string l[i].k)/\w.cell? ⟨g,i*4+1,none⟩=some (.int .i64 l[i].m)/\w.cell? ⟨g,i*4+2,none⟩=some (.int .i64 l[i].f)/\w.cell? ⟨g,i*4+3,none⟩=some (.int .i64 l[i].s))/\w.frozen? ⟨g,i*4,none⟩=false/\w.frozen? ⟨g,i*4+1,none⟩=false/\w.frozen? ⟨g,i*4+2,none⟩=false/\w.frozen? ⟨g,i*4+3,none⟩=false:=by
 exact aeM
theorem Uo (g c s:Nat) (l:List Pu) (w:World) (hs0:0 < s) (hs1:s<=4000000000000000) (hl:l.length<=1048600) (ha:GR.W fu 4 w a g l):
 Calls prog 72 #[.slice a l.length c,.int .i64 s] w λe w'=>e= .returned (.int .i64 (s+4*(l.length:Int)))/\GR.W fu 4 w' a g (jH fZ 4 s l l.length)/\aA (fp g l) w w':=by
 have HA:=Hq ha;clear ha;go_in
 go_wp2_with fail;go_loopw [1,5] (λkk i wr=>∃k m:Nat,k<=l.length/\i= .int .i64 k/\kk= .int .i64 m/\m=s+4*k/\GR.W fu 4 wr a g (jH fZ 4 s l k)/\aA (fp g l) w wr) (λ_ i _=>l.length - (intOf i).toNat)
 case atStart=>exact XW
 case round=>
  open apI in exact SL
theorem TR (g c n s:Nat) (l:List Pu) (w:World) (hn:n=l.length) (hs0:0 < s) (hs1:s<=4000000000000000) (hl:l.length<=1048600) (ha:GR.W fu 4 w a g (jH fZ 4 s l l.length)):
 Calls prog 77 #[.slice a n c,.int .i64 s] w (dM w (.int .i64 (s+4*(l.length:Int)))):=by
 have HA:=Hq ha;clear ha;subst hn;go_in
 go_wp2_with fail;go_loopw [1,5] (λkk i wr=>∃k m:Nat,k<=l.length/\i= .int .i64 k/\kk= .int .i64 m/\m=s+4*k/\aH w wr) (λ_ i _=>l.length - (intOf i).toNat)
 case atStart=>exact Tg
 case round=>
  open arR in exact ER
def iA (k:Nat):jC:=⟨(k:Int),(k:Int)+1,mark (k+2),(k:Int)+3⟩
theorem GR.W.fourSent {a:Option Addr} {l:List jC} (h:GR.W aM 4 w a g l) (i:Nat) (hi:i < l.length):a=some ⟨g,0,none⟩/\g < w.heap.size/\(w.cell? ⟨g,i*4,none⟩=some (.int .i64 l[i].i)/\w.cell? ⟨g,i*4+1,none⟩=some (.int .i64 l[i].t)/\w.cell? ⟨g,i*4+2,none⟩=some (.string l[i].k)/\w.cell? ⟨g,i*4+3,none⟩=some (.int .i64 l[i].n))/\w.frozen? ⟨g,i*4,none⟩=false/\w.frozen? ⟨g,i*4+1,none⟩=false/\w.frozen? ⟨g,i*4+2,none⟩=false/\w.frozen? ⟨g,i*4+3,none⟩=false:=by
 exact aeM
theorem YJ (g c s:Nat) (l:List jC) (w:World) (hs0:0 < s) (hs1:s<=4000000000000000) (hl:l.length<=1048600) (ha:GR.W aM 4 w a g l):
 Calls prog 73 #[.slice a l.length c,.int .i64 s] w λe w'=>e= .returned (.int .i64 (s+4*(l.length:Int)))/\GR.W aM 4 w' a g (jH iA 4 s l l.length)/\aA (fp g l) w w':=by
 have HA:=Hq ha;clear ha;go_in
 go_wp2_with fail;go_loopw [1,5] (λkk i wr=>∃k m:Nat,k<=l.length/\i= .int .i64 k/\kk= .int .i64 m/\m=s+4*k/\GR.W aM 4 wr a g (jH iA 4 s l k)/\aA (fp g l) w wr) (λ_ i _=>l.length - (intOf i).toNat)
 case atStart=>exact XW
 case round=>
  open apH in exact SL
theorem Yq (g c n s:Nat) (l:List jC) (w:World) (hn:n=l.length) (hs0:0 < s) (hs1:s<=4000000000000000) (hl:l.length<=1048600) (ha:GR.W aM 4 w a g (jH iA 4 s l l.length)):
 Calls prog 78 #[.slice a n c,.int .i64 s] w (dM w (.int .i64 (s+4*(l.length:Int)))):=by
 have HA:=Hq ha;clear ha;subst hn;go_in
 go_wp2_with fail;go_loopw [1,5] (λkk i wr=>∃k m:Nat,k<=l.length/\i= .int .i64 k/\kk= .int .i64 m/\m=s+4*k/\aH w wr) (λ_ i _=>l.length - (intOf i).toNat)
 case atStart=>exact Tg
 case round=>
  open arQ in exact ER
def jO (k:Nat):Rq:=⟨(k:Int),mark (k+1),(k:Int)+2,(k:Int)+3⟩
theorem GR.W.fourReq {a:Option Addr} {l:List Rq} (h:GR.W aL 4 w a g l) (i:Nat) (hi:i < l.length):a=some ⟨g,0,none⟩/\g < w.heap.size/\(w.cell? ⟨g,i*4,none⟩=some (.int .i64 l[i].no)/\w.cell? ⟨g,i*4+1,none⟩=some (.string l[i].k)/\w.cell? ⟨g,i*4+2,none⟩=some (.int .i64 l[i].n)/\w.cell? ⟨g,i*4+3,none⟩=some (.int .i64 l[i].s))/\w.frozen? ⟨g,i*4,none⟩=false/\w.frozen? ⟨g,i*4+1,none⟩=false/\w.frozen? ⟨g,i*4+2,none⟩=false/\w.frozen? ⟨g,i*4+3,none⟩=false:=by
 exact aeM
theorem acS (g c s:Nat) (l:List Rq) (w:World) (hs0:0 < s) (hs1:s<=4000000000000000) (hl:l.length<=1048600) (ha:GR.W aL 4 w a g l):
 Calls prog 75 #[.slice a l.length c,.int .i64 s] w λe w'=>e= .returned (.int .i64 (s+4*(l.length:Int)))/\GR.W aL 4 w' a g (jH jO 4 s l l.length)/\aA (fp g l) w w':=by
 have HA:=Hq ha;clear ha;go_in
 go_wp2_with fail;go_loopw [1,5] (λkk i wr=>∃k m:Nat,k<=l.length/\i= .int .i64 k/\kk= .int .i64 m/\m=s+4*k/\GR.W aL 4 wr a g (jH jO 4 s l k)/\aA (fp g l) w wr) (λ_ i _=>l.length - (intOf i).toNat)
 case atStart=>exact XW
 case round=>
  open apG in exact SL
theorem ab0 (g c n s:Nat) (l:List Rq) (w:World) (hn:n=l.length) (hs0:0 < s) (hs1:s<=4000000000000000) (hl:l.length<=1048600) (ha:GR.W aL 4 w a g (jH jO 4 s l l.length)):
 Calls prog 80 #[.slice a n c,.int .i64 s] w (dM w (.int .i64 (s+4*(l.length:Int)))):=by
 have HA:=Hq ha;clear ha;subst hn;go_in
 go_wp2_with fail;go_loopw [1,5] (λkk i wr=>∃k m:Nat,k<=l.length/\i= .int .i64 k/\kk= .int .i64 m/\m=s+4*k/\aH w wr) (λ_ i _=>l.length - (intOf i).toNat)
 case atStart=>exact Tg
 case round=>
  open arP in exact ER
def mkInt (k:Nat):Int:=k
theorem GR.W.one {a:Option Addr} {l:List Int} (h:GR.W bf 1 w a g l) (i:Nat) (hi:i < l.length):a=some ⟨g,0,none⟩/\g < w.heap.size/\w.cell? ⟨g,i,none⟩=some (.int .i64 l[i])/\w.frozen? ⟨g,i,none⟩=false:=by
 obtain⟨e,hg,hc⟩:=h i hi;exact⟨e,hg,by simpa using(hc 0 Aaa).1,by simpa using(hc 0 Aaa).2⟩
theorem acR (g c s:Nat) (l:List Int) (w:World) (hs0:0 < s) (hs1:s<=4000000000000000) (hl:l.length<=1048600) (ha:GR.W bf 1 w a g l):
 Calls prog 71 #[.slice a l.length c,.int .i64 s] w λe w'=>e= .returned (.int .i64 (s+(l.length:Int)))/\GR.W bf 1 w' a g (jH mkInt 1 s l l.length)/\aA (fp g l) w w':=by
 have HA:=Hq ha;clear ha;go_in
 go_wp2_with fail;go_loopw [1,5] (λkk i wr=>∃k m:Nat,k<=l.length/\i= .int .i64 k/\kk= .int .i64 m/\m=s+1*k/\GR.W bf 1 wr a g (jH mkInt 1 s l k)/\aA (fp g l) w wr) (λ_ i _=>l.length - (intOf i).toNat)
 case atStart=>exact XW
 case round=>
  open apF in exact SL
theorem abZ (g c n s:Nat) (l:List Int) (w:World) (hn:n=l.length) (hs0:0 < s) (hs1:s<=4000000000000000) (hl:l.length<=1048600) (ha:GR.W bf 1 w a g (jH mkInt 1 s l l.length)):
 Calls prog 76 #[.slice a n c,.int .i64 s] w (dM w (.int .i64 (s+(l.length:Int)))):=by
 have HA:=Hq ha;clear ha;subst hn;go_in
 go_wp2_with fail;go_loopw [1,5] (λkk i wr=>∃k m:Nat,k<=l.length/\i= .int .i64 k/\kk= .int .i64 m/\m=s+1*k/\aH w wr) (λ_ i _=>l.length - (intOf i).toNat)
 case atStart=>exact Tg
 case round=>
  open arO in exact ER
structure Em (S:Nat->Prop) (w w':World):Prop where
 os:w'.os=w.os
 tape:w'.tape=w.tape
 output:w'.output=w.output
 size:w.heap.size<=w'.heap.size
 block:∀k,k < w.heap.size->¬S k->w'.heap[k]?=w.heap[k]?
 cell:∀g o,(w.cell? ⟨g,o,none⟩).isSome=true->(w'.cell? ⟨g,o,none⟩).isSome=true
 froz:∀g o,g < w.heap.size->w'.frozen? ⟨g,o,none⟩=w.frozen? ⟨g,o,none⟩
theorem Em.refl (S:Nat->Prop) (w:World):Em S w w:=⟨rfl,rfl,rfl,aEM _,λ_ _ _=>rfl,λ_ _ h=>h,λ_ _ _=>rfl⟩
theorem Em.trans {a c:World} (h:Em S a b) (k:Em S b c):Em S a c:=
 ⟨k.os.trans h.os,k.tape.trans h.tape,k.output.trans h.output,aEP h.size k.size,λi hi hS=>(k.block i (aEU hi h.size) hS).trans (h.block i hi hS),λg o hc=>k.cell g o (h.cell g o hc),λg o hg=>(k.froz g o (aEU hg h.size)).trans (h.froz g o hg)⟩
theorem Em.mono {a:World} (h:Em S a b) (hs:∀x,S x->S' x):Em S' a b:=⟨h.os,h.tape,h.output,h.size,λi hi hS=>h.block i hi (λhx=>hS (hs i hx)),h.cell,h.froz⟩
theorem Em.of_below (h:aH w w'):Em S w w':=
 ⟨h.os,h.tape,h.output,h.size,λk hk _=>h.block k hk,λg o hc=>by
  obtain⟨v,hv⟩:=Option.isSome_iff_exists.1 hc
  have hg:=aFO w _ hv
  rw [h.cell (p:=⟨g,o,none⟩) hg]
  exact hc,λg o hg=>h.frozen (p:=⟨g,o,none⟩) hg⟩
theorem Em.below {a c:World} (h:Em S a b) (hb:aH b c):Em S a c:=h.trans (Em.of_below hb)
theorem Uh (w:World) (p:Addr) (v:Value) (a:Addr) (h:(w.cell? a).isSome=true):((w.setCell p v).cell? a).isSome=true:=by
 obtain⟨u,hu⟩:=Option.isSome_iff_exists.1 h;by_cases e:p=a
 .subst e;rw [aGv _ _ _ hu];rfl
 .rw [aFV _ _ _ _ e,hu];rfl
theorem Em.set {a:World} (h:Em S a b) (hS:S g) (o:Nat) (v:Value):Em S a (b.setCell ⟨g,o,none⟩ v):=
 h.trans ⟨rfl,rfl,rfl,Aaq,λk _ hk=>aE9 _ _ _ _ (λe=>hk (by simpa [e] using hS)),λg' o' hc=>Uh b _ v _ hc,λg' o' _=>by rw [World.frozen?_setCell]⟩
theorem Em.under {a:World} {B:Nat} (h:Em S a b) (hS:∀x,S x->B<=x) (hB:B<=a.heap.size):Below B a b:=⟨h.os,h.tape,h.output,h.size,λk hk=>h.block k Aaa (λhx=>by have:=hS k hx;omega)⟩
theorem Em.obj {o:Obj} (h:Em S w w') (ho:w.heap[g]?=some o) (hg:¬S g):w'.heap[g]?=some o:=by
 rw [h.block g (ay ho) hg];exact ho
def Wr (S:Nat->Prop) (w:World) (a:Option Addr) (n sz:Nat):Prop:=∀i,i < n->∃g,a=some ⟨g,0,none⟩/\S g/\g < w.heap.size/\∀j,j < sz->(w.cell? ⟨g,i*sz+j,none⟩).isSome=true/\w.frozen? ⟨g,i*sz+j,none⟩=false
theorem Wr.mono {a:Option Addr} {n:Nat} (h:Wr S w a n sz) (hs:∀x,S x->S' x):Wr S' w a n sz:=λi hi=>by
 obtain⟨g,e,hS,hg,hc⟩:=h i hi;exact⟨g,e,hs g hS,hg,hc⟩
theorem Wr.of_W {α:Type} {enc:α->List Value} {sz:Nat} {S:Nat->Prop} {w:World} {a:Option Addr} {g:Nat} {l:List α} (hs:∀x,(enc x).length=sz) (h:GR.W enc sz w a g l) (hS:0 < l.length->S g):Wr S w a l.length sz:=λi hi=>by
 obtain⟨e,hg,hc⟩:=h i hi;refine⟨g,e,hS Aaa,hg,λj hj=>⟨?_,(hc j hj).2⟩⟩;rw [(hc j hj).1,aEQ (by rw [hs];exact hj)];rfl
theorem Wr.of_blk {α:Type} {enc:α->List Value} {sz:Nat} {t:TypeId} {S:Nat->Prop} {w:World} {g:Nat} {l:List α} (hs:∀x,(enc x).length=sz) (h:GR.Blk enc t w g l) (hS:S g):Wr S w (some ⟨g,0,none⟩) l.length sz:=Wr.of_W hs (GR.W.of_blk hs h) (λ_=>hS)
end Go.Proofs.YtbolgdleijjgfaaGreatDoor
