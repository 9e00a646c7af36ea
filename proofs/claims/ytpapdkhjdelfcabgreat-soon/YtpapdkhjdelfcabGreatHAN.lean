import Derived.Test.YtpapdkhjdelfcabGreatHAA
import Derived.Test.YtpapdkhjdelfcabGreatHAB
import Derived.Deep.LoopGhost
import Derived.Test.YtpapdkhjdelfcabGreatHAM
set_option maxRecDepth 100000
set_option maxHeartbeats 4000000
namespace Go.Proofs.YtpapdkhjdelfcabGreat
open Go.RowKit
theorem within_yes (n l m:Int) (w:World) (h1:l≤n) (h2:n≤m):
  Calls Tryz.prog 82 #[.int .i64 n,.int .i64 l,.int .i64 m] w fun e w'=>e= .returned (.bool true)∧w=w':=by
 go_enter Tryz.func82,Tryz.ntmps82;go_wp2;go_ret;exact ⟨rfl,rfl⟩
theorem within_no (n l m:Int) (w:World) (h:¬(l≤n∧n≤m)):
  Calls Tryz.prog 82 #[.int .i64 n,.int .i64 l,.int .i64 m] w fun e w'=>e= .returned (.bool false)∧w=w':=by
 by_cases h1:l≤n
 ·have h2:¬n≤m:=fun h2=>h ⟨h1,h2⟩
  clear h;go_enter Tryz.func82,Tryz.ntmps82;go_wp2;go_ret;exact ⟨rfl,rfl⟩
 ·clear h;go_enter Tryz.func82,Tryz.ntmps82;go_wp2;go_ret;exact ⟨rfl,rfl⟩
def RPrime (n:Int) (w:World) (e:Ending) (w':World):Prop:=∃x,e= .returned (.bool x)∧w=w'∧IsB (∀d:Nat,2≤d→(d:Int)<n→n % d≠0) x
theorem prime_any (n:Int) (w:World) (h1:3≤n) (h2:n≤211):
  Calls Tryz.prog 139 #[.int .i64 n] w (RPrime n w):=by
 go_enter Tryz.func139,Tryz.ntmps139;go_wp2;go_loopg [3] 209 (fun r d wr=>w=wr∧∃k:Nat,r=211 - k∧2≤k∧(k:Int)≤n∧d= .int .i64 k∧∀e:Nat,2≤e→e<k→n % e≠0)
 case atStart=>exact ⟨rfl,2,by omega,by omega,by omega,rfl,fun e h1 h2=>by omega⟩
 case round=>
  obtain ⟨rfl,k,hr,hk2,hkn,rfl,hall⟩:=hrel;have HA:Hid (∀e:Nat,2≤e→e<k→n % e≠0):=hall;clear hall;by_cases hlt:(k:Int)<n
  ·cases hd:(n % (k:Int)==0)
   ·go_wp2_with fail;go_roundg (211 - (k+1))
    case measure=>omega
    case rel => exact ⟨rfl, k + 1, rfl, by omega, by omega, by go_num, fun e h1 h2 => by
      by_cases he : e = k
      · subst he; simpa using hd
      · exact HA.out e h1 (by omega)⟩
   ·go_wp2;go_ret;exact ⟨_,rfl,rfl,⟨fun h=>(by cases h),fun h=>absurd (by simpa using hd) (h k hk2 hlt)⟩⟩
  ·go_wp2;go_ret;exact ⟨_,rfl,rfl,⟨fun _ d h1 h2=>HA.out d h1 (by omega),fun _=>rfl⟩⟩
def Cfg.TOK (c:Cfg):Prop:=1≤c.alg∧c.alg≤4∧3≤c.slots∧c.slots≤211∧(∀d:Nat,2≤d→(d:Int)<c.slots→c.slots % d≠0)∧1≤c.points∧c.points≤3∧1≤c.probes∧c.probes≤5∧c.key.size=16
theorem Cfg.ok_iff (c:Cfg):c.OK↔c.TOK∧1≤c.formats∧c.formats≤3:=
 ⟨fun ⟨h1,h2,h3,h4,h5,h6,h7,h8,h9,h10,h11,h12⟩=>⟨⟨h1,h2,h3,h4,h5,h6,h7,h8,h9,h10⟩,h11,h12⟩,fun ⟨⟨h1,h2,h3,h4,h5,h6,h7,h8,h9,h10⟩,h11,h12⟩=>⟨h1,h2,h3,h4,h5,h6,h7,h8,h9,h10,h11,h12⟩⟩
theorem tconfig_any (c:Cfg) (w:World):
  Calls Tryz.prog 81 #[.agg c.cells] w (RBool w (IsB c.TOK)):=by
 obtain ⟨alg,slots,points,probes,key,formats⟩:=c;simp only [Cfg.cells];by_cases halg:1≤alg∧alg≤4
 rotate_left
 ·go_enter Tryz.func81,Tryz.ntmps81;go_wp2_with fail;refine (within_no _ _ _ _ halg).mono ?_;rintro e w' ⟨rfl,rfl⟩;go_wp2;go_ret;exact ⟨_,rfl,by (repeat (first|exact Bel.refl _|assumption|refine Bel.step_alloc ?_ _|refine Bel.step_drew ?_|refine Bel.step_drewN ?_ _|refine Bel.step_set ?_ (by simp <;>omega) _|refine Bel.trans ?_ (by assumption))),⟨fun h=>(by cases h),fun h=>absurd ⟨h.1,h.2.1⟩ halg⟩⟩
 obtain ⟨alg1,alg2⟩:=halg;by_cases hslots:3≤slots∧slots≤211
 rotate_left
 ·go_enter Tryz.func81,Tryz.ntmps81;go_wp2_with fail;refine (within_yes _ _ _ _ (by omega) (by omega)).mono ?_;rintro e w' ⟨rfl,rfl⟩;go_wp2_with fail;refine (within_no _ _ _ _ hslots).mono ?_;rintro e w' ⟨rfl,rfl⟩;go_wp2;go_ret;exact ⟨_,rfl,by (repeat (first|exact Bel.refl _|assumption|refine Bel.step_alloc ?_ _|refine Bel.step_drew ?_|refine Bel.step_drewN ?_ _|refine Bel.step_set ?_ (by simp <;>omega) _|refine Bel.trans ?_ (by assumption))),⟨fun h=>(by cases h),fun h=>absurd ⟨h.2.2.1,h.2.2.2.1⟩ hslots⟩⟩
 obtain ⟨slots1,slots2⟩:=hslots;by_cases hprime:∀d:Nat,2≤d→(d:Int)<slots→slots % d≠0
 rotate_left
 ·go_enter Tryz.func81,Tryz.ntmps81;go_wp2_with fail;refine (within_yes _ _ _ _ (by omega) (by omega)).mono ?_;rintro e w' ⟨rfl,rfl⟩;go_wp2_with fail;refine (within_yes _ _ _ _ (by omega) (by omega)).mono ?_;rintro e w' ⟨rfl,rfl⟩;go_wp2_with fail;refine (prime_any _ _ (by omega) (by omega)).mono ?_;rintro e w' ⟨x,rfl,rfl,hx⟩;have hxf:x=false:=by cases x;rfl;exact absurd (hx.1 rfl) hprime
  subst hxf;clear hx;go_wp2;go_ret;exact ⟨_,rfl,by (repeat (first|exact Bel.refl _|assumption|refine Bel.step_alloc ?_ _|refine Bel.step_drew ?_|refine Bel.step_drewN ?_ _|refine Bel.step_set ?_ (by simp <;>omega) _|refine Bel.trans ?_ (by assumption))),⟨fun h=>(by cases h),fun h=>absurd h.2.2.2.2.1 hprime⟩⟩
 replace hprime:Hid (∀d:Nat,2≤d→(d:Int)<slots→slots % d≠0):=hprime;by_cases hpoints:1≤points∧points≤3
 rotate_left
 ·go_enter Tryz.func81,Tryz.ntmps81;go_wp2_with fail;refine (within_yes _ _ _ _ (by omega) (by omega)).mono ?_;rintro e w' ⟨rfl,rfl⟩;go_wp2_with fail;refine (within_yes _ _ _ _ (by omega) (by omega)).mono ?_;rintro e w' ⟨rfl,rfl⟩;go_wp2_with fail;refine (prime_any _ _ (by omega) (by omega)).mono ?_;rintro e w' ⟨x,rfl,rfl,hx⟩;have hxt:x=true:=hx.2 hprime.out;subst hxt;clear hx;go_wp2_with fail;refine (within_no _ _ _ _ hpoints).mono ?_;rintro e w' ⟨rfl,rfl⟩;go_wp2;go_ret;exact ⟨_,rfl,by (repeat (first|exact Bel.refl _|assumption|refine Bel.step_alloc ?_ _|refine Bel.step_drew ?_|refine Bel.step_drewN ?_ _|refine Bel.step_set ?_ (by simp <;>omega) _|refine Bel.trans ?_ (by assumption))),⟨fun h=>(by cases h),fun h=>absurd ⟨h.2.2.2.2.2.1,h.2.2.2.2.2.2.1⟩ hpoints⟩⟩
 obtain ⟨points1,points2⟩:=hpoints;by_cases hprobes:1≤probes∧probes≤5
 rotate_left
 ·go_enter Tryz.func81,Tryz.ntmps81;go_wp2_with fail;refine (within_yes _ _ _ _ (by omega) (by omega)).mono ?_;rintro e w' ⟨rfl,rfl⟩;go_wp2_with fail;refine (within_yes _ _ _ _ (by omega) (by omega)).mono ?_;rintro e w' ⟨rfl,rfl⟩;go_wp2_with fail;refine (prime_any _ _ (by omega) (by omega)).mono ?_;rintro e w' ⟨x,rfl,rfl,hx⟩;have hxt:x=true:=hx.2 hprime.out;subst hxt;clear hx;go_wp2_with fail;refine (within_yes _ _ _ _ (by omega) (by omega)).mono ?_;rintro e w' ⟨rfl,rfl⟩;go_wp2_with fail;refine (within_no _ _ _ _ hprobes).mono ?_;rintro e w' ⟨rfl,rfl⟩;go_wp2;go_ret;exact ⟨_,rfl,by (repeat (first|exact Bel.refl _|assumption|refine Bel.step_alloc ?_ _|refine Bel.step_drew ?_|refine Bel.step_drewN ?_ _|refine Bel.step_set ?_ (by simp <;>omega) _|refine Bel.trans ?_ (by assumption))),⟨fun h=>(by cases h),fun h=>absurd ⟨h.2.2.2.2.2.2.2.1,h.2.2.2.2.2.2.2.2.1⟩ hprobes⟩⟩
 obtain ⟨probes1,probes2⟩:=hprobes;by_cases hkey:key.size=16
 rotate_left
 ·have hkey':((key.size:Int)==16)=false:=by rw [beq_eq_false_iff_ne];omega
  go_enter Tryz.func81,Tryz.ntmps81;go_wp2_with fail;refine (within_yes _ _ _ _ (by omega) (by omega)).mono ?_;rintro e w' ⟨rfl,rfl⟩;go_wp2_with fail;refine (within_yes _ _ _ _ (by omega) (by omega)).mono ?_;rintro e w' ⟨rfl,rfl⟩;go_wp2_with fail;refine (prime_any _ _ (by omega) (by omega)).mono ?_;rintro e w' ⟨x,rfl,rfl,hx⟩;have hxt:x=true:=hx.2 hprime.out;subst hxt;clear hx;go_wp2_with fail;refine (within_yes _ _ _ _ (by omega) (by omega)).mono ?_;rintro e w' ⟨rfl,rfl⟩;go_wp2_with fail;refine (within_yes _ _ _ _ (by omega) (by omega)).mono ?_;rintro e w' ⟨rfl,rfl⟩;go_wp2;go_ret;exact ⟨_,rfl,by (repeat (first|exact Bel.refl _|assumption|refine Bel.step_alloc ?_ _|refine Bel.step_drew ?_|refine Bel.step_drewN ?_ _|refine Bel.step_set ?_ (by simp <;>omega) _|refine Bel.trans ?_ (by assumption))),⟨fun h=>(by cases h),fun h=>absurd h.2.2.2.2.2.2.2.2.2 hkey⟩⟩
 go_enter Tryz.func81,Tryz.ntmps81;go_wp2_with fail;refine (within_yes _ _ _ _ (by omega) (by omega)).mono ?_;rintro e w' ⟨rfl,rfl⟩;go_wp2_with fail;refine (within_yes _ _ _ _ (by omega) (by omega)).mono ?_;rintro e w' ⟨rfl,rfl⟩;go_wp2_with fail;refine (prime_any _ _ (by omega) (by omega)).mono ?_;rintro e w' ⟨x,rfl,rfl,hx⟩;have hxt:x=true:=hx.2 hprime.out;subst hxt;clear hx;go_wp2_with fail;refine (within_yes _ _ _ _ (by omega) (by omega)).mono ?_;rintro e w' ⟨rfl,rfl⟩;go_wp2_with fail;refine (within_yes _ _ _ _ (by omega) (by omega)).mono ?_;rintro e w' ⟨rfl,rfl⟩;go_wp2;go_ret;exact ⟨_,rfl,by (repeat (first|exact Bel.refl _|assumption|refine Bel.step_alloc ?_ _|refine Bel.step_drew ?_|refine Bel.step_drewN ?_ _|refine Bel.step_set ?_ (by simp <;>omega) _|refine Bel.trans ?_ (by assumption))),⟨fun _=>⟨alg1,alg2,slots1,slots2,hprime.out,points1,points2,probes1,probes2,hkey⟩,fun _=>rfl⟩⟩
def Within (n l m:Int):Prop:=l≤n∧n≤m
theorem within_is (n l m:Int) (w:World):Calls Tryz.prog 82 #[.int .i64 n,.int .i64 l,.int .i64 m] w fun e w'=>∃x:Bool,e= .returned (.bool x)∧w=w'∧IsB (Within n l m) x:=by
 by_cases h:l≤n∧n≤m
 ·refine (within_yes n l m w h.1 h.2).mono ?_;rintro e w' ⟨rfl,rfl⟩;exact ⟨true,rfl,rfl,⟨fun _=>h,fun _=>rfl⟩⟩
 ·refine (within_no n l m w h).mono ?_;rintro e w' ⟨rfl,rfl⟩;exact ⟨false,rfl,rfl,⟨fun e=>(by cases e),fun e=>absurd e h⟩⟩
def RWithin (n l m:Int) (w:World) (e:Ending) (w':World):Prop:=∃x:Bool,e= .returned (.bool x)∧w=w'∧IsB (Within n l m) x
theorem formats_is (n:Int) (w:World):Calls Tryz.prog 57 #[.int .i64 n] w (RWithin n 1 3 w):=by
 go_enter Tryz.func57,Tryz.ntmps57;go_wp2_with fail;refine (within_is n 1 3 _).mono ?_;rintro e w1 ⟨x,rfl,rfl,hx⟩;have HX:=Hid.mk hx;clear hx;go_wp2;go_ret;exact ⟨_,rfl,rfl,HX.out⟩
theorem format_is (n:Int) (w:World):Calls Tryz.prog 165 #[.int .i64 n] w (RWithin n 1 2 w):=by
 go_enter Tryz.func165,Tryz.ntmps165;go_wp2_with fail;refine (within_is n 1 2 _).mono ?_;rintro e w1 ⟨x,rfl,rfl,hx⟩;have HX:=Hid.mk hx;clear hx;go_wp2;go_ret;exact ⟨_,rfl,rfl,HX.out⟩
theorem generation_is (n:Int) (w:World):Calls Tryz.prog 226 #[.int .i64 n] w (RWithin n 1 1073741824 w):=by
 go_enter Tryz.func226,Tryz.ntmps226;go_wp2_with fail;refine (within_is n 1 1073741824 _).mono ?_;rintro e w1 ⟨x,rfl,rfl,hx⟩;have HX:=Hid.mk hx;clear hx;go_wp2;go_ret;exact ⟨_,rfl,rfl,HX.out⟩
theorem config_any (c:Cfg) (w:World):
  Calls Tryz.prog 37 #[.agg c.cells] w (RBool w (IsB c.OK)):=by
 have htc:=fun wx=>tconfig_any c wx
 have HO:=Hid.mk c.ok_iff;have hfm:=fun wx=>formats_is c.formats wx
 obtain ⟨TO,hTO⟩:∃P,P=c.TOK:=⟨_,rfl⟩;obtain ⟨OK,hOK⟩:∃P,P=c.OK:=⟨_,rfl⟩;rw [←hTO] at htc HO;rw [←hOK] at HO ⊢;clear hTO hOK;obtain ⟨alg,slots,points,probes,key,formats⟩:=c;simp only [Cfg.cells] at *;go_enter Tryz.func37,Tryz.ntmps37;go_wp2_with fail;refine (htc _).mono ?_;rintro e w1 ⟨x,rfl,hb1,hx⟩;have d5:w1.cell? ⟨w.heap.size,5,none⟩=some (.int .i64 formats):=hb1.cell (by simp);have hbw:Bel w w1:=(Bel.step_alloc (Bel.refl w) _).trans hb1;clear htc hb1;cases x
 ·have hn:¬OK:=fun h=>by have:=hx.2 (HO.out.1 h).1;cases this
  have HN:=Hid.mk hn;clear hx hn HO;go_wp2;go_ret;exact ⟨_,rfl,hbw,⟨fun h=>(by cases h),fun h=>absurd h HN.out⟩⟩
 ·have HT:=Hid.mk (hx.1 rfl);clear hx;go_wp2_with fail;refine (hfm _).mono ?_;rintro e w2 ⟨y,rfl,rfl,hy⟩;have HY:Hid (IsB OK y):=⟨fun h=>HO.out.2 ⟨HT.out,hy.1 h⟩,fun h=>hy.2 (HO.out.1 h).2⟩;clear hy hfm HO HT;go_wp2;go_ret;exact ⟨_,rfl,hbw,HY.out⟩
end Go.Proofs.YtpapdkhjdelfcabGreat
namespace Go.Proofs.YtpapdkhjdelfcabGreat
open Go.RowKit
variable {vL:Value}
theorem mask_grow (N M:List Nat) (w:World) (h:∀k∈N,w.heap.size≤k):mask (N++M) w=mask M w:=by
 unfold mask;congr 1;apply Array.ext
 ·simp
 ·intro i h1 h2;have hi:i<w.heap.size:=by simpa using h1
  have:i∉N:=fun hn=>by have:=h i hn;omega
  simp [this]
theorem mask_row {M:List Nat} {base:Nat} {w:World} {e:TypeId} {s:Nat} {v:Value} {n:Nat} {xs:List Value} (h:w.ownsRow base e s v n xs) (hM:∀k∈M,k<base):RowAt (mask M w) v n xs:=by
 rcases RowAt.of_owns h with h1|⟨g,cap,hv,hn,hg,hc⟩
 ·exact Or.inl h1
 ·have hg2:=(h.lt g (by rw [hv];rfl)).1;exact Or.inr ⟨g,cap,hv,hn,by rw [mask_size];exact hg,fun j u hu=>mask_cell_new hM (by simp only;omega) (hc j u hu)⟩
theorem RowAt.unmask {M:List Nat} {w:World} {v:Value} {n:Nat} {xs:List Value} (h:RowAt (mask M w) v n xs):RowAt w v n xs:=by
 rcases h with h1|⟨g,cap,hv,hn,hg,hc⟩
 ·exact Or.inl h1
 ·exact Or.inr ⟨g,cap,hv,hn,by rw [mask_size] at hg;exact hg,fun j u hu=>(mask_cell.1 (hc j u hu)).1⟩
theorem PoolAt.unmask {M:List Nat} {w:World} {v:Value} {B:List BK} (h:PoolAt (mask M w) v B):PoolAt w v B:=RowAt.unmask h
theorem EIAt.unmask {M:List Nat} {w:World} {v:Value} {B:List EI} (h:EIAt (mask M w) v B):EIAt w v B:=RowAt.unmask h
def Frz9 (q:Nat) (w:World):Prop:=w.frozen? ⟨q,0,none⟩=false∧w.frozen? ⟨q,1,none⟩=false∧w.frozen? ⟨q,2,none⟩=false∧w.frozen? ⟨q,3,none⟩=false∧w.frozen? ⟨q,4,none⟩=false∧w.frozen? ⟨q,5,none⟩=false∧w.frozen? ⟨q,6,none⟩=false∧w.frozen? ⟨q,7,none⟩=false∧w.frozen? ⟨q,8,none⟩=false
def FrzL (vL:Value) (q:Nat) (w:World):Prop:=Frz9 q w∧w.cell? ⟨q,9,none⟩=some vL∧w.frozen? ⟨q,9,none⟩=false
def SvcAt (vL:Value) (M:List Nat) (q:Nat) (c:Cfg) (B:List BK) (g:Int) (w:World):Prop:=q∈M∧∃vP vE,TabAt w q c vP vE∧w.cell? ⟨q,8,none⟩=some (.int .i64 g)∧FrzL vL q w∧PoolAt (mask M w) vP B∧EIAt (mask M w) vE (mkF c B)
theorem Frz9.but {M':List Nat} {q:Nat} {w w':World} (h:Frz9 q w) (k:But M' w w') (hq:q∉M') (hlt:q<w.heap.size):Frz9 q w':=by
 obtain ⟨h0,h1,h2,h3,h4,h5,h6,h7,h8⟩:=h;have hf:∀o,w'.frozen? ⟨q,o,none⟩=w.frozen? ⟨q,o,none⟩:=fun o=>World.frozen?_of_block (w:=w) (k.block q hlt hq)
 exact ⟨(hf 0).trans h0,(hf 1).trans h1,(hf 2).trans h2,(hf 3).trans h3,(hf 4).trans h4,(hf 5).trans h5,(hf 6).trans h6,(hf 7).trans h7,(hf 8).trans h8⟩
theorem FrzL.but {M':List Nat} {q:Nat} {w w':World} (h:FrzL vL q w) (k:But M' w w') (hq:q∉M') (hlt:q<w.heap.size):FrzL vL q w':=
 ⟨h.1.but k hq hlt,k.cell h.2.1 hq,(World.frozen?_of_block (w:=w) (k.block q hlt hq)).trans h.2.2⟩
theorem TabAt.but {M':List Nat} {q:Nat} {c:Cfg} {vP vE:Value} {w w':World} (h:TabAt w q c vP vE) (k:But M' w w') (hq:q∉M'):TabAt w' q c vP vE:=by
 obtain ⟨⟨h0,h1,h2,h3,h4,h5⟩,h6,h7⟩:=h;exact ⟨⟨k.cell h0 hq,k.cell h1 hq,k.cell h2 hq,k.cell h3 hq,k.cell h4 hq,k.cell h5 hq⟩,k.cell h6 hq,k.cell h7 hq⟩
theorem SvcAt.lt {M:List Nat} {q:Nat} {c:Cfg} {B:List BK} {g:Int} {w:World} (h:SvcAt vL M q c B g w):q<w.heap.size:=by
 obtain ⟨_,_,_,_,h8,_⟩:=h;exact World.block_lt_of_cell? w _ h8
theorem SvcAt.but {M M':List Nat} {q:Nat} {c:Cfg} {B:List BK} {g:Int} {w w':World} (h:SvcAt vL M q c B g w) (k:But M' w w') (hq:q∉M') (hs:∀j∈M',j∈M∨w.heap.size≤j):SvcAt vL M q c B g w':=by
 have hlt:=h.lt;obtain ⟨hm,vP,vE,hT,h8,hF,hP,hE⟩:=h;have hb:Bel (mask M w) (mask M w'):=k.mono hs;exact ⟨hm,vP,vE,hT.but k hq,k.cell h8 hq,hF.but k hq hlt,hP.later hb,hE.later hb⟩
theorem SvcAt.later {M:List Nat} {q:Nat} {c:Cfg} {B:List BK} {g:Int} {w w':World} (h:SvcAt vL M q c B g w) (k:Bel w w'):SvcAt vL M q c B g w':=h.but (M':=[]) (But.of_bel k) (by simp) (by simp)
theorem SvcAt.grow {M:List Nat} {q:Nat} {c:Cfg} {B:List BK} {g:Int} {w:World} (h:SvcAt vL M q c B g w) (N:List Nat) (hN:∀k∈N,w.heap.size≤k):SvcAt vL (N++M) q c B g w:=by
 obtain ⟨hm,vP,vE,hT,h8,hF,hP,hE⟩:=h;rw [←mask_grow N M w hN] at hP hE;exact ⟨List.mem_append_right _ hm,vP,vE,hT,h8,hF,hP,hE⟩
def RSvc0 (vL:Value) (M:List Nat) (q:Nat) (c:Cfg) (B:List BK) (g:Int) (w:World) (e:Ending) (w':World):Prop:=e= .returned (.tuple #[])∧But [q] w w'∧SvcAt vL M q c B g w'
def RSvc (vL:Value) (M:List Nat) (q:Nat) (c:Cfg) (B:List BK) (g:Int) (err:Int) (w:World) (e:Ending) (w':World):Prop:=e= .returned (.int .i64 err)∧But [q] w w'∧SvcAt vL M q c B g w'
theorem set9 {w:World} {q:Nat} {u0 u1 u2 u3 u4 u5 u6 u7 u8:Value} (v0 v1 v2 v3 v4 v5 v6 v7 v8:Value) (h0:w.cell? ⟨q,0,none⟩=some u0) (h1:w.cell? ⟨q,1,none⟩=some u1) (h2:w.cell? ⟨q,2,none⟩=some u2) (h3:w.cell? ⟨q,3,none⟩=some u3) (h4:w.cell? ⟨q,4,none⟩=some u4) (h5:w.cell? ⟨q,5,none⟩=some u5) (h6:w.cell? ⟨q,6,none⟩=some u6) (h7:w.cell? ⟨q,7,none⟩=some u7) (h8:w.cell? ⟨q,8,none⟩=some u8):
  (((((((((w.setCell ⟨q,0,none⟩ v0).setCell ⟨q,1,none⟩ v1).setCell ⟨q,2,none⟩ v2).setCell ⟨q,3,none⟩ v3).setCell ⟨q,4,none⟩ v4).setCell ⟨q,5,none⟩ v5).setCell ⟨q,6,none⟩ v6).setCell ⟨q,7,none⟩ v7).setCell ⟨q,8,none⟩ v8).cell? ⟨q,0,none⟩=some v0∧(((((((((w.setCell ⟨q,0,none⟩ v0).setCell ⟨q,1,none⟩ v1).setCell ⟨q,2,none⟩ v2).setCell ⟨q,3,none⟩ v3).setCell ⟨q,4,none⟩ v4).setCell ⟨q,5,none⟩ v5).setCell ⟨q,6,none⟩ v6).setCell ⟨q,7,none⟩ v7).setCell ⟨q,8,none⟩ v8).cell? ⟨q,1,none⟩=some v1∧(((((((((w.setCell ⟨q,0,none⟩ v0).setCell ⟨q,1,none⟩ v1).setCell ⟨q,2,none⟩ v2).setCell ⟨q,3,none⟩ v3).setCell ⟨q,4,none⟩ v4).setCell ⟨q,5,none⟩ v5).setCell ⟨q,6,none⟩ v6).setCell ⟨q,7,none⟩ v7).setCell ⟨q,8,none⟩ v8).cell? ⟨q,2,none⟩=some v2∧(((((((((w.setCell ⟨q,0,none⟩ v0).setCell ⟨q,1,none⟩ v1).setCell ⟨q,2,none⟩ v2).setCell ⟨q,3,none⟩ v3).setCell ⟨q,4,none⟩ v4).setCell ⟨q,5,none⟩ v5).setCell ⟨q,6,none⟩ v6).setCell ⟨q,7,none⟩ v7).setCell ⟨q,8,none⟩ v8).cell? ⟨q,3,none⟩=some v3∧(((((((((w.setCell ⟨q,0,none⟩ v0).setCell ⟨q,1,none⟩ v1).setCell ⟨q,2,none⟩ v2).setCell ⟨q,3,none⟩ v3).setCell ⟨q,4,none⟩ v4).setCell ⟨q,5,none⟩ v5).setCell ⟨q,6,none⟩ v6).setCell ⟨q,7,none⟩ v7).setCell ⟨q,8,none⟩ v8).cell? ⟨q,4,none⟩=some v4∧(((((((((w.setCell ⟨q,0,none⟩ v0).setCell ⟨q,1,none⟩ v1).setCell ⟨q,2,none⟩ v2).setCell ⟨q,3,none⟩ v3).setCell ⟨q,4,none⟩ v4).setCell ⟨q,5,none⟩ v5).setCell ⟨q,6,none⟩ v6).setCell ⟨q,7,none⟩ v7).setCell ⟨q,8,none⟩ v8).cell? ⟨q,5,none⟩=some v5∧(((((((((w.setCell ⟨q,0,none⟩ v0).setCell ⟨q,1,none⟩ v1).setCell ⟨q,2,none⟩ v2).setCell ⟨q,3,none⟩ v3).setCell ⟨q,4,none⟩ v4).setCell ⟨q,5,none⟩ v5).setCell ⟨q,6,none⟩ v6).setCell ⟨q,7,none⟩ v7).setCell ⟨q,8,none⟩ v8).cell? ⟨q,6,none⟩=some v6∧(((((((((w.setCell ⟨q,0,none⟩ v0).setCell ⟨q,1,none⟩ v1).setCell ⟨q,2,none⟩ v2).setCell ⟨q,3,none⟩ v3).setCell ⟨q,4,none⟩ v4).setCell ⟨q,5,none⟩ v5).setCell ⟨q,6,none⟩ v6).setCell ⟨q,7,none⟩ v7).setCell ⟨q,8,none⟩ v8).cell? ⟨q,7,none⟩=some v7∧(((((((((w.setCell ⟨q,0,none⟩ v0).setCell ⟨q,1,none⟩ v1).setCell ⟨q,2,none⟩ v2).setCell ⟨q,3,none⟩ v3).setCell ⟨q,4,none⟩ v4).setCell ⟨q,5,none⟩ v5).setCell ⟨q,6,none⟩ v6).setCell ⟨q,7,none⟩ v7).setCell ⟨q,8,none⟩ v8).cell? ⟨q,8,none⟩=some v8:=by
 exact ⟨by rw [set_other (by simp),set_other (by simp),set_other (by simp),set_other (by simp),set_other (by simp),set_other (by simp),set_other (by simp),set_other (by simp)];exact set_same (v:=u0) (by exact h0),by rw [set_other (by simp),set_other (by simp),set_other (by simp),set_other (by simp),set_other (by simp),set_other (by simp),set_other (by simp)];exact set_same (v:=u1) (by rw [set_other (by simp)];exact h1),by rw [set_other (by simp),set_other (by simp),set_other (by simp),set_other (by simp),set_other (by simp),set_other (by simp)];exact set_same (v:=u2) (by rw [set_other (by simp),set_other (by simp)];exact h2),by rw [set_other (by simp),set_other (by simp),set_other (by simp),set_other (by simp),set_other (by simp)];exact set_same (v:=u3) (by rw [set_other (by simp),set_other (by simp),set_other (by simp)];exact h3),by rw [set_other (by simp),set_other (by simp),set_other (by simp),set_other (by simp)];exact set_same (v:=u4) (by rw [set_other (by simp),set_other (by simp),set_other (by simp),set_other (by simp)];exact h4),by rw [set_other (by simp),set_other (by simp),set_other (by simp)];exact set_same (v:=u5) (by rw [set_other (by simp),set_other (by simp),set_other (by simp),set_other (by simp),set_other (by simp)];exact h5),by rw [set_other (by simp),set_other (by simp)];exact set_same (v:=u6) (by rw [set_other (by simp),set_other (by simp),set_other (by simp),set_other (by simp),set_other (by simp),set_other (by simp)];exact h6),by rw [set_other (by simp)];exact set_same (v:=u7) (by rw [set_other (by simp),set_other (by simp),set_other (by simp),set_other (by simp),set_other (by simp),set_other (by simp),set_other (by simp)];exact h7),by exact set_same (v:=u8) (by rw [set_other (by simp),set_other (by simp),set_other (by simp),set_other (by simp),set_other (by simp),set_other (by simp),set_other (by simp),set_other (by simp)];exact h8)⟩
theorem frz9 {w:World} {q:Nat} (v0 v1 v2 v3 v4 v5 v6 v7 v8:Value) (h:Frz9 q w):Frz9 q (((((((((w.setCell ⟨q,0,none⟩ v0).setCell ⟨q,1,none⟩ v1).setCell ⟨q,2,none⟩ v2).setCell ⟨q,3,none⟩ v3).setCell ⟨q,4,none⟩ v4).setCell ⟨q,5,none⟩ v5).setCell ⟨q,6,none⟩ v6).setCell ⟨q,7,none⟩ v7).setCell ⟨q,8,none⟩ v8):=by
 obtain ⟨h0,h1,h2,h3,h4,h5,h6,h7,h8⟩:=h;exact ⟨by rw [frozen_set,frozen_set,frozen_set,frozen_set,frozen_set,frozen_set,frozen_set,frozen_set,frozen_set];exact h0,by rw [frozen_set,frozen_set,frozen_set,frozen_set,frozen_set,frozen_set,frozen_set,frozen_set,frozen_set];exact h1,by rw [frozen_set,frozen_set,frozen_set,frozen_set,frozen_set,frozen_set,frozen_set,frozen_set,frozen_set];exact h2,by rw [frozen_set,frozen_set,frozen_set,frozen_set,frozen_set,frozen_set,frozen_set,frozen_set,frozen_set];exact h3,by rw [frozen_set,frozen_set,frozen_set,frozen_set,frozen_set,frozen_set,frozen_set,frozen_set,frozen_set];exact h4,by rw [frozen_set,frozen_set,frozen_set,frozen_set,frozen_set,frozen_set,frozen_set,frozen_set,frozen_set];exact h5,by rw [frozen_set,frozen_set,frozen_set,frozen_set,frozen_set,frozen_set,frozen_set,frozen_set,frozen_set];exact h6,by rw [frozen_set,frozen_set,frozen_set,frozen_set,frozen_set,frozen_set,frozen_set,frozen_set,frozen_set];exact h7,by rw [frozen_set,frozen_set,frozen_set,frozen_set,frozen_set,frozen_set,frozen_set,frozen_set,frozen_set];exact h8⟩
theorem publish_is (M:List Nat) (q:Nat) (c:Cfg) (B B':List BK) (g:Int) (v:Value) (w:World) (hS:SvcAt vL M q c B g w) (hM:∀k∈M,k<w.heap.size) (hc:c.OK) (hP:PoolAt w v B') (hB:PoolOK B') (hg0:0≤g) (hg1:g≤4611686018427387904):
  Calls Tryz.prog 42 #[.pointer (some ⟨q,0,none⟩),v] w (RSvc0 vL M q c B' (g+1) w):=by
 have hmk:=make_is c B' v w hP hB hc;obtain ⟨hm,vP0,vE0,⟨⟨h0,h1,h2,h3,h4,h5⟩,h6,h7⟩,h8,⟨⟨f0,f1,f2,f3,f4,f5,f6,f7,f8⟩,h9,f9⟩, -, -⟩:=hS;have hq:q<w.heap.size:=World.block_lt_of_cell? w _ h8;unfold RSvc0 SvcAt;obtain ⟨E,hE⟩:∃E,E=mkF c B':=⟨_,rfl⟩;unfold RMake at hmk;rw [←hE] at hmk ⊢;clear hE hc;unfold TabAt;obtain ⟨alg,slots,points,probes,key,formats⟩:=c;simp only [Cfg.cells,tabV] at *;go_enter Tryz.func42,Tryz.ntmps42;go_wp2_with fail;refine hmk.mono ?_;rintro e w1 ⟨vP,vE,rfl,hb1,hOP,hOE⟩;obtain ⟨aP,capP,rfl⟩:=own_slice hOP;obtain ⟨aE,capE,rfl⟩:=own_slice hOE;have hPm:PoolAt (mask M w1) _ B':=mask_row hOP hM;have hEm:EIAt (mask M w1) _ E:=mask_row hOE hM;clear hOP hOE hmk;have HP:=Hid.mk hPm;have HE:=Hid.mk hEm;clear hPm hEm;have k0:=hb1.cell h0;have k1:=hb1.cell h1;have k2:=hb1.cell h2;have k3:=hb1.cell h3;have k4:=hb1.cell h4;have k5:=hb1.cell h5;have k6:=hb1.cell h6;have k7:=hb1.cell h7;have k8:=hb1.cell h8;have k9:=hb1.cell h9;have e0:=hb1.frozen h0 f0;have e1:=hb1.frozen h1 f1;have e2:=hb1.frozen h2 f2;have e3:=hb1.frozen h3 f3;have e4:=hb1.frozen h4 f4;have e5:=hb1.frozen h5 f5;have e6:=hb1.frozen h6 f6;have e7:=hb1.frozen h7 f7;have e8:=hb1.frozen h8 f8;have e9:=hb1.frozen h9 f9;clear h0 h1 h2 h3 h4 h5 h6 h7 h8 h9 f0 f1 f2 f3 f4 f5 f6 f7 f8 f9;go_wp2;go_end0;obtain ⟨y0,y1,y2,y3,y4,y5,y6,y7,y8⟩:=set9 (.int .i64 alg) (.int .i64 slots) (.int .i64 points) (.int .i64 probes) (.string key) (.int .i64 formats) (.slice aP B'.length capP) (.slice aE E.length capE) (.int .i64 (g+1)) k0 k1 k2 k3 k4 k5 k6 k7 k8;have yf:=frz9 (w:=w1) (q:=q) (.int .i64 alg) (.int .i64 slots) (.int .i64 points) (.int .i64 probes) (.string key) (.int .i64 formats) (.slice aP B'.length capP) (.slice aE E.length capE) (.int .i64 (g+1)) ⟨e0,e1,e2,e3,e4,e5,e6,e7,e8⟩;have hbt:But [q] w1 _:=((((((((((But.refl [q] w1).set (p:=⟨q,0,none⟩) (by simp) (.int .i64 alg)).set (p:=⟨q,1,none⟩) (by simp) (.int .i64 slots)).set (p:=⟨q,2,none⟩) (by simp) (.int .i64 points)).set (p:=⟨q,3,none⟩) (by simp) (.int .i64 probes)).set (p:=⟨q,4,none⟩) (by simp) (.string key)).set (p:=⟨q,5,none⟩) (by simp) (.int .i64 formats)).set (p:=⟨q,6,none⟩) (by simp) (.slice aP B'.length capP)).set (p:=⟨q,7,none⟩) (by simp) (.slice aE E.length capE)).set (p:=⟨q,8,none⟩) (by simp) (.int .i64 (g+1)));have hbM:=hbt.mono (M':=M) (fun k hk=>Or.inl (by simp at hk;subst hk;exact hm));exact ⟨rfl,(But.of_bel hb1).trans hbt,hm,_,_,⟨⟨y0,y1,y2,y3,y4,y5⟩,y6,y7⟩,y8,⟨yf,by rw [set_other (by simp),set_other (by simp),set_other (by simp),set_other (by simp),set_other (by simp),set_other (by simp),set_other (by simp),set_other (by simp),set_other (by simp)];exact k9,by rw [frozen_set,frozen_set,frozen_set,frozen_set,frozen_set,frozen_set,frozen_set,frozen_set,frozen_set];exact e9⟩,HP.out.later hbM,HE.out.later hbM⟩
end Go.Proofs.YtpapdkhjdelfcabGreat
