import Derived.Test.YtpapdkhjdelfcabGreatHBN
import Derived.Test.YtpapdkhjdelfcabGreatHBK
set_option maxRecDepth 100000
set_option maxHeartbeats 4000000
namespace Go.Proofs.YtpapdkhjdelfcabGreat
open Go.RowKit
theorem misK_ge:∀(T:List TP) (k:Nat),k≤misK T k
 |[],k=>Nat.le_refl _
 |x::T,k=>by
  rw [misK];split
  ·have:=misK_ge T (k+1);omega
  ·exact Nat.le_refl _
theorem misK_not:∀(T:List TP) (k:Nat),Ris T→(∀x∈T,k≤x.1)→∀x∈T,x.1≠misK T k
 |[],_,_,_,x,hx=>by cases hx
 |y::T,k,h,hk,x,hx=>by
  obtain ⟨h1,h2⟩:=List.pairwise_cons.1 h;have hy:=hk y List.mem_cons_self;rw [misK];split
  ·rename_i e;rcases List.mem_cons.1 hx with rfl|hx
   ·have:=misK_ge T (k+1);omega
   ·exact misK_not T (k+1) h2 (fun z hz=>by have:=h1 z hz;omega) x hx
  ·rename_i e;rcases List.mem_cons.1 hx with rfl|hx
   ·exact e
   ·have:=h1 x hx;omega
theorem misF_not {T:List TP} (h:Ris T):∀x∈T,x.1≠misF T:=misK_not T 0 h (fun _ _=>Nat.zero_le _)
theorem lay_ge (T:List TP) (p:TP):T.length≤(layF T p).length:=by
 have hl:=layI_le T p.1 T.length;unfold layF;split
 ·rw [List.length_set];exact Nat.le_refl _
 ·rw [List.length_append,List.length_cons,List.length_take,List.length_drop];omega
theorem lay_new {T:List TP} {p:TP} (h:∀x∈T,x.1≠p.1):(layF T p).length=T.length+1:=by
 have hl:=layI_le T p.1 T.length;unfold layF;rw [if_neg]
 ·rw [List.length_append,List.length_cons,List.length_take,List.length_drop];omega
 ·intro e;rcases he:T[layI T p.1 T.length]? with _|x
  ·rw [he] at e;cases e
  ·rw [he] at e;exact h x (List.mem_of_getElem? he) (Option.some.inj e)
theorem take_cases {on:Cfg} {Bs:List (List BK)} {p:Pln} {a:Ans} (hH:HistT on Bs) (hp:PlT on Bs p) (hOK:p.OK) (ha:AnsR a) (hA:PieceT on Bs a):
  (a.1≠1∧takeG p a={p with nf:=a.1==2})∨(a.1=1∧¬useP p.fm p.g p.cg p.cf p.cp p.T a∧takeG p a=p)∨
  (a.1 = 1 ∧ useP p.fm p.g p.cg p.cf p.cp p.T a ∧ newT p.cg p.cf p.cp p.T a = layF (if p.cg < a.2.1 then [] else p.T) (a.2.2.2.2.1, a.2.2.2.2.2) ∧ (p.cg = a.2.1 → p.cp = a.2.2.2.1) ∧ (newT p.cg p.cf p.cp p.T a).length ≤ a.2.2.2.1 ∧
    (((newT p.cg p.cf p.cp p.T a).length = a.2.2.2.1 ∧ (takeG p a).g = a.2.1 ∧ (takeG p a).cg = 0 ∧ (takeG p a).nf = false ∧ (takeG p a).fm = p.fm) ∨
     ((newT p.cg p.cf p.cp p.T a).length ≠ a.2.2.2.1 ∧ takeG p a = { p with cg := a.2.1, cf := a.2.2.1, cp := a.2.2.2.1, T := newT p.cg p.cf p.cp p.T a, nf := false }))) := by
 by_cases h1:a.1=1
 rotate_left
 ·refine Or.inl ⟨h1,?_⟩;unfold takeG;rw [if_pos h1]
 obtain ⟨B,b1,b2,b3,b4,b5,b6⟩:=hA h1;by_cases hu:useP p.fm p.g p.cg p.cf p.cp p.T a
 rotate_left
 ·refine Or.inr (Or.inl ⟨h1,hu,?_⟩);unfold takeG;rw [if_neg (by simpa using h1),if_neg hu]
 refine Or.inr (Or.inr ⟨h1,hu,?_⟩);have hnT:=newT_ok hOK ha hu;have hw:=hu.1;unfold wantB at hw;simp only [Bool.and_eq_true,decide_eq_true_eq] at hw;obtain ⟨⟨⟨w1,w2⟩,w3⟩, -⟩:=hw
 have hT':(com1 p.cg p.cf p.cp p.T a).2.2.2=if p.cg<a.2.1 then [] else p.T:=by
  unfold com1;split <;>rfl
 have hcom:com1 p.cg p.cf p.cp p.T a=(a.2.1,a.2.2.1,a.2.2.2.1,(com1 p.cg p.cf p.cp p.T a).2.2.2)∧(p.cg=a.2.1→p.cp=a.2.2.2.1)∧∀x∈(com1 p.cg p.cf p.cp p.T a).2.2.2,x.1<a.2.2.2.1∧x.2=cutP (imgS a.2.2.1 a.2.1 on B) (x.1:Int):=by
  have u2:=hu.2.1;have u3:=hu.2.2;unfold com1 at u2 u3 ⊢;by_cases hc:p.cg<a.2.1
  ·rw [if_pos hc];exact ⟨rfl,fun e=>by omega,fun x hx=>by cases hx⟩
  ·rw [if_neg hc] at u2 u3 ⊢;simp only at u2 u3;have e:p.cg=a.2.1:=by omega
   rcases hp.1 with h0|⟨B',c1,c2,c3,c4,c5⟩
   ·omega
   ·rw [e] at c2;have eB:B'=B:=by rw [c2] at b2;exact Option.some.inj b2
    subst eB;refine ⟨by rw [e,←u2,←u3],fun _=>u3.symm,fun x hx=>?_⟩;have:=c5 x hx;rw [e,←u2] at this;rw [u3];exact this
 have hmem:∀x∈newT p.cg p.cf p.cp p.T a,x.1<a.2.2.2.1∧x.2=cutP (imgS a.2.2.1 a.2.1 on B) (x.1:Int):=fun x hx=>by
  rcases layF_mem hx with e|e
  ·rw [e];exact ⟨b5,b6⟩
  ·exact hcom.2.2 x e
 have e1:(com1 p.cg p.cf p.cp p.T a).1=a.2.1:=by rw [hcom.1]
 have e2:(com1 p.cg p.cf p.cp p.T a).2.1=a.2.2.1:=by rw [hcom.1]
 have e3:(com1 p.cg p.cf p.cp p.T a).2.2.1=a.2.2.2.1:=by rw [hcom.1]
 refine ⟨by unfold newT;rw [hT'],hcom.2.1,hnT.1.len (fun x hx=>(hmem x hx).1),?_⟩;unfold takeG;rw [if_neg (by simpa using h1),if_pos hu,e1,e2,e3];by_cases hfull:(newT p.cg p.cf p.cp p.T a).length=a.2.2.2.1
 ·refine Or.inl ⟨hfull,?_⟩;rw [if_pos hfull];have hG:=hH.gen b1 b2;have hth:thB (newT p.cg p.cf p.cp p.T a)=imgS a.2.2.1 a.2.1 on B:=thB_full hnT.1 (fun x hx=>by have:=hmem x hx;rw [b4] at this;exact this) (by rw [hfull,b4]);rw [hth,imgS_round b3 hG];dsimp only;rw [if_pos ⟨rfl,rfl⟩];exact ⟨rfl,rfl,rfl,rfl⟩
 ·refine Or.inr ⟨hfull,?_⟩;rw [if_neg hfull]
def PlS (on:Cfg) (p:Pln):Prop:=p.cg≠0→p.T.length<p.cp∧(p.cf &&& on.formats.toNat)≠0∧(p.cf &&& p.fm)≠0
def AnsF (on:Cfg) (a:Ans):Prop:=a.1=1→(a.2.2.1 &&& on.formats.toNat)≠0
theorem take_S {on:Cfg} {Bs:List (List BK)} {p:Pln} {a:Ans} (hH:HistT on Bs) (hp:PlT on Bs p) (hOK:p.OK) (ha:AnsR a) (hA:PieceT on Bs a) (hS:PlS on p) (hF:AnsF on a):PlS on (takeG p a)∧(takeG p a).fm=p.fm:=by
 rcases take_cases hH hp hOK ha hA with ⟨-,e⟩|⟨-, -,e⟩|⟨h1,hu, -, -,hle,⟨-, -,e, -,e2⟩|⟨hne,e⟩⟩
 ·rw [e];exact ⟨hS,rfl⟩
 ·rw [e];exact ⟨hS,rfl⟩
 ·exact ⟨fun h=>absurd e h,e2⟩
 ·rw [e];refine ⟨fun _=>⟨by show (newT p.cg p.cf p.cp p.T a).length<a.2.2.2.1;omega,hF h1,?_⟩,rfl⟩;have hw:=hu.1;unfold wantB at hw;simp only [Bool.and_eq_true,Bool.not_eq_true',beq_eq_false_iff_ne] at hw;exact hw.2
def need (G cm:Nat) (p:Pln):Nat:=if p.g=G then 0 else if p.cg=G then p.cp - p.T.length else cm+1
theorem piece_le {on:Cfg} {Bs:List (List BK)} {a:Ans} (hA:PieceT on Bs a) (h1:a.1=1):1≤a.2.1∧a.2.1≤Bs.length:=by
 obtain ⟨B,b1,b2, -⟩:=hA h1;have:=(List.getElem?_eq_some_iff.1 b2).1;omega
theorem old_need {on:Cfg} {Bs:List (List BK)} {p:Pln} {a:Ans} {cm:Nat} (hH:HistT on Bs) (hp:PlT on Bs p) (hOK:p.OK) (ha:AnsR a) (hA:PieceT on Bs a) (hcm:∀f B,Bs[Bs.length - 1]?=some B→(1≤f∧f≤2)→countP (imgS f Bs.length on B).length≤cm):need Bs.length cm (takeG p a)≤need Bs.length cm p:=by
 rcases take_cases hH hp hOK ha hA with ⟨-,e⟩|⟨-, -,e⟩|⟨h1,hu,hnew,hcp, -,hc⟩
 ·rw [e];exact Nat.le_refl _
 ·rw [e];exact Nat.le_refl _
 ·have hl:=piece_le hA h1;have hw:=hu.1;unfold wantB at hw;simp only [Bool.and_eq_true,decide_eq_true_eq] at hw;obtain ⟨⟨⟨w1,w2⟩,w3⟩, -⟩:=hw;have hpg:p.g≠Bs.length:=by omega
  obtain ⟨B,b1,b2,b3,b4, -⟩:=hA h1;rcases hc with ⟨-,e1,e2, -⟩|⟨-,e⟩
  ·unfold need;rw [e1,e2];by_cases hG:a.2.1=Bs.length
   ·rw [if_pos hG];exact Nat.zero_le _
   ·rw [if_neg hG,if_neg (by omega),if_neg hpg,if_neg (by omega)];exact Nat.le_refl _
  ·rw [e];unfold need;dsimp only;rw [if_neg hpg,if_neg hpg];by_cases hG:a.2.1=Bs.length
   ·rw [if_pos hG];by_cases hq:p.cg=Bs.length
    ·rw [if_pos hq,hnew,if_neg (by omega)];have:=lay_ge p.T (a.2.2.2.2.1,a.2.2.2.2.2);have:=hcp (by omega);omega
    ·rw [if_neg hq,b4];have:=hcm a.2.2.1 B (by rw [←hG];exact b2) b3;rw [hG];omega
   ·rw [if_neg hG,if_neg (by omega)];exact Nat.le_refl _
theorem fmt_common {fm fo f cg cf G:Nat} (h1:1≤fm∧fm≤3) (h2:fo≤3) (h0:(fm &&& fo)≠0) (hf:f=fmtF cg cf (fm &&& fo) G):(f &&& fm)≠0∧(f &&& fo)≠0∧(cg=G→(1≤cf∧cf≤2)→(cf &&& fo)≠0→(cf &&& fm)≠0→f=cf):=by
 subst hf;unfold fmtF
 rcases (show fm=1∨fm=2∨fm=3 by omega) with rfl|rfl|rfl <;>rcases (show fo=0∨fo=1∨fo=2∨fo=3 by omega) with rfl|rfl|rfl|rfl <;>simp at h0 ⊢ <;>
  (try (by_cases hc:cg=G <;>by_cases hc1:cf=1 <;>simp [hc,hc1]))<;>(try (intros;rcases (show cf=1∨cf=2 by omega) with rfl|rfl <;>simp_all))
theorem round_need {on:Cfg} {Bs:List (List BK)} {B:List BK} {p:Pln} {cm:Nat} (hH:HistT on Bs) (hB:1≤Bs.length→Bs[Bs.length - 1]?=some B) (hp:PlT on Bs p) (hOK:p.OK) (hS:PlS on p) (h0:(p.fm &&& on.formats.toNat)≠0) (hcm:∀f B,Bs[Bs.length - 1]?=some B→(1≤f∧f≤2)→countP (imgS f Bs.length on B).length≤cm):need Bs.length cm (takeG p (ansS on Bs.length B p))≤need Bs.length cm p - 1∧(takeG p (ansS on Bs.length B p)).nf=false:=by
 obtain ⟨hap,hA⟩:=ansS_piece hH hB p;have haR:=AnsR.of hap;have hfo:on.formats.toNat≤3:=by have:=((Cfg.ok_iff on).1 hH.1).2;omega
 rcases ansS_cases (G:=Bs.length) (B:=B) hH p with ⟨e, -⟩|⟨-,hg,e⟩|⟨-,hg1,hgne,f,n,hf,hff,hn,hmis,e⟩
 ·exact absurd e h0
 ·have hpg:p.g=Bs.length:=by
   rcases hg with h|h
   ·rcases hp.2 with k|⟨X,k1,k2, -⟩
    ·omega
    ·have:=(List.getElem?_eq_some_iff.1 k2).1;omega
   ·exact h
  rw [e]
  have et:takeG p (0,0,0,0,0,[])={p with nf:=false}:=by unfold takeG;rw [if_pos (by decide)];rfl
  rw [et]
  refine ⟨?_,rfl⟩
  unfold need
  dsimp only
  rw [if_pos hpg]
  exact Nat.zero_le _
 ·have hple:p.g≤Bs.length:=by
   rcases hp.2 with k|⟨X,k1,k2, -⟩
   ·omega
   ·have:=(List.getElem?_eq_some_iff.1 k2).1;omega
  have hcle:p.cg≤Bs.length:=by
   rcases hp.1 with k|⟨X,k1,k2, -⟩
   ·omega
   ·have:=(List.getElem?_eq_some_iff.1 k2).1;omega
  obtain ⟨f1,f2,f3⟩:=fmt_common hOK.fm hfo h0 hff
  have hfcf:p.cg=Bs.length→f=p.cf∧countP (imgS f Bs.length on B).length=p.cp∧p.T.length<p.cp:=fun ec=>by
   have hs:=hS (by omega);rcases hp.1 with k|⟨X,k1,k2,k3,k4, -⟩
   ·omega
   ·have ef:=f3 ec k3 hs.2.1 hs.2.2;rw [ec] at k2 k4;have eX:X=B:=by rw [hB hg1] at k2;exact (Option.some.inj k2).symm
    subst eX;exact ⟨ef,by rw [ef,k4],hs.1⟩
  have hu:useP p.fm p.g p.cg p.cf p.cp p.T (ansS on Bs.length B p):=by
   rw [e];refine ⟨?_,?_,?_⟩
   ·unfold wantB;simp only [Bool.and_eq_true,decide_eq_true_eq,Bool.not_eq_true',beq_eq_false_iff_ne];exact ⟨⟨⟨by omega,hcle⟩,hn⟩,f1⟩
   ·unfold com1;split
    ·rfl
    ·rename_i hc;exact (hfcf (by have:¬p.cg<Bs.length:=hc;omega)).1
   ·unfold com1;split
    ·rfl
    ·rename_i hc;exact (hfcf (by have:¬p.cg<Bs.length:=hc;omega)).2.1
  rcases take_cases hH hp hOK haR hA with ⟨h1, -⟩|⟨-,h1, -⟩|⟨-, -,hnew,hcp, -,hc⟩
  ·rw [e] at h1;exact absurd rfl h1
  ·exact absurd hu h1
  ·have hpg:p.g≠Bs.length:=hgne
   rcases hc with ⟨-,e1,e2,e3, -⟩|⟨-,et⟩
   ·refine ⟨?_,e3⟩
    unfold need
    rw [e1,e]
    dsimp only
    rw [if_pos rfl]
    exact Nat.zero_le _
   ·rw [et]
    refine ⟨?_,rfl⟩
    rw [e] at hnew hcp ⊢
    dsimp only at hnew hcp
    unfold need
    dsimp only
    rw [if_neg hpg,if_neg hpg,if_pos rfl,hnew]
    by_cases hq:p.cg=Bs.length
    ·obtain ⟨g1,g2,g3⟩:=hfcf hq
     have hm:misF p.T<countP (imgS f Bs.length on B).length:=by
      have:=misK_le p.T 0;unfold misF;omega
     rw [if_pos hq,if_neg (by omega),lay_new (fun x hx=>by show x.1≠n;rw [hmis ⟨hq,hm⟩];exact misF_not hOK.ris x hx)]
     omega
    ·rw [if_neg hq,if_pos (by omega),lay_new (fun x hx=>by cases hx)]
     have:=hcm f B (hB hg1) hf
     simp only [List.length_nil]
     omega
end Go.Proofs.YtpapdkhjdelfcabGreat
namespace Go.Proofs.YtpapdkhjdelfcabGreat
open Go.RowKit
def FrU (on:Cfg) (Bs:List (List BK)) (t:ByteArray):Prop:=FrT on Bs t∧∀a,answP t.data.toList=some a→AnsF on a
def PlU (on:Cfg) (Bs:List (List BK)) (p:Pln):Prop:=PlT on Bs p∧PlS on p
theorem FrU.grow {on:Cfg} {Bs:List (List BK)} {t:ByteArray} (h:FrU on Bs t) (B':List BK):FrU on (Bs++[B']) t:=⟨h.1.grow B',h.2⟩
theorem PlU.grow {on:Cfg} {Bs:List (List BK)} {p:Pln} (h:PlU on Bs p) (B':List BK):PlU on (Bs++[B']) p:=⟨h.1.grow B',h.2⟩
theorem new_U (on:Cfg) (Bs:List (List BK)) (fm:Nat):PlU on Bs (plnNew fm):=⟨new_true on Bs fm,fun h=>absurd rfl h⟩
theorem none_U (on:Cfg) (Bs:List (List BK)) {t:ByteArray} (h:answP t.data.toList=none):FrU on Bs t:=⟨fun a ha=>(by rw [h] at ha;cases ha),fun a ha=>(by rw [h] at ha;cases ha)⟩
theorem tick_U (on:Cfg) (Bs:List (List BK)) (p:Pln):FrU on Bs (txt (tickB p.g p.fm p.cg p.cf p.T)):=none_U on Bs (answ_tick _ _ _ _ _)
theorem recv_U {on:Cfg} {Bs:List (List BK)} {p:Pln} {t:ByteArray} (hH:HistT on Bs) (hp:PlU on Bs p) (hOK:p.OK) (ht:FrU on Bs t):PlU on Bs (recvG p t.data.toList)∧p.g≤(recvG p t.data.toList).g∧(recvG p t.data.toList).fm=p.fm:=by
 have h1:=recv_true hH hp.1 hOK ht.1;refine ⟨⟨h1.1,?_⟩,h1.2,?_⟩
 ·unfold recvG;split
  ·exact hp.2
  ·rename_i a ha;exact (take_S hH hp.1 hOK (AnsR.of ha) (ht.1 a ha) hp.2 (ht.2 a ha)).1
 ·unfold recvG;split
  ·rfl
  ·rename_i a ha;exact (take_S hH hp.1 hOK (AnsR.of ha) (ht.1 a ha) hp.2 (ht.2 a ha)).2
theorem and_self3 {a b f:Nat} (hb:b≤3) (h0:(a &&& b)≠0) (hf:f=(a &&& b)∨((a &&& b)=3∧(f=1∨f=2))):(f &&& b)≠0:=by
 rcases hf with rfl|⟨h3,hf⟩
 ·rw [Nat.and_assoc,Nat.and_self];exact h0
 ·have hb3:b=3:=by
   have:(a &&& b)≤b:=Nat.and_le_right;omega
  subst hb3
  rcases hf with rfl|rfl <;>decide
theorem serve_U {on:Cfg} {Bs:List (List BK)} {B:List BK} {g:Nat} (hH:HistT on Bs) (hg:g=Bs.length) (hB:1≤g→Bs[g - 1]?=some B) (l:List UInt8):FrU on Bs (txt (serveB on.formats.toNat g on B (mkF on B) l)):=by
 refine ⟨serve_true hH hg hB l,fun a ha=>?_⟩;rw [show (txt (serveB on.formats.toNat g on B (mkF on B) l)).data.toList=serveB on.formats.toNat g on B (mkF on B) l from rfl] at ha;unfold serveB at ha;split at ha
 rotate_left
 ·have:answP []=none:=answP_no (by unfold openB;rw [if_pos (by simp)]);rw [this] at ha;cases ha
 ·rename_i h fo cg cf mi hq;unfold answF at ha;by_cases h0:(fo &&& on.formats.toNat)=0
  ·rw [if_pos h0,answ_round (by decide) (by decide) (by decide) (by decide) (Or.inr (Or.inl rfl)) (fun _=>rfl)] at ha;rw [←Option.some.inj ha];intro h1;cases h1
  rw [if_neg h0] at ha;by_cases hz:g=0∨h=g
  ·rw [if_pos hz,answ_round (by decide) (by decide) (by decide) (by decide) (Or.inl rfl) (fun _=>rfl)] at ha;rw [←Option.some.inj ha];intro h1;cases h1
  rw [if_neg hz] at ha;have hg1:1≤g:=by omega
  have hGO:=hH.gen hg1 (hB hg1);have hfo:on.formats.toNat≤3:=by have:=((Cfg.ok_iff on).1 hH.1).2;omega
  have hcm:(fo &&& on.formats.toNat)≤3:=Nat.le_trans Nat.and_le_right hfo
  have hff:fmtF cg cf (fo &&& on.formats.toNat) g=(fo &&& on.formats.toNat)∨((fo &&& on.formats.toNat)=3∧(fmtF cg cf (fo &&& on.formats.toNat) g=1∨fmtF cg cf (fo &&& on.formats.toNat) g=2)):=by
   unfold fmtF;split
   ·exact Or.inl rfl
   ·rename_i h3;refine Or.inr ⟨by omega,?_⟩;split
    ·exact Or.inl rfl
    ·exact Or.inr rfl
  have hcom:=and_self3 hfo h0 hff
  have hfm:1≤fmtF cg cf (fo &&& on.formats.toNat) g∧fmtF cg cf (fo &&& on.formats.toNat) g≤2:=by
   unfold fmtF;split
   ·omega
   ·split <;>omega
  generalize fmtF cg cf (fo &&& on.formats.toNat) g=f at *;have hsz:(imgS f g on B).length≤100000:=imgS_short hGO.1 hGO.2.1;have h5:=imgS_len f g on B;change answP (frameA (1,g,f,countP (imgS f g on B).length,if cg=g∧mi<countP (imgS f g on B).length then mi else 0,cutP (imgS f g on B) ((if cg=g∧mi<countP (imgS f g on B).length then mi else 0:Nat):Int)))=some a at ha
  have hpl:(if cg=g∧mi<countP (imgS f g on B).length then mi else 0)<countP (imgS f g on B).length:=by
   split
   ·rename_i h;exact h.2
   ·unfold countP;omega
  have hcn:countP (imgS f g on B).length<65536:=by unfold countP;omega
  generalize (if cg=g∧mi<countP (imgS f g on B).length then mi else 0)=n at *;have hcl:=cut_len hpl;rw [answ_round (by show g<4294967296;have:=hGO.2.2.2;omega) (by show f<256;omega) (by show countP (imgS f g on B).length<65536;exact hcn) (by show n<65536;omega) (Or.inr (Or.inr ⟨rfl,hcl⟩)) (fun h=>absurd rfl h)] at ha;rw [←Option.some.inj ha];intro _;exact hcom
theorem and_zero3 {fm fo f:Nat} (h1:1≤fm∧fm≤3) (h2:fo≤3) (hf:1≤f∧f≤2) (h0:(fm &&& fo)=0) (h3:(f &&& fo)≠0) (h4:(f &&& fm)≠0):False:=by
 rcases (show fm=1∨fm=2∨fm=3 by omega) with rfl|rfl|rfl <;>rcases (show fo=0∨fo=1∨fo=2∨fo=3 by omega) with rfl|rfl|rfl|rfl <;>rcases (show f=1∨f=2 by omega) with rfl|rfl <;>simp at h0 h3 h4
theorem recv_zero {on:Cfg} {Bs:List (List BK)} {p:Pln} {t:ByteArray} (hH:HistT on Bs) (hp:PlU on Bs p) (hOK:p.OK) (ht:FrU on Bs t) (h0:(p.fm &&& on.formats.toNat)=0):(recvG p t.data.toList).g=p.g:=by
 unfold recvG;split
 ·rfl
 ·rename_i a ha;have hA:=ht.1 a ha;rcases take_cases hH hp.1 hOK (AnsR.of ha) hA with ⟨-,e⟩|⟨-, -,e⟩|⟨h1,hu, -⟩
  ·rw [e]
  ·rw [e]
  ·exfalso;obtain ⟨B, -, -,b3, -⟩:=hA h1;have hF:=ht.2 a ha h1;have hw:=hu.1;unfold wantB at hw;simp only [Bool.and_eq_true,Bool.not_eq_true',beq_eq_false_iff_ne] at hw;have hfo:on.formats.toNat≤3:=by have:=((Cfg.ok_iff on).1 hH.1).2;omega
   have hfm:=hOK.fm;exact and_zero3 hfm hfo b3 h0 hF hw.2
theorem recv_need {on:Cfg} {Bs:List (List BK)} {p:Pln} {t:ByteArray} {cm:Nat} (hH:HistT on Bs) (hp:PlU on Bs p) (hOK:p.OK) (ht:FrU on Bs t) (hcm:∀f B,Bs[Bs.length - 1]?=some B→(1≤f∧f≤2)→countP (imgS f Bs.length on B).length≤cm):need Bs.length cm (recvG p t.data.toList)≤need Bs.length cm p:=by
 unfold recvG;split
 ·exact Nat.le_refl _
 ·rename_i a ha;exact old_need hH hp.1 hOK (AnsR.of ha) (ht.1 a ha) hcm
end Go.Proofs.YtpapdkhjdelfcabGreat
namespace Go.Proofs.YtpapdkhjdelfcabGreat
open Go.RowKit
def wl (part:Int) (c:Cfg) (q:Nat) (on:Cfg) (vb vw vs vh vf:Value) (img:ByteArray):List Value:=
 [.int .i64 part,.int .i64 c.alg,.int .i64 c.slots,.int .i64 c.points,.int .i64 c.probes,.string c.key,.int .i64 c.formats,.pointer (some ⟨q,0,none⟩),.int .i64 on.alg,.int .i64 on.slots,.int .i64 on.points,.int .i64 on.probes,.string on.key,.int .i64 on.formats,vb,vw,vs,vh,vf,.string img]
def WAt (p:Nat) (L:List Value) (w:World):Prop:=(∀o u,L[o]?=some u→w.cell? ⟨p,o,none⟩=some u)∧∀o,o<L.length→w.frozen? ⟨p,o,none⟩=false
theorem WAt.but {M:List Nat} {p:Nat} {L:List Value} {w w':World} (h:WAt p L w) (k:But M w w') (hp:p∉M):WAt p L w':=
 ⟨fun o u hu=>k.cell (h.1 o u hu) hp,fun o ho=>k.frozen (h.1 o L[o] (by simp [ho])) hp (h.2 o ho)⟩
theorem WAt.later {p:Nat} {L:List Value} {w w':World} (h:WAt p L w) (k:Bel w w'):WAt p L w':=h.but (M:=[]) (But.of_bel k) (by simp)
theorem WAt.set {p:Nat} {L:List Value} {w:World} (h:WAt p L w) (o:Nat) (u:Value):WAt p (L.set o u) (w.setCell ⟨p,o,none⟩ u):=by
 refine ⟨fun j x hx=>?_,fun j hj=>by rw [frozen_set];exact h.2 j (by simpa using hj)⟩;by_cases hjo:o=j
 ·subst hjo;have hl:=(List.getElem?_eq_some_iff.1 hx).1;rw [List.length_set] at hl;rw [List.getElem?_set_self hl] at hx;cases hx;exact set_same (h.1 o L[o] (by simp [hl]))
 ·rw [List.getElem?_set_ne hjo] at hx;rw [set_other (Or.inr hjo)];exact h.1 j x hx
theorem WAt.other {p:Nat} {L:List Value} {w:World} (h:WAt p L w) {a:Addr} (ha:a.block≠p) (u:Value):WAt p L (w.setCell a u):=
 h.but (M:=[a.block]) ((But.refl _ _).set (by simp) u) (by simpa using fun e=>ha e.symm)
theorem WAt.lt {p:Nat} {L:List Value} {w:World} (h:WAt p L w) (hL:0<L.length):p<w.heap.size:=World.block_lt_of_cell? w _ (h.1 0 L[0] (by simp [hL]))
theorem fails_is (p:Nat) (L:List Value) (x:Int) (w:World) (h:WAt p L w) (hL:0<L.length):
  Calls Tryz.prog 69 #[.pointer (some ⟨p,0,none⟩),.int .i64 x] w fun e w'=>e= .returned (.bool false)∧w'=w.setCell ⟨p,0,none⟩ (.int .i64 x):=by
 have h0:=h.1 0 L[0] (by simp [hL]);have f0:=h.2 0 hL;go_enter Tryz.func69,Tryz.ntmps69;go_wp2;go_ret;exact ⟨rfl,rfl⟩
theorem ownB_but {M:List Nat} {base:Nat} {e:TypeId} {sz:Nat} {v:Value} {n:Nat} {xs:List Value} {w w':World} (h:w.ownsRow base e sz v n xs) (b:But M w w') (hne:∀g∈gl v,g∉M):w'.ownsRow base e sz v n xs:=own_row_but h b hne
structure KI where
 M:List Nat
 q:Nat
 c:Cfg
 on:Cfg
 B:List BK
 g:Int
 vb:Value
 vw:Value
 vs:Value
 vh:Value
 vf:Value
 img:ByteArray
 part:Int
 L:List Nat
 pp:List (Nat×Pln×List Nat)
 vr:List Value
 sp:List Int
 hd:List Int
 fr:List ByteArray
 fb:Nat
 ds:Nat
 dh:Nat
 bs:List (List BK)
def KI.svp (k:KI):Svp:=⟨k.on,k.B,k.g,k.L,k.pp⟩
def KI.blocks (k:KI) (p:Nat):List Nat:=p::(gl k.vw++gl k.vs++gl k.vh++gl k.vf++k.svp.own k.q)
theorem KI.count (k:KI) (p a:Nat):(k.blocks p).count a=[p].count a+(gl k.vw).count a+(gl k.vs).count a+(gl k.vh).count a+(gl k.vf).count a+(k.svp.own k.q).count a:=by
 have:k.blocks p=[p]++(gl k.vw++gl k.vs++gl k.vh++gl k.vf++k.svp.own k.q):=rfl;rw [this];simp only [List.count_append];omega
def WentR (M:List Nat) (w:World) (on:Cfg) (vr:List Value) (bs:List (List BK)):Prop:=bs.length=vr.length∧∀(i:Nat) (v:Value) (X:List BK),vr[i]?=some v→bs[i]?=some X→RowAt (mask M w) v 12 ((ownersF on X ((i:Int)+1)).map Value.string)
structure KInv (W0:World) (p s:Nat) (k:KI) (w:World):Prop where
 at_:WAt p (wl k.part k.c k.q k.on k.vb k.vw k.vs k.vh k.vf k.img) w
 nd:(k.blocks p).Nodup
 inM:∀j∈k.blocks p,j∈k.M
 lt:∀j∈k.M,W0.heap.size≤j∧j<w.heap.size
 bel:Bel W0 w
 svc:SvpAt k.M k.q k.svp w
 pool:PoolAt (mask k.M w) k.vb k.B
 good:Good k.B
 cok:k.c.OK
 onok:k.on.OK
 gen:0≤k.g∧k.g≤s∧(k.g=0→k.B=[])
 went:w.ownsRow W0.heap.size 40 1 k.vw (k.vr.length+1) (.slice none 0 0::k.vr)
 wlen:(k.vr.length:Int)=k.g
 wrow:WentR k.M w k.on k.vr k.bs
 speaks:OwnI W0.heap.size w k.vs k.sp
 held:OwnI W0.heap.size w k.vh k.hd
 slen:k.sp.length+k.ds=k.pp.length
 hlen:k.hd.length+k.dh=k.pp.length
 hrng:∀x∈k.hd,0≤x∧x≤1073741824
 frames:w.ownsRow W0.heap.size 9 1 k.vf k.fr.length (k.fr.map Value.string)
 flen:k.fr.length≤k.fb
 fsz:∀t∈k.fr,t.size≤1099511627776
 isz:k.img.size≤1099511627776
structure KKeep (W0:World) (p:Nat) (k:KI) (N:List Nat) (w':World):Prop where
 lt:∀j∈k.M,W0.heap.size≤j∧j<w'.heap.size
 bel:Bel W0 w'
 pool:PoolAt (mask k.M w') k.vb k.B
 wrow:WentR k.M w' k.on k.vr k.bs
 at_:p∉N→WAt p (wl k.part k.c k.q k.on k.vb k.vw k.vs k.vh k.vf k.img) w'
 svc:(∀j∈N,j∉k.svp.own k.q)→SvpAt k.M k.q k.svp w'
 went:(∀j∈gl k.vw,j∉N)→w'.ownsRow W0.heap.size 40 1 k.vw (k.vr.length+1) (.slice none 0 0::k.vr)
 speaks:(∀j∈gl k.vs,j∉N)→OwnI W0.heap.size w' k.vs k.sp
 held:(∀j∈gl k.vh,j∉N)→OwnI W0.heap.size w' k.vh k.hd
 frames:(∀j∈gl k.vf,j∉N)→w'.ownsRow W0.heap.size 9 1 k.vf k.fr.length (k.fr.map Value.string)
theorem WentR.but {M N:List Nat} {w w':World} {on:Cfg} {vr:List Value} {bs:List (List BK)} (h:WentR M w on vr bs) (b:But N w w') (hN:∀j∈N,j∈M∨w.heap.size≤j):WentR M w' on vr bs:=⟨h.1,fun i v X hv hX=>(h.2 i v X hv hX).later (b.mono hN)⟩
theorem KInv.keep {W0:World} {p s:Nat} {k:KI} {w w':World} (h:KInv W0 p s k w) (N:List Nat) (b:But N w w') (hN:∀j∈N,j∈k.blocks p):KKeep W0 p k N w':=by
 have hNM:∀j∈N,j∈k.M∨w.heap.size≤j:=fun j hj=>Or.inl (h.inM j (hN j hj))
 exact ⟨fun j hj=>⟨(h.lt j hj).1,Nat.lt_of_lt_of_le (h.lt j hj).2 b.size⟩,But.belTo h.bel b (fun j hj=>(h.lt j (h.inM j (hN j hj))).1),h.pool.later (b.mono hNM),h.wrow.but b hNM,fun hp=>h.at_.but b hp,fun hd=>h.svc.but b hd hNM,fun hd=>ownB_but h.went b hd,fun hd=>ownB_but h.speaks b hd,fun hd=>ownB_but h.held b hd,fun hd=>ownB_but h.frames b hd⟩
theorem KInv.later {W0:World} {p s:Nat} {k:KI} {w w':World} (h:KInv W0 p s k w) (b:Bel w w'):KInv W0 p s k w':=by
 have K:=h.keep [] (But.of_bel b) (by simp);exact ⟨K.at_ (by simp),h.nd,h.inM,K.lt,K.bel,K.svc (by simp),K.pool,h.good,h.cok,h.onok,h.gen,K.went (by simp),h.wlen,K.wrow,K.speaks (by simp),K.held (by simp),h.slen,h.hlen,h.hrng,K.frames (by simp),h.flen,h.fsz,h.isz⟩
theorem KInv.up {W0:World} {p s s':Nat} {k:KI} {w:World} (h:KInv W0 p s k w) (hs:s≤s'):KInv W0 p s' k w:=
 ⟨h.at_,h.nd,h.inM,h.lt,h.bel,h.svc,h.pool,h.good,h.cok,h.onok,⟨h.gen.1,by have:=h.gen.2.1;omega,h.gen.2.2⟩,h.went,h.wlen,h.wrow,h.speaks,h.held,h.slen,h.hlen,h.hrng,h.frames,h.flen,h.fsz,h.isz⟩
theorem KInv.p_in {W0:World} {p s:Nat} {k:KI} {w:World} (_h:KInv W0 p s k w):p∈k.blocks p:=by simp [KI.blocks]
theorem KInv.q_in {W0:World} {p s:Nat} {k:KI} {w:World} (_h:KInv W0 p s k w):k.q∈k.blocks p:=by simp [KI.blocks,Svp.own]
theorem KInv.le {W0:World} {p s:Nat} {k:KI} {w:World} (h:KInv W0 p s k w) (a:Nat):[p].count a+(gl k.vw).count a+(gl k.vs).count a+(gl k.vh).count a+(gl k.vf).count a+(k.svp.own k.q).count a≤1:=by
 have:=cnt_le h.nd a;rw [KI.count] at this;exact this
theorem KInv.apart {W0:World} {p s:Nat} {k:KI} {w:World} (h:KInv W0 p s k w):(∀j∈gl k.vw,j≠p)∧(∀j∈gl k.vs,j≠p)∧(∀j∈gl k.vh,j≠p)∧(∀j∈gl k.vf,j≠p)∧∀j∈k.svp.own k.q,j≠p:=by
 have hle:=h.le p;have h1:1≤[p].count p:=cnt_mem.1 (by simp);refine ⟨fun j hj e=>?_,fun j hj e=>?_,fun j hj e=>?_,fun j hj e=>?_,fun j hj e=>?_⟩
 all_goals
  subst e;have:=cnt_mem.1 hj;omega
theorem KInv.setW {W0:World} {p s:Nat} {k:KI} {w w':World} (h:KInv W0 p s k w) (b:But [p] w w') {c':Cfg} {part':Int} {img':ByteArray} (hW':WAt p (wl part' c' k.q k.on k.vb k.vw k.vs k.vh k.vf img') w') (hc':c'.OK) (hi:img'.size≤1099511627776):KInv W0 p s {k with c:=c',part:=part',img:=img'} w':=by
 have K:=h.keep [p] b (fun j hj=>by rw [List.mem_singleton.1 hj];exact h.p_in);obtain ⟨a1,a2,a3,a4,a5⟩:=h.apart;exact ⟨hW',h.nd,h.inM,K.lt,K.bel,K.svc (fun j hj e=>a5 j e (List.mem_singleton.1 hj)),K.pool,h.good,hc',h.onok,h.gen,K.went (fun j hj e=>a1 j hj (List.mem_singleton.1 e)),h.wlen,K.wrow,K.speaks (fun j hj e=>a2 j hj (List.mem_singleton.1 e)),K.held (fun j hj e=>a3 j hj (List.mem_singleton.1 e)),h.slen,h.hlen,h.hrng,K.frames (fun j hj e=>a4 j hj (List.mem_singleton.1 e)),h.flen,h.fsz,hi⟩
theorem KInv.svcSame {W0:World} {p s:Nat} {k:KI} {w w':World} (h:KInv W0 p s k w) (b:But [k.q] w w') (hS:SvpAt k.M k.q k.svp w'):KInv W0 p (s+1) k w':=by
 have K:=h.keep [k.q] b (fun j hj=>by rw [List.mem_singleton.1 hj];exact h.q_in);have hle:=h.le k.q;have h1:1≤(k.svp.own k.q).count k.q:=cnt_mem.1 (by simp [Svp.own])
 have hn:∀L:List Nat,L.count k.q=0→∀j∈L,j∉[k.q]:=fun L hL j hj e=>by
  rw [List.mem_singleton.1 e] at hj;have:=cnt_mem.1 hj;omega
 have hp:p∉[k.q]:=fun e=>by
  have h2:1≤[p].count p:=cnt_mem.1 (by simp);rw [←List.mem_singleton.1 e] at hle h1;omega
 exact KInv.up (s:=s) ⟨K.at_ hp,h.nd,h.inM,K.lt,K.bel,hS,K.pool,h.good,h.cok,h.onok,h.gen,K.went (hn _ (by omega)),h.wlen,K.wrow,K.speaks (hn _ (by omega)),K.held (hn _ (by omega)),h.slen,h.hlen,h.hrng,K.frames (hn _ (by omega)),h.flen,h.fsz,h.isz⟩ (by omega)
def Seald (t:ByteArray):Prop:=∃b,openB t.data.toList=some b
def ImgP (img:ByteArray) (on:Cfg) (g:Int) (B:List BK):Prop:=img.size=0∨∃(g0:Nat) (B0:List BK),1≤g0∧(g0:Int)≤g∧Good B0∧img=txt (imageB 1 g0 on B0 (mkF on B0))∧((g0:Int)=g→B0=B)
theorem ImgP.grow {img:ByteArray} {on:Cfg} {g:Int} {B:List BK} (h:ImgP img on g B) (B':List BK):ImgP img on (g+1) B':=by
 rcases h with h|⟨g0,B0,h1,h2,h3,h4,h5⟩
 ·exact Or.inl h
 ·exact Or.inr ⟨g0,B0,h1,by omega,h3,h4,fun e=>by omega⟩
structure TruP (on:Cfg) (bs:List (List BK)) (g:Int) (B:List BK) (fr:List ByteArray) (pl:List Pln) (hd sp:List Int):Prop where
 hist:HistT on bs
 glen:(bs.length:Int)=g
 last:1≤g→bs[bs.length - 1]?=some B
 frT:∀t∈fr,FrU on bs t
 plT:∀p∈pl,PlU on bs p
 hdT:∀(n:Nat) (x:Int) (p:Pln),hd[n]?=some x→pl[n]?=some p→x≤(p.g:Int)
 spT:∀(n:Nat) (x:Int) (p:Pln),sp[n]?=some x→pl[n]?=some p→x=(p.fm:Int)
theorem TruP.grow {on:Cfg} {bs:List (List BK)} {g:Int} {B:List BK} {fr:List ByteArray} {pl:List Pln} {hd sp:List Int} (h:TruP on bs g B fr pl hd sp) {LP:List BK} (hG:Good LP) (hs:g≤65600):TruP on (bs++[LP]) (g+1) LP fr pl hd sp:=by
 refine ⟨⟨h.hist.1,?_,fun X hX=>?_⟩,?_,fun _=>?_,fun t ht=>(h.frT t ht).grow LP,fun p hp=>(h.plT p hp).grow LP,h.hdT,h.spT⟩
 ·have:=h.glen;rw [List.length_append];simp;omega
 ·rcases List.mem_append.1 hX with e|e
  ·exact h.hist.2.2 X e
  ·rw [List.mem_singleton.1 e];exact hG
 ·have:=h.glen;rw [List.length_append];simp;omega
 ·simp
def KI.Tr (k:KI):Prop:=TruP k.on k.bs k.g k.B k.fr (k.pp.map fun y=>y.2.1) k.hd k.sp
def KI.Rdy (k:KI) (s:Nat):Prop:=k.ds=0∧k.dh=0∧k.fb≤s * 2000000∧(∀t∈k.fr,Seald t)∧ImgP k.img k.on k.g k.B∧k.Tr
theorem KI.Rdy.up {k:KI} {s s':Nat} (h:k.Rdy s) (hs:s≤s'):k.Rdy s':=⟨h.1,h.2.1,Nat.le_trans h.2.2.1 (Nat.mul_le_mul_right _ hs),h.2.2.2⟩
end Go.Proofs.YtpapdkhjdelfcabGreat
