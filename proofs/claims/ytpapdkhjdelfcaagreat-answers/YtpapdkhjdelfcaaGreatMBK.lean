import Derived.Test.YtpapdkhjdelfcaaGreatMBJ
import Derived.Deep.QuietTactic
import Derived.BigQuiet
import Derived.Deep.RegionWith
namespace Go.Proofs.YtpapdkhjdelfcaaGreat
open Go.RowKit
set_option maxRecDepth 100000
set_option maxHeartbeats 4000000
theorem Ab.put {M:jr} {a w:jj} (h:Ab M a w) {p:Addr} (f:p.block∈M\/a.heap.size<=p.block) (u:ju):Ab M a (w.setCell p u):=
 Ab.mk h.os h.tape h.output (by have := h.size; simpa [World.setCell] using this) (fun k g c => by
   have b : k ≠ p.block := fun e => by
     rcases f with d | d
     . exact c (e ▸ d)
     . omega
   rw [Below.heap_setCell _ _ _ _ b]
   exact h.block k g c)
theorem BX.put0 {w:jj} {p:Nat} {a:Int} {d:ju} {f c:Int} {g:ju} {i:Bool} (h:BX w p a d f c g i):
  (∀x:Int,BX (w.setCell ⟨p,2,none⟩ (.int .i64 x)) p a d x c g i)/\(∀x:Int,BX (w.setCell ⟨p,3,none⟩ (.int .i64 x)) p a d f x g i)/\(∀v:ju,BX (w.setCell ⟨p,4,none⟩ v) p a d f c v i)/\
  (∀b:Bool,BX (w.setCell ⟨p,5,none⟩ (.bool b)) p a d f c g b)/\∀v:ju,BX (w.setCell ⟨p,1,none⟩ v) p a v f c g i:=by
 obtain ⟨⟨k,l,m,n,o,q⟩,r⟩:=h;refine ⟨fun x=>?_,fun x=>?_,fun x=>?_,fun x=>?_,fun x=>?_⟩
 .exact ⟨⟨(Ad js).trans k,(Ad js).trans l,Bc m,(Ad js).trans n,(Ad js).trans o,(Ad js).trans q⟩,fun j=>by rw [Ag];exact r j⟩
 .exact ⟨⟨(Ad js).trans k,(Ad js).trans l,(Ad js).trans m,Bc n,(Ad js).trans o,(Ad js).trans q⟩,fun j=>by rw [Ag];exact r j⟩
 .exact ⟨⟨(Ad js).trans k,(Ad js).trans l,(Ad js).trans m,(Ad js).trans n,Bc o,(Ad js).trans q⟩,fun j=>by rw [Ag];exact r j⟩
 .exact ⟨⟨(Ad js).trans k,(Ad js).trans l,(Ad js).trans m,(Ad js).trans n,(Ad js).trans o,Bc q⟩,fun j=>by rw [Ag];exact r j⟩
 .exact ⟨⟨(Ad js).trans k,Bc l,(Ad js).trans m,(Ad js).trans n,(Ad js).trans o,(Ad js).trans q⟩,fun j=>by rw [Ag];exact r j⟩
theorem BX.other {w:jj} {p:Nat} {b:Int} {f:ju} {g c:Int} {i:ju} {k:Bool} (h:BX w p b f g c i k) {a:Addr} (l:a.block≠p) (u:ju):BX (w.setCell a u) p b f g c i k:=by
 obtain ⟨⟨m,n,q,r,s,t⟩,v⟩:=h;have d:∀o:Nat,(w.setCell a u).cell? ⟨p,o,none⟩=w.cell? ⟨p,o,none⟩:=fun o=>Ad (Or.inl l)
 exact ⟨⟨(d 0).trans m,(d 1).trans n,(d 2).trans q,(d 3).trans r,(d 4).trans s,(d 5).trans t⟩,fun j=>by rw [Ag];exact v j⟩
def CN (w:jj) (p:Nat) (c:Int) (i d:ju) (f a:Int) (b:ju) (G:List ByteArray) (k:Bool) (wr:jj):Prop:=
 Ab (p::d.ownBlock.toList) w wr/\BX wr p c i f a b k/\Aj f/\Aj a/\Di wr b G/\G.length<=65535/\∀g,b.ownBlock=some g->g≠p/\(d.ownBlock=some g\/w.heap.size<=g)
def ZcP (a:Int) (hx:Option HX) (f c:Int) (G:List ByteArray) (k:Bool) (l:jy) (g:Option HX) (d b:Int) (m:List ByteArray) (i:Bool):Prop:=∀p:AF,Zcr a hx f c G k p->Zcr a g d b m i (Ju p l)
def Jy (w:jj) (p:Nat) (d:Int) (k l:ju) (hx:Option HX) (F:Option HX->Int->Int->List ByteArray->Bool->Prop) (e:Ending) (w':jj):Prop:=e= .returned (.tuple #[])/\∃(b f:ju) (g:Option HX) (i a:Int) (G:List ByteArray) (n:Bool),CN w p d b l i a f G n w'/\F g i a G n/\
 ((b=k/\g=hx)\/∃q c m B E,f.ownBlock=none/\b= .pointer (some ⟨q,0,none⟩)/\g=some (c,m,B,E)/\CL w.heap.size w' q c m B E/\Dh c m B E/\∀x∈E,Af x.2.1/\Af x.2.2)
theorem CN.done {w:jj} {p:Nat} {b:Int} {d g:ju} {hx:Option HX} {F:Option HX->Int->Int->List ByteArray->Bool->Prop} {f a:Int} {c:ju} {G:List ByteArray} {i:Bool} {wr:jj} (h:CN w p b d g f a c G i wr) (hF:F hx f a G i):Jy w p b d g hx F (.returned (.tuple #[])) wr:=⟨rfl,d,c,hx,f,a,G,i,h,hF,Or.inl ⟨rfl,rfl⟩⟩
theorem CN.later {w:jj} {p:Nat} {a:Int} {f g:ju} {i c:Int} {d:ju} {G:List ByteArray} {k:Bool} {wr l:jj} (h:CN w p a f g i c d G k wr) (b:Aa wr l):CN w p a f g i c d G k l:=by
 obtain ⟨m,n,o,q,s,r⟩:=h;exact ⟨m.step b,n.later b,o,q,s.later b,r⟩
theorem Di.put {w:jj} {v:ju} {G:List ByteArray} (h:Di w v G) {a:Addr} (c:v.ownBlock≠some a.block) (u:ju):Di (w.setCell a u) v G:=by
 rcases h with h|⟨g,cap,rfl,d,f⟩
 .exact Or.inl h
 .refine Or.inr ⟨g,cap,rfl,by simpa [World.setCell] using d,fun j s i=>?_⟩;obtain ⟨k,l,m⟩:=f j s i;have b:a.block≠g:=fun e=>c (by rw [e];rfl)
  exact ⟨(Ad (Or.inl b)).trans k,by rw [Ag];exact l,m⟩
theorem Di.set {w:jj} {g n cap:Nat} {G:List ByteArray} (p:n=G.length) (h:Di w (.slice (some ⟨g,0,none⟩) n cap) G) (k:Nat) (s:jt) (q:s.size<=48):Di (w.setCell ⟨g,k,none⟩ (.string s)) (.slice (some ⟨g,0,none⟩) n cap) (G.set k s):=by
 rcases h with ⟨h,_⟩|⟨t,f,i,r,l⟩
 .cases h
 .simp only [Value.slice.injEq,Option.some.injEq,Addr.mk.injEq,and_true] at i;obtain ⟨rfl, -,rfl⟩:=i;refine Or.inr ⟨g,cap,by rw [List.length_set,p],by simpa [World.setCell] using r,fun j x a=>?_⟩;by_cases b:k=j
  .subst b
   have m:k<G.length:=by
    rcases Nat.lt_or_ge k G.length with e|e
    .exact e
    .rw [List.getElem?_eq_none (by rw [List.length_set];exact e)] at a;cases a
   rw [List.getElem?_set_self m] at a;injection a with a
   obtain ⟨c,d,o⟩:=l k _ (jG m);rw [<-a];exact ⟨Bc c,by rw [Ag];exact d,q⟩
  .rw [List.getElem?_set_ne b] at a;obtain ⟨c,d,o⟩:=l j x a;exact ⟨(Ad (Or.inr b)).trans c,by rw [Ag];exact d,o⟩
theorem Di.made {w:jj} {base g n:Nat} (h:w.ownsRow base 9 1 (.slice (some ⟨g,0,none⟩) n n) n (madeCells #[Value.string ByteArray.empty] n).toList):Di w (.slice (some ⟨g,0,none⟩) n n) (List.replicate n ByteArray.empty):=by
 refine Or.inr ⟨g,n,by rw [List.length_replicate],(World.ownsRow.lt h g rfl).2,fun j s a=>?_⟩;rw [List.getElem?_replicate] at a;split at a
 .rename_i b;injection a with a
  rw [<-a];refine ⟨?_,World.ownsRow.frozenAt h j,ji⟩;rw [World.ownsRow.cellAt h j jo,toList_madeCells_one,List.getElem?_replicate,if_pos jo]
 .cases a
theorem CN.fresh {w:jj} {p:Nat} {a:Int} {f c:ju} {l b:Int} {i:ju} {G:List ByteArray} {m:Bool} {d k:jj} {x y:Int} {n:Nat} (h:CN w p a f c l b i G m d) (hx:Aj x) (r:Aj y) (s:n<=65535) (o:Aa ((d.setCell ⟨p,2,none⟩ (.int .i64 x)).setCell ⟨p,3,none⟩ (.int .i64 y)) k)
  (t:Di k (.slice (some ⟨d.heap.size,0,none⟩) n n) (List.replicate n ByteArray.empty)) (A:p<d.heap.size):CN w p a f c x y (.slice (some ⟨d.heap.size,0,none⟩) n n) (List.replicate n ByteArray.empty) m (k.setCell ⟨p,4,none⟩ (.slice (some ⟨d.heap.size,0,none⟩) n n)):=by
 obtain ⟨q,u,B,C,D,E,F⟩:=h;have v:Ab (p::c.ownBlock.toList) w k:=((q.put (p:=⟨p,2,none⟩) (Or.inl js) _).put (p:=⟨p,3,none⟩) (Or.inl js) _).step o;refine ⟨v.put (Or.inl js) _,(((u.put0.1 x).put0.2.1 y).later o).put0.2.2.1 _,hx,r,t.put (by simp [Value.ownBlock];omega) _,by rw [List.length_replicate];exact s,fun g z=>?_⟩;simp [Value.ownBlock] at z;have:=q.size;exact ⟨jo,Or.inr jo⟩
theorem CN.piece {w:jj} {p:Nat} {b:Int} {f d:ju} {i c:Int} {g n cap:Nat} {G:List ByteArray} {t:Bool} {o l:jj} {k:Nat} {s:jt} (u:n=G.length) (h:CN w p b f d i c (.slice (some ⟨g,0,none⟩) n cap) G t o) (v:s.size<=48) (m:Aa (o.setCell ⟨p,5,none⟩ (.bool false)) l):
  CN w p b f d i c (.slice (some ⟨g,0,none⟩) n cap) (G.set k s) false (l.setCell ⟨g,k,none⟩ (.string s)):=by
 obtain ⟨x,y,z,A,B,C,q⟩:=h;obtain ⟨r,D⟩:=q g rfl;have E:Ab (p::d.ownBlock.toList) w l:=(x.put (p:=⟨p,5,none⟩) (Or.inl js) _).step m;refine ⟨E.put ?_ _,(((y.put0.2.2.2.1 false).later m).other r _),z,A,Di.set u ((B.put (a:=⟨p,5,none⟩) (by simpa [Value.ownBlock] using r) _).later m) k s v,by rw [List.length_set];exact C,q⟩;rcases D with h|h
 .exact Or.inl (by simp [h])
 .exact Or.inr h
theorem CN.over {w:jj} {p:Nat} {a:Int} {c d:ju} {i b:Int} {f:ju} {G:List ByteArray} {k:Bool} {l:jj} (h:CN w p a c d i b f G k l):
  CN w p a c d 0 b (.slice none 0 0) [] k ((l.setCell ⟨p,2,none⟩ (.int .i64 0)).setCell ⟨p,4,none⟩ (.slice none 0 0)):=by
 obtain ⟨m,n,r,o,s,t,u⟩:=h;exact ⟨(m.put (p:=⟨p,2,none⟩) (Or.inl js) _).put (p:=⟨p,4,none⟩) (Or.inl js) _,(n.put0.1 0).put0.2.2.1 _,⟨ji,ji⟩,o,Or.inl ⟨rfl,rfl⟩,js,fun g q=>by cases q⟩
theorem CN.holds {w:jj} {p:Nat} {d:Int} {r s:ju} {l a:Int} {t:Bool} {m:jj} {q:Nat} {c:Ac} {i:Int} {B:List BK} {E:List EN} {b:Nat} {hx:Option HX} {F:Option HX->Int->Int->List ByteArray->Bool->Prop} (h:CN w p d r s l a (.slice none 0 0) [] t m) (hF:F (some (c,i,B,E)) l a [] t) (J:CL b m q c i B E) (G:w.heap.size<=b) (hp:p<w.heap.size) (K:Dh c i B E) (L:∀x∈E,Af x.2.1/\Af x.2.2):
  Jy w p d r s hx F (.returned (.tuple #[])) (m.setCell ⟨p,1,none⟩ (.pointer (some ⟨q,0,none⟩))):=by
 obtain ⟨M,N,O,P,Q,R,S⟩:=h;refine ⟨rfl,.pointer (some ⟨q,0,none⟩),.slice none 0 0,_,l,a,[],t,⟨M.put (Or.inl js) _,N.put0.2.2.2.2 _,O,P,Q.put (by simp [Value.ownBlock]) _,R,S⟩,hF,Or.inr ⟨q,c,i,B,E,rfl,rfl,rfl,?_,K,L⟩⟩;obtain ⟨T,U,⟨⟨V,W,X,Y,Z,h5⟩,h6,h7,h8,h9,y⟩,r1,H,I⟩:=J;have f:∀o:Nat,(m.setCell ⟨p,1,none⟩ (.pointer (some ⟨q,0,none⟩))).cell? ⟨q,o,none⟩=m.cell? ⟨q,o,none⟩:=fun o=>Ad (Or.inl jv)
 have k:∀{v:ju} {n:Nat} {z:List Value},Ap m v n z->(∀g,v.ownBlock=some g->b<=g)->Ap (m.setCell ⟨p,1,none⟩ (.pointer (some ⟨q,0,none⟩))) v n z:=fun {v n z} A hn=>by
  rcases A with A|⟨g,cap,rfl,C,D,hc⟩
  .exact Or.inl A
  .have aa:=hn g rfl;refine Or.inr ⟨g,cap,rfl,C,by simpa [World.setCell] using D,fun j u hu=>(Ad (Or.inl jv)).trans (hc j u hu)⟩
 exact ⟨T,U,⟨⟨(f 0).trans V,(f 1).trans W,(f 2).trans X,(f 3).trans Y,(f 4).trans Z,(f 5).trans h5⟩,(f 6).trans h6,(f 7).trans h7,(f 8).trans h8,k h9 H,k y I⟩,jo,fun g i=>jX G (H g i),fun g i=>jX G (I g i)⟩
theorem ZaJ (s:jt) (i j:Nat):(s.extract i j).data.toList=(s.data.toList.drop i).take (j - i):=by
 rw [ByteArray.data_extract];simp [List.extract_eq_take_drop]
theorem Zdf (a:jt) (k:Nat) (h:k<a.size):(a[k]'h).toNat=Zab ((a.data.toList.drop k).take 1):=by
 have b:k<a.data.toList.length:=h
 have e:(a.data.toList.drop k).take 1=[a.data.toList[k]]:=by
  rw [List.drop_eq_getElem_cons b];rfl
 rw [e,Zbb,Array.getElem_toList];rfl
theorem Zdj {a:jt} (h:0<a.size):a.data.toList.take 1=[65]↔(a[0]'h).toNat=65:=by
 have b:0<a.data.toList.length:=h
 have e:a.data.toList.take 1=[a[0]'h]:=by
  have:=List.drop_eq_getElem_cons b;rw [List.drop_zero] at this;rw [this,Array.getElem_toList];rfl
 rw [e];exact ⟨fun k=>by injection k with k _;rw [k];rfl,fun k=>by rw [show a[0]'h=65 from UInt8.toNat_inj.1 k]⟩
theorem Zex {a:jt} (h:a.size<2):ZcJ a.data.toList=none:=by
 have b:a.data.toList.length<2:=h;unfold ZcJ;rw [if_neg (show ¬(a.data.toList.length=2/\_) from fun k=>by omega),if_neg (show ¬((12<=a.data.toList.length/\_)/\_) from fun k=>by omega)];split <;>rfl
theorem Ze5 {a:jt} (h:0<a.size) (k:(a[0]'h).toNat≠65):ZcJ a.data.toList=none:=by
 unfold ZcJ;rw [if_neg (fun e=>k ((Zdj h).1 e))]
theorem Zeq {a:jt} (h:a.size=2) (k:(a[0]'jo).toNat=65):ZcJ a.data.toList=if (a[1]'jo).toNat=0\/(a[1]'jo).toNat=2 then some ((a[1]'jo).toNat,0,0,0,0,[]) else none:=by
 have c:a.data.toList.length=2:=h;unfold ZcJ;rw [if_pos ((Zdj jo).2 k),<-Zdf a 1 jo];by_cases b:(a[1]'jo).toNat=0\/(a[1]'jo).toNat=2
 .rw [if_pos ⟨c,b⟩,if_pos b]
 .rw [if_neg (fun e=>b e.2),if_neg b,if_neg (fun e=>by omega)]
theorem Zej {a:jt} (h:2<a.size) (k:(a[0]'jo).toNat=65):ZcJ a.data.toList=if (12<=a.size/\a.size<=59)/\(a[1]'jo).toNat=1 then some (1,Zab ((a.data.toList.drop 2).take 4),Zab ((a.data.toList.drop 6).take 1),Zab ((a.data.toList.drop 7).take 2),Zab ((a.data.toList.drop 9).take 2),(a.extract 11 a.size).data.toList) else none:=by
 have b:a.data.toList.length=a.size:=rfl
 have e:(a.extract 11 a.size).data.toList=a.data.toList.drop 11:=by
  rw [ZaJ,jR (by rw [jh];omega)]
 unfold ZcJ;rw [if_pos ((Zdj jo).2 k),<-Zdf a 1 jo,if_neg (fun e=>by omega),b,e]
def ZcU (G:List ByteArray):ByteArray:=Ai (G.flatMap fun s=>s.data.toList)
def Zcz (G:List ByteArray):Bool:=G.all fun s=>!s.toList.isEmpty
theorem ZeK {G:List ByteArray} {k:Nat} (h:k<G.length) {a:jt} (e:a=ZcU (G.take k)):a++G[k]=ZcU (G.take (k+1)):=by
 rw [e];unfold ZcU;rw [jQ h,List.flatMap_append,<-Zbd G[k],ZaE];simp [Zau]
theorem ZeQ {G:List ByteArray} {k:Nat} (h:k<G.length):Zcz (G.take (k+1))=(Zcz (G.take k) && !(G[k]).toList.isEmpty):=by
 unfold Zcz;rw [jQ h,List.all_append];simp
theorem Zdd (G:List ByteArray):Zcz G=true↔∀s∈G,s.size≠0:=by
 unfold Zcz;rw [List.all_eq_true];refine forall_congr' fun s=>forall_congr' fun _=>?_
 cases h:s.toList.isEmpty
 .exact ⟨fun _ e=>(by have:=(isEmpty_iff s).2 e;rw [h] at this;cases this),fun _=>rfl⟩
 .exact ⟨fun e=>(by cases e),fun e=>absurd ((isEmpty_iff s).1 h) e⟩
section
variable {sp:Nat} {hx:Option HX} {gen fmt fmt1:Int} {G G1:List ByteArray} {no:Bool} {l:List UInt8} {fg fb nn kk:Nat} {pc:ByteArray}
theorem ZeG {a:Int} (h:DY l=none):ZcP a hx gen fmt G no l hx gen fmt G no:=fun p b=>by rw [ZeN h];exact b
theorem ZeU {b:Int} {k:Nat} (h:DY l=some (k,0,0,0,0,[])) (c:k≠1):ZcP b hx gen fmt G no l hx gen fmt G (k==2):=fun p d=>by rw [Zc2 h];exact d.told (a:=(k,0,0,0,0,[])) c
theorem Zd6 (ha:DY l=some (1,fg,fb,nn,kk,pc.data.toList)) (hw:¬(Zcs hx<(fg:Int)/\gen<=(fg:Int)/\kk<nn/\fb &&& sp≠0)):ZcP sp hx gen fmt G no l hx gen fmt G no:=fun p hr=>by
 have:sp=p.fm:=Int.ofNat.inj hr.sp;rw [Zc2 ha,hr.stay (by rw [<-this];exact hw)];exact hr
theorem Zft (ha:DY l=some (1,fg,fb,nn,kk,pc.data.toList)) (h0:0<fg) (hc:ZcI gen fmt G fg fb nn fmt1 G1) (hne:¬((fb:Int)=fmt1/\nn=G1.length)):ZcP sp hx gen fmt G no l hx (fg:Int) fmt1 G1 no:=fun p hr=>by
 rw [Zc2 ha,SY rfl (fun k=>hne ((hr.use h0 hc).1 k).2)];rcases hc with ⟨h1,h2,h3⟩|⟨h1,h2,h3⟩
 .exact absurd ⟨h2.symm,by rw [h3,List.length_replicate]⟩ hne
 .rw [<-h1,h2,h3];exact hr
theorem Zfg (ha:DY l=some (1,fg,fb,nn,kk,pc.data.toList)) (h0:0<fg) (hw:Zcs hx<(fg:Int)/\gen<=(fg:Int)/\kk<nn/\fb &&& sp≠0) (hc:ZcI gen fmt G fg fb nn fmt1 G1) (hf:(fb:Int)=fmt1) (hn:nn=G1.length) (hp:pc.size≠0) (hl:Zcz (G1.set kk pc)=false):ZcP sp hx gen fmt G no l hx (fg:Int) fmt1 (G1.set kk pc) false:=fun p hr=>by
 have:sp=p.fm:=Int.ofNat.inj hr.sp;rw [Zc2 ha];exact hr.lay (by rw [<-this];exact hw) h0 hc hf hn hp (fun e=>by rw [<-Zdd,hl] at e;cases e)
theorem Zfa (ha:DY l=some (1,fg,fb,nn,kk,pc.data.toList)) (h0:0<fg) (hw:Zcs hx<(fg:Int)/\gen<=(fg:Int)/\kk<nn/\fb &&& sp≠0) (hc:ZcI gen fmt G fg fb nn fmt1 G1) (hf:(fb:Int)=fmt1) (hn:nn=G1.length) (hp:pc.size≠0) (hl:Zcz (G1.set kk pc)=true) (hi:∀c2 B2 E2,Bj (ZcU (G1.set kk pc)).data.toList≠some (fb,fg,c2,B2,E2)):ZcP sp hx gen fmt G no l hx 0 fmt1 [] false:=fun p hr=>by
 have:sp=p.fm:=Int.ofNat.inj hr.sp;rw [Zc2 ha];exact hr.clr (by rw [<-this];exact hw) h0 hc hf hn hp ((Zdd _).1 hl) hi
theorem ZeP {c:Ac} {B:List BK} {E:List EN} (ha:DY l=some (1,fg,fb,nn,kk,pc.data.toList)) (h0:0<fg) (hw:Zcs hx<(fg:Int)/\gen<=(fg:Int)/\kk<nn/\fb &&& sp≠0) (hc:ZcI gen fmt G fg fb nn fmt1 G1) (hf:(fb:Int)=fmt1) (hn:nn=G1.length) (hp:pc.size≠0) (hl:Zcz (G1.set kk pc)=true) (hi:Bj (ZcU (G1.set kk pc)).data.toList=some (fb,fg,{c with formats:=0},B,E.map (Zai B))):ZcP sp hx gen fmt G no l (some (c,(fg:Int),B,E)) 0 fmt1 [] false:=fun p hr=>by
 have:sp=p.fm:=Int.ofNat.inj hr.sp;rw [Zc2 ha];exact hr.held (by rw [<-this];exact hw) h0 hc hf hn hp ((Zdd _).1 hl) hi
end
theorem Yz (p:Nat) (J:Nat) (H:ju) (hx:Option HX) (i d:Int) (z:ju) (G:List ByteArray) (X:Bool) (C:jt) (w:jj) (h:BX w p (J:Int) H i d z X) (hh:Do w H hx) (dj:J<=3) (dk:0<=Zcs hx) (bo:Aj i) (bp:Aj d) (a4:Di w z G) (bq:G.length<=65535) (au:∀g,z.ownBlock=some g->g≠p) (cp:C.size<=1099511627776):
  Calls Tryz.prog 80 #[.pointer (some ⟨p,0,none⟩),.string C] w (Jy w p (J:Int) H z hx (ZcP (J:Int) hx i d G X C.data.toList)):=by
 have cq:p<w.heap.size:=World.block_lt_of_cell? w _ h.1.1;have br:Hid (CN w p (J:Int) H z i d z G X w):=⟨Ab.refl _ _,h,bo,bp,a4,bq,fun g hg=>⟨au g hg,Or.inl hg⟩⟩;have HH:=jp hh;clear h hh bo bp a4 bq au;have ba:=ZbL C w cp;unfold ZaO at ba;generalize C.data.toList=l at *;obtain ⟨F,hF⟩:∃F,F=ZcP (J:Int) hx i d G X l:=⟨_,rfl⟩;rw [<-hF];have HF:=jp hF;clear hF;have bb:Hid (DY l=none->F hx i d G X):=fun e=>by rw [HF.out];exact ZeG e
 obtain ⟨i0,hi,cr,av,aw⟩:=info_parts Tryz.infoStr;go_enter Tryz.func80,Tryz.ntmps80;go_wp2_with fail;refine ba.mono ?_;rintro e w1 ⟨a,ok,rfl,bc,V,ag⟩;have n:=jp (br.out.later bc);have bs:=jp (HH.out.later bc);clear br HH bc ba;cases ok
 .have o : Hid (F hx i d G X) := bb.out (by
    unfold DY
    cases cs : CQ l with
    | none => rfl
    | some m => exact absurd (V.2 ⟨m, cs⟩) (by simp))
  clear V ag
  go_wp2
  (first|((try simp only [Exit.inBlock,Exit.then]);refine bodyPost_ret (results_none rfl _ _ _) rfl ?_)|go_end0)
  exact n.out.done o.out
 have ah:Hid (DY l=ZcJ a.data.toList):=by
  obtain ⟨m,hm⟩:=V.1 rfl;show _=_;rw [Zei hm,ag m hm];rfl
 have N:Hid (ZcJ a.data.toList=none->F hx i d G X):=fun e=>bb.out (by rw [ah.out];exact e)
 clear V ag bb;have dd:a.size<=1099511627776\/59<a.size:=by omega
 by_cases h2:a.size<2
 .have bt:decide ((a.size:Int)<2)=true:=jL (by omega);have o:=jp (N.out (Zex h2));go_wp2;(first|((try simp only [Exit.inBlock,Exit.then]);refine bodyPost_ret (results_none rfl _ _ _) rfl ?_)|go_end0);exact n.out.done o.out
 have bt:decide ((a.size:Int)<2)=false:=jK (by omega);have bu:=D4 a 0 (by omega);by_cases ax:(a[0]'(by omega)).toNat=65
 rotate_left
 .have hA:(((a[0]'(by omega)).toNat:Int) !=65)=true:=by rw [bne_iff_ne];omega
  have o:=jp (N.out (Ze5 (by omega) ax));go_wp2;(first|((try simp only [Exit.inBlock,Exit.then]);refine bodyPost_ret (results_none rfl _ _ _) rfl ?_)|go_end0);exact n.out.done o.out
 have hA:(((a[0]'(by omega)).toNat:Int) !=65)=false:=by rw [jc];omega
 have bv:=D4 a 1 (by omega);by_cases bw:a.size=2
 .have a5:((a.size:Int)==2)=true:=by rw [bw];rfl
  have ai:=Zeq bw ax
  have aj:Hid (∀k:Nat,k=0\/k=2->(a[1]'(by omega)).toNat=k->F hx i d G (k==2)):=fun k hk e=>by
   rw [HF.out];refine ZeU (k:=k) ?_ (by omega);rw [ah.out,ai,if_pos (by omega),e]
  have ay:Hid ((a[1]'(by omega)).toNat≠0->(a[1]'(by omega)).toNat≠2->F hx i d G X):=fun k1 k2=>N.out (by rw [ai,if_neg (by omega)])
  obtain ⟨c0,c1,c2,c3,c4,c5⟩:=n.out.2.1.1;have f5:=n.out.2.1.2 5
  have HP:Hid (∀b:Bool,CN w p (J:Int) H z i d z G b (w1.setCell ⟨p,5,none⟩ (.bool b))):=fun b=>by
   obtain ⟨q1,q2,q3,q4,q5,q6,q7⟩:=n.out;exact ⟨q1.put (Or.inl (by simp)) _,q2.put0.2.2.2.1 b,q3,q4,q5.put (fun e=>(q7 _ e).1 rfl) _,q6,q7⟩
  clear ai N ah HF;by_cases b0:(a[1]'(by omega)).toNat=0
  .have bx:(((a[1]'(by omega)).toNat:Int)==0)=true:=by rw [beq_iff_eq];omega
   have bz:(((a[1]'(by omega)).toNat:Int)==2)=false:=by rw [jI];omega
   have o:Hid (F hx i d G false):=aj.out 0 (Or.inl rfl) b0;clear aj ay;go_wp2
   all_goals (first|((try simp only [Exit.inBlock,Exit.then]);refine bodyPost_ret (results_none rfl _ _ _) rfl ?_)|go_end0)
   all_goals exact (HP.out _).done o.out
  by_cases b2:(a[1]'(by omega)).toNat=2
  .have bx:(((a[1]'(by omega)).toNat:Int)==0)=false:=by rw [jI];omega
   have bz:(((a[1]'(by omega)).toNat:Int)==2)=true:=by rw [beq_iff_eq];omega
   have o:Hid (F hx i d G true):=aj.out 2 (Or.inr rfl) b2;clear aj ay;go_wp2
   all_goals (first|((try simp only [Exit.inBlock,Exit.then]);refine bodyPost_ret (results_none rfl _ _ _) rfl ?_)|go_end0)
   all_goals exact (HP.out _).done o.out
  .have bx:(((a[1]'(by omega)).toNat:Int)==0)=false:=by rw [jI];omega
   have bz:(((a[1]'(by omega)).toNat:Int)==2)=false:=by rw [jI];omega
   have o:=jp (ay.out b0 b2);clear aj ay;go_wp2
   all_goals (first|((try simp only [Exit.inBlock,Exit.then]);refine bodyPost_ret (results_none rfl _ _ _) rfl ?_)|go_end0)
   all_goals exact n.out.done o.out
 have a5:((a.size:Int)==2)=false:=by rw [jI];omega
 have ak:=jp (Zej (show 2<a.size by omega) ax);clear ax;by_cases Y:(a[1]'(by omega)).toNat=1
 rotate_left
 .have hB:(((a[1]'(by omega)).toNat:Int) !=1)=true:=by rw [bne_iff_ne];omega
  have o:=jp (N.out (by rw [ak.out,if_neg (fun k=>Y k.2)]));clear Y;go_wp2;(first|((try simp only [Exit.inBlock,Exit.then]);refine bodyPost_ret (results_none rfl _ _ _) rfl ?_)|go_end0);exact n.out.done o.out
 have hB:(((a[1]'(by omega)).toNat:Int) !=1)=false:=by rw [jc];omega
 by_cases dl:a.size<12
 .have a6:decide ((a.size:Int)<12)=true:=jL (by omega);have o:=jp (N.out (by rw [ak.out,if_neg (fun k=>by omega)]));clear Y;go_wp2;(first|((try simp only [Exit.inBlock,Exit.then]);refine bodyPost_ret (results_none rfl _ _ _) rfl ?_)|go_end0);exact n.out.done o.out
 have a6:decide ((a.size:Int)<12)=false:=jK (by omega);by_cases dm:59<a.size
 .have a7:decide ((a.size:Int)>59)=true:=jL (by omega);have o:=jp (N.out (by rw [ak.out,if_neg (fun k=>by omega)]));clear Y;go_wp2;(first|((try simp only [Exit.inBlock,Exit.then]);refine bodyPost_ret (results_none rfl _ _ _) rfl ?_)|go_end0);exact n.out.done o.out
 have a7:decide ((a.size:Int)>59)=false:=jK (by omega);have av:(a.extract 2 6).size=4:=by simp;omega
 have aw:(a.extract 7 9).size=2:=by simp;omega
 have b1:(a.extract 9 11).size=2:=by simp;omega
 have Q:Hid (DY l=some (1,Zab ((a.data.toList.drop 2).take 4),Zab ((a.data.toList.drop 6).take 1),Zab ((a.data.toList.drop 7).take 2),Zab ((a.data.toList.drop 9).take 2),(a.extract 11 a.size).data.toList)):=by
  show _=_;rw [ah.out,ak.out,if_pos ⟨by omega,Y⟩]
 have b5:=D4 a 6 (by omega);have b6:=Zdf a 6 (by omega);have n1:=Jx _ av;have n2:=Kg _ 2 (Nat.le_of_eq aw);have n3:=Kg _ 2 (Nat.le_of_eq b1);have bd:=fun wx=>Fu (a.extract 2 6) wx (by omega)
 have be:=fun wx=>Fu (a.extract 7 9) wx (by omega)
 have bf:=fun wx=>Fu (a.extract 9 11) wx (by omega)
 rw [ZaJ,ZaW] at n1 n2 n3;simp only [ZaJ,ZaW,show 6 - 2=4 from rfl,show 9 - 7=2 from rfl] at n1 n2 n3 bd be bf;generalize Zab ((a.data.toList.drop 2).take 4)=s at *;generalize Zab ((a.data.toList.drop 6).take 1)=A at *;generalize Zab ((a.data.toList.drop 7).take 2)=t at *;generalize Zab ((a.data.toList.drop 9).take 2)=kk at *;have dn:A<=255:=by omega
 have b7:(a.extract 11 a.size).size<=48/\(a.extract 11 a.size).size≠0:=by simp;omega
 have Z:=jp b7;have al:bits .and .i64 (A:Int) (J:Int)=((A &&& J:Nat):Int):=Oi A J (by omega) (by omega);obtain ⟨PC,bg⟩:∃P,P=a.extract 11 a.size:=⟨_,rfl⟩;rw [<-bg] at Q Z;have ct:=jp bg;have de:(s:Int)<=9223372036854775807:=by have h1:=n1.1;have h2:=n1.2;omega
 clear bg ah N ak Y b7 n1
 have dp:t<65536:=by
  have:(t:Int)<65536:=by simpa using n2.2
  omega
 have cu:kk<65536:=by
  have:(kk:Int)<65536:=by simpa using n3.2
  omega
 clear n2 n3;go_wp2_with fail;refine (bd _).mono ?_;rintro e w2 ⟨rfl,rfl⟩;go_wp2_with fail;refine (be _).mono ?_;rintro e w2 ⟨rfl,rfl⟩;go_wp2_with fail;refine (bf _).mono ?_;rintro e w2 ⟨rfl,rfl⟩;clear av aw b1 bd be bf;have b8:=Zdn p (J:Int) H hx i d z X w1 n.out.2.1 bs.out;have K:Hid (¬(Zcs hx<(s:Int)/\i<=(s:Int)/\kk<t/\A &&& J≠0)->F hx i d G X):=fun e=>by rw [HF.out];exact Zd6 Q.out e
 generalize b9:Zcs hx=hg at *;have cv:=jp b9;clear b9;go_wp2_with fail;refine b8.mono ?_;rintro e w2 ⟨rfl,rfl⟩;clear b8 bs;obtain ⟨c0,c1,c2,c3,c4,c5⟩:=n.out.2.1.1;clear hA hB bu bv bt a5 a6 a7
 try rw [b6]
 clear b6 b5;by_cases e1:(s:Int)<=hg
 .have ca:decide ((s:Int)<=hg)=true:=jL e1;have o:=jp (K.out (fun k=>by omega));clear K;go_wp2;(first|((try simp only [Exit.inBlock,Exit.then]);refine bodyPost_ret (results_none rfl _ _ _) rfl ?_)|go_end0);exact n.out.done o.out
 have ca:decide ((s:Int)<=hg)=false:=jK e1;by_cases e2:(s:Int)<i
 .have cb:decide ((s:Int)<i)=true:=jL e2;have o:=jp (K.out (fun k=>by omega));clear K;go_wp2;(first|((try simp only [Exit.inBlock,Exit.then]);refine bodyPost_ret (results_none rfl _ _ _) rfl ?_)|go_end0);exact n.out.done o.out
 have cb:decide ((s:Int)<i)=false:=jK e2;by_cases e3:t<=kk
 .have cc:decide ((kk:Int)>=(t:Int))=true:=jL (by omega);have o:=jp (K.out (fun k=>by omega));clear K;go_wp2;(first|((try simp only [Exit.inBlock,Exit.then]);refine bodyPost_ret (results_none rfl _ _ _) rfl ?_)|go_end0);exact n.out.done o.out
 have cc:decide ((kk:Int)>=(t:Int))=false:=jK (by omega);have W:0<s:=by omega
 by_cases bh:A &&& J=0
 .have e4:(((A &&& J:Nat):Int)==0)=true:=by rw [bh];rfl
  have o:=jp (K.out (fun k=>k.2.2.2 bh));rw [<-al] at e4;clear K;go_wp2;(first|((try simp only [Exit.inBlock,Exit.then]);refine bodyPost_ret (results_none rfl _ _ _) rfl ?_)|go_end0);exact n.out.done o.out
 have e4:(((A &&& J:Nat):Int)==0)=false:=by rw [jI];omega
 rw [<-al] at e4;have cw:t<=65535:=by omega
 have cx:kk<t:=by omega
 have HW:Hid (Zcs hx<(s:Int)/\i<=(s:Int)/\kk<t/\A &&& J≠0):=by rw [cv.out];exact ⟨by omega,by omega,cx,bh⟩
 clear K cu al;go_upto_if 108 with fail
 go_cut [7] (fun u wc=>u= .int .i64 (A:Int)/\∃(f:Int) (a8:ju) (M:List ByteArray),Hid (ZcI i d G s A t f M)/\CN w p (J:Int) H z (s:Int) f a8 M X wc)
 case first=>
  by_cases e5:i<s
  .have cy:decide ((s:Int)>i)=true:=jL e5;have L:Hid (ZcI i d G s A t (A:Int) (List.replicate t ByteArray.empty)):=Or.inl ⟨e5,rfl,rfl⟩;have f2:=n.out.2.1.2 2;have f3:=n.out.2.1.2 3;have f4:=n.out.2.1.2 4;have cd:p<w1.heap.size:=jF c0;go_wp2_with (first|(at_make;refine wpList_make_full _ rfl _ _ 36 rfl w1.heap.size 9 i0 (.string ByteArray.empty) 1 Tryz.underlying36 hi cr av _ _ _ _ t rfl rfl rfl rfl ?b2 ?b3 ?b4 ?_))
   case b2=>first|omega|(rw [aw];omega)
   case b3=>unfold maxLen;omega
   case b4=>simp [World.setCell]
   intro w3 am ce;have az:=(jD _).grown ce (fun g hg=>by cases hg);have cz:=jp (n.out.fresh (x:=(s:Int)) (y:=(A:Int)) ⟨by omega,by omega⟩ ⟨by omega,by omega⟩ cw az (Di.made am) cd);have d4:w3.cell? ⟨p,4,none⟩=some z:=az.cell ((Ad (by simp)).trans ((Ad (by simp)).trans c4));have g4:w3.frozen? ⟨p,4,none⟩=false:=az.frozen ((Ad (by simp)).trans ((Ad (by simp)).trans c4)) (by rw [Ag,Ag];exact f4);clear am ce az;go_wp2;go_meet
   case rel=>exact ⟨rfl,_,_,_,L,cz.out⟩
  .have cy:decide ((s:Int)>i)=false:=jK e5;have bi:i=(s:Int):=by omega
   have L:Hid (ZcI i d G s A t d G):=Or.inr ⟨bi,rfl,rfl⟩;have c6:Hid (CN w p (J:Int) H z (s:Int) d z G X w1):=by rw [<-bi];exact n.out
   clear bi;go_wp2;go_meet
   case rel=>exact ⟨rfl,d,z,G,L,c6.out⟩
 case rest=>
  obtain ⟨rfl,f,a8,M,L,hI⟩:=hcut;have R:=jp hI;obtain ⟨d0,d1,d2,d3,d4,d5⟩:=hI.2.1.1;have cf:=hI.2.2.2.2.1;have cg:=jp hI.2.1.2;clear hI n c0 c1 c2 c3 c4 c5 e4 ca cb cc;generalize wc=w2 at *;have S:Hid (¬((A:Int)=f/\t=M.length)->F hx (s:Int) f M X):=fun e=>by rw [HF.out];exact Zft Q.out W L.out e
  by_cases an:(A:Int)=f
  rotate_left
  .have e6:((A:Int) !=f)=true:=by rw [bne_iff_ne];exact an
   have o:=jp (S.out (fun k=>an k.1));clear S;rcases cf with ⟨rfl,rfl⟩|⟨g,cap,rfl, -, -⟩
   all_goals
    go_wp2;(first|((try simp only [Exit.inBlock,Exit.then]);refine bodyPost_ret (results_none rfl _ _ _) rfl ?_)|go_end0);exact R.out.done o.out
  have e6:((A:Int) !=f)=false:=by rw [jc];exact an
  rcases cf with ⟨rfl,rfl⟩|⟨g,cap,rfl,dq,ao⟩
  .have e7:((t:Int) !=0)=true:=by rw [bne_iff_ne];omega
   have o:=jp (S.out (fun k=>by have:=k.2;simp at this;omega));clear S;go_wp2;(first|((try simp only [Exit.inBlock,Exit.then]);refine bodyPost_ret (results_none rfl _ _ _) rfl ?_)|go_end0);exact R.out.done o.out
  by_cases h7:t=M.length
  rotate_left
  .have e7:((t:Int) !=(M.length:Int))=true:=by rw [bne_iff_ne];omega
   have o:=jp (S.out (fun k=>h7 k.2));clear S;go_wp2;(first|((try simp only [Exit.inBlock,Exit.then]);refine bodyPost_ret (results_none rfl _ _ _) rfl ?_)|go_end0);exact R.out.done o.out
  have H7:=jp h7;have H6:=jp an;have aa:kk<M.length:=by omega
  rw [<-h7] at d4 R;have e7:((t:Int) !=(t:Int))=false:=by simp
  have f5:=cg.out 5;have au:g≠p:=(R.out.2.2.2.2.2.2 g rfl).1;obtain ⟨k0,k1, -⟩:=ao kk _ (jG aa);generalize M[kk]=s0 at k0;have x4:(w2.setCell ⟨p,5,none⟩ (.bool false)).cell? ⟨p,4,none⟩=some (.slice (some ⟨g,0,none⟩) t cap):=(Ad (by simp)).trans d4;have xk:(w2.setCell ⟨p,5,none⟩ (.bool false)).cell? ⟨g,kk,none⟩=some (.string s0):=(Ad (Or.inl au.symm)).trans k0;have fk:(w2.setCell ⟨p,5,none⟩ (.bool false)).frozen? ⟨g,kk,none⟩=false:=by rw [Ag];exact k1
  have HP:Hid (∀wx,Aa (w2.setCell ⟨p,5,none⟩ (.bool false)) wx->CN w p (J:Int) H z (s:Int) f (.slice (some ⟨g,0,none⟩) t cap) (M.set kk PC) false (wx.setCell ⟨g,kk,none⟩ (.string (a.extract 11 a.size)))):=fun wx hb=>by
   have:=R.out.piece H7.out (k:=kk) Z.out.1 hb;rw [<-ct.out];exact this
  have a0:Hid (Zcz (M.set kk PC)=false->F hx (s:Int) f (M.set kk PC) false):=fun e=>by rw [HF.out];exact Zfg Q.out W HW.out L.out H6.out H7.out Z.out.2 e
  have a1:Hid (Zcz (M.set kk PC)=true->(∀c2 B2 E2,Bj (ZcU (M.set kk PC)).data.toList≠some (A,s,c2,B2,E2))->F hx 0 f [] false):=fun e k=>by rw [HF.out];exact Zfa Q.out W HW.out L.out H6.out H7.out Z.out.2 e k
  have a2:Hid (∀c B E,Zcz (M.set kk PC)=true->Bj (ZcU (M.set kk PC)).data.toList=some (A,s,{c with formats:=0},B,E.map (Zai B))->F (some (c,(s:Int),B,E)) 0 f [] false):=fun c B E e k=>by rw [HF.out];exact ZeP Q.out W HW.out L.out H6.out H7.out Z.out.2 e k
  have bj:Hid ((M.set kk PC).length=t):=by show _=t;rw [List.length_set,H7.out]
  clear ao k0 k1 R d0 d1 d2 S HF Q HW L H6 H7 h7 aa an Z;generalize M.set kk PC=G2 at *;go_upto_region 18 with fail
  generalize w2.setCell ⟨p,5,none⟩ (.bool false)=w3 at *;have c7:p<w3.heap.size:=jF x4;have ch:g<w3.heap.size:=jF xk;go_cut [9] (fun u wc=>u= .int .i64 (kk:Int)/\CN w p (J:Int) H z (s:Int) f (.slice (some ⟨g,0,none⟩) t cap) G2 false wc)
  case first=>
   go_region_with fail
   all_goals
    go_wp2;go_meet
    case rel=>first|exact ⟨rfl,HP.out _ jq⟩|exact ⟨rfl,(HP.out _ jq).later jq⟩
  case rest=>
   obtain ⟨rfl,hI⟩:=hcut;clear x4 xk fk HP c7 ch d3 d4 d5 cg f5;generalize wc=w4 at *;have ci:=jp hI;obtain ⟨d0,d1,d2,d3,d4,d5⟩:=hI.2.1.1;have f1:=hI.2.1.2 1;have f2:=hI.2.1.2 2;have f4:=hI.2.1.2 4
   obtain ao:∀j (hj:j<G2.length),w4.cell? ⟨g,j,none⟩=some (.string G2[j])/\(G2[j]).size<=48:=fun j hj=>by
    rcases hI.2.2.2.2.1 with ⟨h,_⟩|⟨g',df,hv, -,hc⟩
    .cases h
    .simp only [Value.slice.injEq,Option.some.injEq,Addr.mk.injEq,and_true] at hv;obtain ⟨rfl, -⟩:=hv;obtain ⟨h1, -,h3⟩:=hc j _ (jG hj);exact ⟨h1,h3⟩
   have cj:=jp ao;clear hI ao;go_wp2;go_loopg [11,12,13] t (fun r va vw vi wr=>w4=wr/\∃(k:Nat) (I:jt) (wh:Bool),r=t - k/\k<=t/\va= .string I/\vw= .bool wh/\vi= .int .i64 k/\I.size<=48 * k/\Hid (I=ZcU (G2.take k))/\Hid (wh=Zcz (G2.take k)))
   case atStart=>exact ⟨rfl,0,_,true,by omega,by omega,rfl,rfl,rfl,by decide,rfl,rfl⟩
   case round=>
    obtain ⟨rfl,k,I,wh,dr,hk,rfl,rfl,rfl,dg,ab,T⟩:=hrel;by_cases ds:k<t
    .have c8:decide ((k:Int)<(t:Int))=true:=jL (by omega);have aa:k<G2.length:=by have:=bj.out;omega
     obtain ⟨q1,q2⟩:=cj.out k aa;have bk:=jp (ZeK aa ab.out);have U:=jp (ZeQ aa);generalize G2[k]=s1 at *;have dh:(k:Int)<(t:Int):=by omega
     have bl:Hid ((I++s1).size<=48 * (k+1)):=by show (I++s1).size<=_;rw [jY];omega
     rw [<-T.out] at U;clear ab T a0 a1 a2;cases wh
     .have ap:Hid (false=Zcz (G2.take (k+1))):=by show _=_;rw [U.out];rfl
      clear U;go_wp2;go_roundg (t - (k+1))
      case measure=>omega
      case rel=>exact ⟨rfl,k+1,_,false,rfl,by omega,rfl,rfl,by go_num,bl.out,bk,ap⟩
     .cases ck:s1.toList.isEmpty
      .have ap:Hid (true=Zcz (G2.take (k+1))):=by show _=_;rw [U.out,ck];rfl
       clear U;go_wp2;go_roundg (t - (k+1))
       case measure=>omega
       case rel=>exact ⟨rfl,k+1,_,true,rfl,by omega,rfl,rfl,by go_num,bl.out,bk,ap⟩
      .have ap:Hid (false=Zcz (G2.take (k+1))):=by show _=_;rw [U.out,ck];rfl
       clear U;go_wp2;go_roundg (t - (k+1))
       case measure=>omega
       case rel=>exact ⟨rfl,k+1,_,false,rfl,by omega,rfl,rfl,by go_num,bl.out,bk,ap⟩
    .have c8:decide ((k:Int)<(t:Int))=false:=jK (by omega);have cl:G2.take k=G2:=jR (by have:=bj.out;omega);rw [cl] at ab T;clear cl bj;cases wh
     .have o:=jp (a0.out T.out.symm);clear a0 a1 a2;go_wp2;(first|((try simp only [Exit.inBlock,Exit.then]);refine bodyPost_ret (results_none rfl _ _ _) rfl ?_)|go_end0);exact ci.out.done o.out
     .have cm:=jp ci.out.over;have c9:I.size<=1099511627776:=by omega
      have a9:=cm.out.1.size;have cn:=jp a9;have D:Hid ((∀c2 B2 E2,Bj I.data.toList≠some (A,s,c2,B2,E2))->F hx 0 f [] false):=fun e=>a1.out T.out.symm (by rw [<-ab.out];exact e)
      have O:Hid (∀c B E,Bj I.data.toList=some (A,s,{c with formats:=0},B,E.map (Zai B))->F (some (c,(s:Int),B,E)) 0 f [] false):=fun c B E e=>a2.out c B E T.out.symm (by rw [<-ab.out];exact e)
      clear a9 cj a0 a1 a2 T ab;go_wp2_with fail;refine (Zc1 I _ c9).mono ?_;rintro e w6 ⟨v,rf,ok,rfl,da,bm,bn⟩;have ac:=jp (cm.out.later da);cases ok
      .have o:=jp (D.out (fun c2 B2 E2 e=>by rw [bm rfl] at e;cases e));clear bn bm D O;go_wp2
       all_goals (first|((try simp only [Exit.inBlock,Exit.then]);refine bodyPost_ret (results_none rfl _ _ _) rfl ?_)|go_end0)
       all_goals exact ac.out.done o.out
      .obtain ⟨q,c,rg,B,E,rfl,hq,ad,aq,a3,dt,du, -, -, -,di,ae⟩:=bn rfl;have s6:w6.cell? ⟨q,6,none⟩=some (.int .i64 rg):=by obtain ⟨vB,vE,⟨_,h6,_⟩,_⟩:=ad;exact h6
       have x1:=ac.out.2.1.1.2.1;have y1:=ac.out.2.1.2 1;clear bn bm d0 d1 d2 d3 d4 d5 f1 f2 f4;by_cases af:rg=(s:Int)
       rotate_left
       .have db:(rg==(s:Int))=false:=by rw [jI];exact af
        have o:=jp (D.out (fun c2 B2 E2 e=>af (by rw [ae] at e;simp only [Option.some.injEq,Prod.mk.injEq] at e;omega)));clear ae D O ad aq a3;go_wp2
        all_goals (first|((try simp only [Exit.inBlock,Exit.then]);refine bodyPost_ret (results_none rfl _ _ _) rfl ?_)|go_end0)
        all_goals exact ac.out.done o.out
       have db:(rg==(s:Int))=true:=by rw [beq_iff_eq];exact af
       by_cases ar:rf=(A:Int)
       rotate_left
       .have co:(rf==(A:Int))=false:=by rw [jI];exact ar
        have o:=jp (D.out (fun c2 B2 E2 e=>ar (by rw [ae] at e;simp only [Option.some.injEq,Prod.mk.injEq] at e;omega)));clear ae D O ad aq a3;go_wp2
        all_goals (first|((try simp only [Exit.inBlock,Exit.then]);refine bodyPost_ret (results_none rfl _ _ _) rfl ?_)|go_end0)
        all_goals exact ac.out.done o.out
       have co:(rf==(A:Int))=true:=by rw [beq_iff_eq];exact ar
       have o:=jp (O.out c B E (by rw [ae,af,ar,Int.toNat_natCast,Int.toNat_natCast]));rw [af] at ad aq;have dc:=jp (ac.out.holds o.out ad cn.out cq aq a3 (hx:=hx));clear ae D O ad aq a3 af ar;go_wp2
       all_goals (first|((try simp only [Exit.inBlock,Exit.then]);refine bodyPost_ret (results_none rfl _ _ _) rfl ?_)|go_end0)
       all_goals exact dc.out
end Go.Proofs.YtpapdkhjdelfcaaGreat
